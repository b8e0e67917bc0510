/- Bytes and tokens in memory: slices that read as bytes, as tokens. -/
import Derived.Test.YtjibbekojbaopaaLMath
import Derived.Test.YtjibbekojbaopaaExt
import Derived.Test.YtjibbekojbaopaaProg
import Derived.Deep.DrawnRows
import Derived.Laws.AppendOwn
import Derived.Laws.OwnMore
import Derived.Laws.IdiomStrings
import Derived.OwnWalk
import Derived.LoopTactic
import Derived.Deep.DeepCutAuto
namespace Go.Proofs.Ytjibbekojbaopaa
open Go.RowKit
set_option linter.unusedVariables false
set_option linter.unusedSimpArgs false
theorem add_block (ad : Addr) (n : Nat) : (ad.add n).block = ad.block := by unfold Addr.add; split <;> rfl
theorem add_plain (b o n : Nat) : (⟨b, o, none⟩ : Addr).add n = ⟨b, o + n, none⟩ := by unfold Addr.add; split <;> simp_all
/-- v is a slice that reads as the bytes l -/
def By (w : World) (v : Value) (l : List UInt8) : Prop := ∃ a cap, v = .slice a l.length cap ∧ l.length ≤ cap ∧ ∀ k, k < l.length → ∃ ad, a = some ad ∧ ad.block < w.heap.size ∧ w.cell? (ad.add k) = some (.int .u8 ((l.getD k 0).toNat : Int))
theorem By.keep {w w' : World} {v : Value} {l : List UInt8} (h : By w v l) (hk : Keep w w') : By w' v l := by
  obtain ⟨a, cap, rfl, hc, h⟩ := h
  refine ⟨a, cap, rfl, hc, fun k hlt => ?_⟩
  obtain ⟨ad, h0, h1, h2⟩ := h k hlt
  exact ⟨ad, h0, Nat.lt_of_lt_of_le h1 (Below.size hk), by rw [Below.cell hk (by rw [add_block]; exact h1)]; exact h2⟩
theorem By.shape {w : World} {v : Value} {l : List UInt8} (h : By w v l) : ∃ a cap, v = .slice a l.length cap := by obtain ⟨a, cap, rfl, _⟩ := h; exact ⟨a, cap, rfl⟩
end Go.Proofs.Ytjibbekojbaopaa

namespace Go.Proofs.Ytjibbekojbaopaa
open Go.RowKit
attribute [local go_sem ↓] Go.wp_at_zero Go.wp_at_succ
set_option linter.unusedVariables false
set_option linter.unusedSimpArgs false
set_option maxRecDepth 10000
/-- the cells of a slice are the numbers C -/
def Cy (w : World) (a : Option Addr) (n : Nat) (C : Nat → Int) : Prop := ∀ k, k < n → ∃ ad, a = some ad ∧ ad.block < w.heap.size ∧ w.cell? (ad.add k) = some (.int .u8 (C k))
theorem Cy.keep {w w' : World} {a : Option Addr} {n : Nat} {C : Nat → Int} (h : Cy w a n C) (hk : Keep w w') : Cy w' a n C := by
  intro k hlt
  obtain ⟨ad, h0, h1, h2⟩ := h k hlt
  exact ⟨ad, h0, Nat.lt_of_lt_of_le h1 (Below.size hk), by rw [Below.cell hk (by rw [add_block]; exact h1)]; exact h2⟩
theorem By.cy {w : World} {a : Option Addr} {n cap : Nat} {l : List UInt8} (h : By w (.slice a n cap) l) : Cy w a l.length (fun k => ((l.getD k 0).toNat : Int)) := by
  obtain ⟨a', cap', e, _, h⟩ := h
  injection e with e1 e2 e3
  subst e1
  exact h
end Go.Proofs.Ytjibbekojbaopaa

namespace Go.Proofs.Ytjibbekojbaopaa
open Go.RowKit
set_option linter.unusedVariables false
set_option linter.unusedSimpArgs false
/-- a token: its kind, its bytes, its number, its place -/
structure Tok where
  k : Int
  s : List UInt8
  n : Int
  p : Int
deriving DecidableEq
/-- the number that digits tell -/
def num (l : List UInt8) : Int := l.foldl (fun v c => v * 10 + ((c.toNat : Int) - 48)) 0
/-- the token at the front of bytes, or which error -/
def one (r : List UInt8) (p : Nat) : Except Int Tok :=
  match r with
  | [] => .ok ⟨0, [], 0, p⟩
  | c :: _ =>
    if kd c.toNat = 4 then (if 24 < en r then .error 4 else .ok ⟨1, r.take (en r), 0, p⟩)
    else if kd c.toNat = 5 then (if 18 < en r then .error 4 else .ok ⟨2, r.take (en r), num (r.take (en r)), p⟩)
    else if kd c.toNat = 7 then .ok ⟨3, r.take (en r), 0, p⟩
    else .error 40
/-- an answer behind tokens -/
def pre (acc : List Tok) : Except (Int × Nat) (List Tok) → Except (Int × Nat) (List Tok)
  | .error x => .error x
  | .ok r => .ok (acc ++ r)
/-- all tokens, with fuel -/
def tkz : Nat → List UInt8 → Nat → Except (Int × Nat) (List Tok)
  | 0, _, _ => .ok []
  | f + 1, r, p =>
    match one (r.drop (skp false r)) (p + skp false r) with
    | .error e => .error (e, p + skp false r)
    | .ok t => if t.k = 0 then .ok [t] else pre [t] (tkz f ((r.drop (skp false r)).drop t.s.length) (p + skp false r + t.s.length))
theorem en_pos (c : UInt8) (r : List UInt8) : 1 ≤ en (c :: r) := by simp [en]
theorem one_ok {r : List UInt8} {p : Nat} {t : Tok} (h : one r p = .ok t) : t.p = p ∧ ((r = [] ∧ t = ⟨0, [], 0, p⟩) ∨ (t.k ≠ 0 ∧ r ≠ [] ∧ t.s = r.take (en r) ∧ t.s.length = en r ∧ 1 ≤ en r ∧ en r ≤ 24)) := by
  cases r with
  | nil => simp only [one, Except.ok.injEq] at h; subst h; exact ⟨rfl, .inl ⟨rfl, rfl⟩⟩
  | cons c r =>
    have h1 := en_pos c r
    have h2 := en_le (c :: r)
    have h3 : ((c :: r).take (en (c :: r))).length = en (c :: r) := by rw [List.length_take]; omega
    simp only [one] at h
    split at h
    · split at h
      · cases h
      · simp only [Except.ok.injEq] at h; subst h; exact ⟨rfl, .inr ⟨by simp, by simp, rfl, h3, h1, by omega⟩⟩
    · split at h
      · split at h
        · cases h
        · simp only [Except.ok.injEq] at h; subst h; exact ⟨rfl, .inr ⟨by simp, by simp, rfl, h3, h1, by omega⟩⟩
      · split at h
        · rename_i h7
          have e : en (c :: r) = 1 := by
            have : tw (goes c) r = 0 := tw_none fun x => by unfold goes; rw [h7]; unfold on; simp
            simp [en, this]
          simp only [Except.ok.injEq] at h; subst h; exact ⟨rfl, .inr ⟨by simp, by simp, rfl, h3, h1, by omega⟩⟩
        · cases h
/-- all tokens of bytes, the first one of which stands at a place -/
def tk (r : List UInt8) (p : Nat) : Except (Int × Nat) (List Tok) := tkz (r.length + 1) r p
/-- all tokens of a text, or the error and its place -/
def T (l : List UInt8) : Except (Int × Nat) (List Tok) := if 65536 < l.length then .error (4, 65536) else tk l 0
/-- the text of a token as a value -/
def sv (l : List UInt8) : ByteArray := ⟨l.toArray⟩
/-- a token as a value -/
def tv (t : Tok) : Value := .agg #[.int .i64 t.k, .string (sv t.s), .int .i64 t.n, .int .i64 t.p]
/-- tokens as cells -/
def tc : List Tok → List Value
  | [] => []
  | t :: l => .int .i64 t.k :: .string (sv t.s) :: .int .i64 t.n :: .int .i64 t.p :: tc l
def t0 : Tok := ⟨0, [], 0, 0⟩
/-- the four cells of a token -/
def Tc (w : World) (ad : Addr) (t : Tok) : Prop := w.cell? ad = some (.int .i64 t.k) ∧ w.cell? ⟨ad.block, ad.off + 1, none⟩ = some (.string (sv t.s)) ∧ w.cell? ⟨ad.block, ad.off + 2, none⟩ = some (.int .i64 t.n) ∧ w.cell? ⟨ad.block, ad.off + 3, none⟩ = some (.int .i64 t.p)
theorem Tc.keep {w w' : World} {ad : Addr} {t : Tok} (h : Tc w ad t) (hb : ad.block < w.heap.size) (hk : Keep w w') : Tc w' ad t := by
  obtain ⟨h0, h1, h2, h3⟩ := h
  refine ⟨?_, ?_, ?_, ?_⟩
  · rw [Below.cell hk hb]; exact h0
  · rw [Below.cell (p := ⟨ad.block, ad.off + 1, none⟩) hk hb]; exact h1
  · rw [Below.cell (p := ⟨ad.block, ad.off + 2, none⟩) hk hb]; exact h2
  · rw [Below.cell (p := ⟨ad.block, ad.off + 3, none⟩) hk hb]; exact h3
/-- v is a slice that reads as the tokens L -/
def Ts (w : World) (v : Value) (L : List Tok) : Prop := ∃ a cap, v = .slice a L.length cap ∧ L.length ≤ cap ∧ ∀ k, k < L.length → ∃ ad, a = some ad ∧ ad.block < w.heap.size ∧ Tc w (ad.add (k * 4)) (L.getD k t0)
theorem Ts.keep {w w' : World} {v : Value} {L : List Tok} (h : Ts w v L) (hk : Keep w w') : Ts w' v L := by
  obtain ⟨a, cap, rfl, hc, h⟩ := h
  refine ⟨a, cap, rfl, hc, fun k hlt => ?_⟩
  obtain ⟨ad, h0, h1, h2⟩ := h k hlt
  exact ⟨ad, h0, Nat.lt_of_lt_of_le h1 (Below.size hk), h2.keep (by rw [add_block]; exact h1) hk⟩
theorem Ts.shape {w : World} {v : Value} {L : List Tok} (h : Ts w v L) : ∃ a cap, v = .slice a L.length cap := by obtain ⟨a, cap, rfl, _⟩ := h; exact ⟨a, cap, rfl⟩
end Go.Proofs.Ytjibbekojbaopaa

namespace Go.Proofs.Ytjibbekojbaopaa
open Go.RowKit
set_option linter.unusedVariables false
set_option linter.unusedSimpArgs false
/-- what is read: a plain value, or a slice of structs -/
inductive D where
  | val (v : Value)
  | row (e z : Nat) (L : List (List D))
abbrev Er := Int × Int
abbrev Rs := Except Er (List D × List Tok)
/-- a step: what was read so far, and the tokens that are left -/
abbrev Sp := List D → List Tok → Rs
def dS (s : List UInt8) : D := .val (.string (sv s))
def dI (n : Int) : D := .val (.int .i64 n)
def dB (b : Bool) : D := .val (.bool b)
end Go.Proofs.Ytjibbekojbaopaa

namespace Go.Proofs.Ytjibbekojbaopaa
set_option linter.unusedVariables false
set_option linter.unusedSimpArgs false
/-- tokens that end as they should -/
def W (r : List Tok) : Prop := ∃ m e, r = m ++ [e] ∧ e.k = 0 ∧ e.s = []
theorem W.ne {r : List Tok} (h : W r) : r ≠ [] := by obtain ⟨m, e, rfl, _⟩ := h; simp
end Go.Proofs.Ytjibbekojbaopaa

namespace Go.Proofs.Ytjibbekojbaopaa
set_option linter.unusedVariables false
set_option linter.unusedSimpArgs false
/-- a token without its place -/
def q0 (t : Tok) : Tok := ⟨t.k, t.s, t.n, 0⟩
/-- does a thing of so many parts have a place (it stands last)? -/
def plc (z : Nat) : Bool := z == 3 || z == 6 || z == 7 || z == 11
mutual
/-- what is read without its places -/
def Z : D → D
  | .val v => .val v
  | .row e z L => .row e z (Zss (plc z) L)
def Zl : Bool → List D → List D
  | _, [] => []
  | b, d :: ds => (if b && ds.isEmpty then dI 0 else Z d) :: Zl b ds
def Zss : Bool → List (List D) → List (List D)
  | _, [] => []
  | b, ds :: L => Zl b ds :: Zss b L
end
end Go.Proofs.Ytjibbekojbaopaa

namespace Go.Proofs.Ytjibbekojbaopaa
open Go.RowKit
set_option linter.unusedVariables false
set_option linter.unusedSimpArgs false
/-- a step behind what was read -/
def bnd (X : Rs) (p : Sp) : Rs := match X with
  | .error x => .error x
  | .ok (c, r) => p c r
/-- a thing of its own behind what was read -/
def bnb (X : Rs) (p : List Tok → Rs) : Rs := match X with
  | .error x => .error x
  | .ok (_, r) => p r
/-- nothing was read yet -/
def fresh : Rs → Rs
  | .error x => .error x
  | .ok (_, r) => .ok ([], r)
theorem bnd_fresh (X : Rs) (p : Sp) : bnd (fresh X) p = bnb X (p []) := by rcases X with x | ⟨c, r⟩ <;> rfl
/-- if all is well behind it, all was well ahead of it, and so much was added -/
def Got (X Y : Rs) (ds : List D) : Prop := ∀ c r, Y = .ok (c, r) → ∃ c0 r0, X = .ok (c0, r0) ∧ c = c0 ++ ds
theorem Got.refl (X : Rs) : Got X X [] := fun c r h => ⟨c, r, h, by simp⟩
theorem Got.trans {X Y Z : Rs} {a b : List D} (h : Got X Y a) (k : Got Y Z b) : Got X Z (a ++ b) := fun c r e => by
  obtain ⟨c1, r1, h1, rfl⟩ := k c r e
  obtain ⟨c0, r0, h0, rfl⟩ := h c1 r1 h1
  exact ⟨c0, r0, h0, by simp⟩
/-- from nothing on, what was read is what was added -/
theorem Got.all {X : Rs} {p : Sp} {ds : List D} (h : Got (fresh X) (bnd (fresh X) p) ds) : ∀ c r, bnb X (p []) = .ok (c, r) → c = ds := fun c r e => by
  rw [← bnd_fresh] at e
  obtain ⟨c0, r0, h0, rfl⟩ := h c r e
  rcases X with x | ⟨c1, r1⟩
  · cases h0
  · simp only [fresh, Except.ok.injEq, Prod.mk.injEq] at h0
    rw [← h0.1]; rfl
/-- how tokens are made -/
def Kf (t : Tok) : Prop := (t.k = 0 → t.s = []) ∧ (t.k = 2 → ∃ c s, t.s = c :: s ∧ 48 ≤ c.toNat ∧ c.toNat ≤ 57)
end Go.Proofs.Ytjibbekojbaopaa

namespace Go.Proofs.Ytjibbekojbaopaa
open Go.RowKit
attribute [local go_sem ↓] Go.wp_at_zero Go.wp_at_succ
set_option linter.unusedVariables false
set_option linter.unusedSimpArgs false
set_option maxRecDepth 10000
theorem info_parts {t : TypeId} {z : Value} {a b : Nat} (h : (Try.prog.info? t).map (fun i => (i.zero, i.size, i.bytes)) = some (some z, a, b)) : ∃ i, Try.prog.info? t = some i ∧ i.zero = some z ∧ i.size = a ∧ i.bytes = b := by
  cases hi : Try.prog.info? t with
  | none => rw [hi] at h; cases h
  | some i => rw [hi] at h; simp at h; exact ⟨i, rfl, h.1, h.2.1, h.2.2⟩
theorem Keep.grown {w w' : World} (h : Keep w w') : w.grownBy w' none := ⟨h.1, h.2, h.3, h.4, fun i hi _ => h.5 i hi⟩
end Go.Proofs.Ytjibbekojbaopaa

namespace Go.Proofs.Ytjibbekojbaopaa
open Go.RowKit
set_option linter.unusedVariables false
set_option linter.unusedSimpArgs false
mutual
/-- u reads as a tree, all slices of which lie in blocks of P, apart from one another along the tree -/
def Rd (w : World) : D → (Nat → Prop) → Value → Prop
  | .val v, P, u => u = v ∧ v.oneCell' = true
  | .row e z L, P, u => ∃ xs : List Value, w.ownsRow 0 e z u L.length xs ∧ (∀ g, u.ownBlock = some g → P g) ∧ Rdss w L (fun b => P b ∧ u.ownBlock ≠ some b) z xs
def Rds (w : World) : List D → (Nat → Prop) → List Value → Prop
  | [], P, xs => xs = []
  | d :: ds, P, xs => ∃ u us, xs = u :: us ∧ Rd w d P u ∧ Rds w ds P us
def Rdss (w : World) : List (List D) → (Nat → Prop) → Nat → List Value → Prop
  | [], P, z, xs => xs = []
  | ds :: L, P, z, xs => ∃ ys zs, xs = ys ++ zs ∧ ys.length = z ∧ Rds w ds P ys ∧ Rdss w L P z zs
end
theorem own_at {w w' : World} {base e z n : Nat} {v : Value} {xs : List Value} (h : w.ownsRow base e z v n xs) (hk : ∀ g, v.ownBlock = some g → w'.heap[g]? = w.heap[g]?) : w'.ownsRow base e z v n xs := by
  refine ⟨h.1, ?_⟩
  rcases h.2 with hn | ⟨g, cap, cur, rfl, hb, hgg, rest⟩
  · exact .inl hn
  · exact .inr ⟨g, cap, cur, rfl, hb, by rw [hk g rfl]; exact hgg, rest⟩
mutual
theorem Rd.move {w w' : World} : ∀ (d : D) (P P' : Nat → Prop) (u : Value), Rd w d P u → (∀ b, P b → b < w.heap.size → w'.heap[b]? = w.heap[b]? ∧ P' b) → Rd w' d P' u
  | .val v, P, P', u, h, hk => h
  | .row e z L, P, P', u, h, hk => by
    simp only [Rd] at h ⊢
    obtain ⟨xs, h1, h2, h3⟩ := h
    have hlt : ∀ g, u.ownBlock = some g → g < w.heap.size := fun g hg => (h1.lt g hg).2
    exact ⟨xs, own_at h1 (fun g hg => (hk g (h2 g hg) (hlt g hg)).1), fun g hg => (hk g (h2 g hg) (hlt g hg)).2, Rdss.move L _ _ z xs h3 (fun b hb hl => ⟨(hk b hb.1 hl).1, (hk b hb.1 hl).2, hb.2⟩)⟩
theorem Rds.move {w w' : World} : ∀ (ds : List D) (P P' : Nat → Prop) (us : List Value), Rds w ds P us → (∀ b, P b → b < w.heap.size → w'.heap[b]? = w.heap[b]? ∧ P' b) → Rds w' ds P' us
  | [], P, P', us, h, hk => h
  | d :: ds, P, P', us, h, hk => by
    simp only [Rds] at h ⊢
    obtain ⟨v, vs, h0, h1, h2⟩ := h
    exact ⟨v, vs, h0, Rd.move d P P' v h1 hk, Rds.move ds P P' vs h2 hk⟩
theorem Rdss.move {w w' : World} : ∀ (L : List (List D)) (P P' : Nat → Prop) (z : Nat) (us : List Value), Rdss w L P z us → (∀ b, P b → b < w.heap.size → w'.heap[b]? = w.heap[b]? ∧ P' b) → Rdss w' L P' z us
  | [], P, P', z, us, h, hk => h
  | ds :: L, P, P', z, us, h, hk => by
    simp only [Rdss] at h ⊢
    obtain ⟨ys, zs, h0, h1, h2, h3⟩ := h
    exact ⟨ys, zs, h0, h1, Rds.move ds P P' ys h2 hk, Rdss.move L P P' z zs h3 hk⟩
end
/-- how a block is made: how many cells, of which type, which of them stand fast -/
def shp (w : World) (b : Nat) : Option (Nat × TypeId × (Nat × Nat)) := match w.heap[b]? with
  | some (.cells arr t f) => some (arr.size, t, f)
  | _ => none
theorem shp_of {w w' : World} {b : Nat} (h : w'.heap[b]? = w.heap[b]?) : shp w' b = shp w b := by unfold shp; rw [h]
theorem shp_set (w : World) (a : Addr) (v : Value) (b : Nat) : shp (w.setCell a v) b = shp w b := by
  unfold shp
  by_cases h : b = a.block
  · subst h
    simp only [World.setCell, Array.getElem?_modify, if_true]
    cases hh : w.heap[a.block]? with
    | none => simp
    | some o =>
      cases o with
      | cells c e f => simp only [Option.map_some]; by_cases hs : a.spot.isSome = true <;> simp [hs]
      | _ => simp
  · rw [Below.heap_setCell _ _ _ _ h]
/-- each cell of a block holds one cell's value -/
def one1 (w : World) (b : Nat) : Prop := ∀ i v, w.cell? ⟨b, i, none⟩ = some v → v.oneCell' = true
theorem one1_of {w w' : World} {b : Nat} (h : w'.heap[b]? = w.heap[b]?) (h1 : one1 w b) : one1 w' b := fun i v hv => h1 i v (by rw [← hv]; exact (World.cell?_of_block (a := ⟨b, i, none⟩) h).symm)
theorem one1_set {w : World} {a : Addr} {v : Value} (hv : v.oneCell' = true) {b : Nat} (h : one1 w b) : one1 (w.setCell a v) b := by
  intro i u hu
  by_cases e : a = ⟨b, i, none⟩
  · subst e
    cases hc : w.cell? ⟨b, i, none⟩ with
    | none =>
      exfalso
      rw [World.cell?] at hc
      simp only [World.setCell, World.cell?, Array.getElem?_modify, if_true] at hu
      cases hh : w.heap[b]? with
      | none => simp [hh] at hu
      | some o => cases o <;> simp [hh] at hc hu <;> simp_all
    | some x =>
      have : (w.setCell ⟨b, i, none⟩ v).cell? ⟨b, i, none⟩ = some v := by apply World.cell?_setCell_same; exact hc
      rw [this] at hu; injection hu with hu; subst hu; exact hv
  · have : (w.setCell a v).cell? ⟨b, i, none⟩ = w.cell? ⟨b, i, none⟩ := by apply World.cell?_setCell_other; exact e
    rw [this] at hu; exact h i u hu
/-- blocks outside S stay -/
structure Fr (S : Nat → Prop) (w w' : World) : Prop where
  os : w'.os = w.os
  tape : w'.tape = w.tape
  output : w'.output = w.output
  size : w.heap.size ≤ w'.heap.size
  block : ∀ b, b < w.heap.size → ¬ S b → w'.heap[b]? = w.heap[b]?
  shape : ∀ b, b < w.heap.size → shp w' b = shp w b
  ones : ∀ b, b < w.heap.size → one1 w b → one1 w' b
theorem Fr.refl (S : Nat → Prop) (w : World) : Fr S w w := ⟨rfl, rfl, rfl, Nat.le_refl _, fun _ _ _ => rfl, fun _ _ => rfl, fun _ _ h => h⟩
theorem Fr.trans {S : Nat → Prop} {a b c : World} (h : Fr S a b) (k : Fr S b c) : Fr S a c :=
  ⟨k.os.trans h.os, k.tape.trans h.tape, k.output.trans h.output, Nat.le_trans h.size k.size, fun i hi hs => (k.block i (Nat.lt_of_lt_of_le hi h.size) hs).trans (h.block i hi hs), fun i hi => (k.shape i (Nat.lt_of_lt_of_le hi h.size)).trans (h.shape i hi), fun i hi h1 => k.ones i (Nat.lt_of_lt_of_le hi h.size) (h.ones i hi h1)⟩
/-- a frame with other blocks, which are new or of S -/
theorem Fr.inner {S S' : Nat → Prop} {a b c : World} (h : Fr S a b) (k : Fr S' b c) (hs : ∀ i, i < a.heap.size → S' i → S i) : Fr S a c :=
  ⟨k.os.trans h.os, k.tape.trans h.tape, k.output.trans h.output, Nat.le_trans h.size k.size, fun i hi hn => (k.block i (Nat.lt_of_lt_of_le hi h.size) (fun x => hn (hs i hi x))).trans (h.block i hi hn), fun i hi => (k.shape i (Nat.lt_of_lt_of_le hi h.size)).trans (h.shape i hi), fun i hi h1 => k.ones i (Nat.lt_of_lt_of_le hi h.size) (h.ones i hi h1)⟩
theorem Fr.keep {S : Nat → Prop} {a b : World} (k : Keep a b) : Fr S a b := ⟨k.os, k.tape, k.output, k.size, fun i hi _ => k.block i hi, fun i hi => shp_of (k.block i hi), fun i hi h1 => one1_of (k.block i hi) h1⟩
theorem Fr.set {S : Nat → Prop} {a b : World} (k : Fr S a b) (ad : Addr) (v : Value) (h : S ad.block) (hv : v.oneCell' = true := by rfl) : Fr S a (b.setCell ad v) := by
  refine ⟨k.os, k.tape, k.output, ?_, fun i hi hn => ?_, fun i hi => (shp_set _ _ _ _).trans (k.shape i hi), fun i hi h1 => one1_set hv (k.ones i hi h1)⟩
  · have := k.size
    simpa [World.setCell] using this
  · rw [← k.block i hi hn]
    exact Below.heap_setCell _ _ _ _ (fun e => hn (e ▸ h))
theorem Fr.cell {S : Nat → Prop} {a b : World} (k : Fr S a b) {p : Addr} {v : Value} (h : a.cell? p = some v) (hn : ¬ S p.block) : b.cell? p = some v :=
  (World.cell?_of_block (k.block p.block (World.block_lt_of_cell? a p h) hn)).trans h
theorem Fr.frozen {S : Nat → Prop} {a b : World} (k : Fr S a b) {p : Addr} (h : p.block < a.heap.size) (hn : ¬ S p.block) : b.frozen? p = a.frozen? p :=
  World.frozen?_of_block (k.block p.block h hn)
theorem Rd.fr {S P : Nat → Prop} {a b : World} (k : Fr S a b) (hp : ∀ i, P i → ¬ S i) {d : D} {u : Value} (h : Rd a d P u) : Rd b d P u :=
  Rd.move d _ _ u h (fun i hi hl => ⟨k.block i hl (hp i hi), hi⟩)
theorem Rd.set {w : World} {d : D} {P : Nat → Prop} {u : Value} (h : Rd w d P u) (a : Addr) (v : Value) (ha : ¬ P a.block) : Rd (w.setCell a v) d P u :=
  Rd.move d _ _ u h (fun i hi _ => ⟨Below.heap_setCell _ _ _ _ (fun e => ha (e ▸ hi)), hi⟩)
end Go.Proofs.Ytjibbekojbaopaa
