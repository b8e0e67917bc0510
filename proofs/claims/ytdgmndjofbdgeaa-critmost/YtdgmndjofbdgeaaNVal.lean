/- Tokens in plain words: one token, all tokens of bytes; tokens in memory. -/
import Derived.Test.YtdgmndjofbdgeaaLSkip
namespace Go.Proofs.Ytdgmndjofbdgeaa
open Go.RowKit
set_option linter.unusedVariables false
set_option linter.unusedSimpArgs false
/-- a token: its kind, its bytes, its number, its place -/
structure Tok where
  k : Int
  s : List UInt8
  n : Int
  p : Int
deriving DecidableEq
/-- the number that digits tell -/
def num (l : List UInt8) : Int := l.foldl (fun v c => v * 10 + ((c.toNat : Int) - 48)) 0
/-- the token at the front of bytes, or which error -/
def one (r : List UInt8) (p : Nat) : Except Int Tok :=
  match r with
  | [] => .ok ⟨0, [], 0, p⟩
  | c :: _ =>
    if kd c.toNat = 4 then (if 24 < en r then .error 4 else .ok ⟨1, r.take (en r), 0, p⟩)
    else if kd c.toNat = 5 then (if 18 < en r then .error 4 else .ok ⟨2, r.take (en r), num (r.take (en r)), p⟩)
    else if kd c.toNat = 7 then .ok ⟨3, r.take (en r), 0, p⟩
    else .error 40
/-- an answer behind tokens -/
def pre (acc : List Tok) : Except (Int × Nat) (List Tok) → Except (Int × Nat) (List Tok)
  | .error x => .error x
  | .ok r => .ok (acc ++ r)
/-- all tokens, with fuel -/
def tkz : Nat → List UInt8 → Nat → Except (Int × Nat) (List Tok)
  | 0, _, _ => .ok []
  | f + 1, r, p =>
    match one (r.drop (skp false r)) (p + skp false r) with
    | .error e => .error (e, p + skp false r)
    | .ok t => if t.k = 0 then .ok [t] else pre [t] (tkz f ((r.drop (skp false r)).drop t.s.length) (p + skp false r + t.s.length))
/-- all tokens of bytes, the first one of which stands at a place -/
def tk (r : List UInt8) (p : Nat) : Except (Int × Nat) (List Tok) := tkz (r.length + 1) r p
/-- all tokens of a text, or the error and its place -/
def T (l : List UInt8) : Except (Int × Nat) (List Tok) := if 65536 < l.length then .error (4, 65536) else tk l 0
def tn : Except (Int × Nat) (List Tok) → Nat
  | .ok _ => 0
  | .error x => x.2
/-- the text of a token as a value -/
def sv (l : List UInt8) : ByteArray := ⟨l.toArray⟩
/-- a token as a value -/
def tv (t : Tok) : Value := .agg #[.int .i64 t.k, .string (sv t.s), .int .i64 t.n, .int .i64 t.p]
/-- tokens as cells -/
def tc : List Tok → List Value
  | [] => []
  | t :: l => .int .i64 t.k :: .string (sv t.s) :: .int .i64 t.n :: .int .i64 t.p :: tc l
def t0 : Tok := ⟨0, [], 0, 0⟩
/-- the four cells of a token -/
def Tc (w : World) (ad : Addr) (t : Tok) : Prop := w.cell? ad = some (.int .i64 t.k) ∧ w.cell? ⟨ad.block, ad.off + 1, none⟩ = some (.string (sv t.s)) ∧ w.cell? ⟨ad.block, ad.off + 2, none⟩ = some (.int .i64 t.n) ∧ w.cell? ⟨ad.block, ad.off + 3, none⟩ = some (.int .i64 t.p)
theorem Tc.keep {w w' : World} {ad : Addr} {t : Tok} (h : Tc w ad t) (hb : ad.block < w.heap.size) (hk : Keep w w') : Tc w' ad t := by
  obtain ⟨h0, h1, h2, h3⟩ := h
  refine ⟨?_, ?_, ?_, ?_⟩
  · rw [Below.cell hk hb]; exact h0
  · rw [Below.cell (p := ⟨ad.block, ad.off + 1, none⟩) hk hb]; exact h1
  · rw [Below.cell (p := ⟨ad.block, ad.off + 2, none⟩) hk hb]; exact h2
  · rw [Below.cell (p := ⟨ad.block, ad.off + 3, none⟩) hk hb]; exact h3
/-- v is a slice that reads as the tokens L -/
def Ts (w : World) (v : Value) (L : List Tok) : Prop := ∃ a cap, v = .slice a L.length cap ∧ L.length ≤ cap ∧ ∀ k, k < L.length → ∃ ad, a = some ad ∧ ad.block < w.heap.size ∧ Tc w (ad.add (k * 4)) (L.getD k t0)
theorem Ts.keep {w w' : World} {v : Value} {L : List Tok} (h : Ts w v L) (hk : Keep w w') : Ts w' v L := by
  obtain ⟨a, cap, rfl, hc, h⟩ := h
  refine ⟨a, cap, rfl, hc, fun k hlt => ?_⟩
  obtain ⟨ad, h0, h1, h2⟩ := h k hlt
  exact ⟨ad, h0, Nat.lt_of_lt_of_le h1 (Below.size hk), h2.keep (by rw [add_block]; exact h1) hk⟩
theorem Ts.shape {w : World} {v : Value} {L : List Tok} (h : Ts w v L) : ∃ a cap, v = .slice a L.length cap := by obtain ⟨a, cap, rfl, _⟩ := h; exact ⟨a, cap, rfl⟩
end Go.Proofs.Ytdgmndjofbdgeaa

namespace Go.Proofs.Ytdgmndjofbdgeaa
open Go.RowKit
attribute [local go_sem ↓] Go.wp_at_zero Go.wp_at_succ
set_option linter.unusedVariables false
set_option linter.unusedSimpArgs false
set_option maxRecDepth 10000
/-- the words -/
def words : List (List UInt8) := [[99, 121, 99, 108, 101], [116, 111], [98, 121], [112, 101, 97, 107], [110, 111, 100, 101], [104, 101, 97, 100], [118, 111, 108, 117, 109, 101], [102, 108, 111, 119], [117, 115, 101], [115, 112, 101, 101, 100], [103, 114, 97, 100, 101], [119, 105, 100, 116, 104], [108, 101, 110, 103, 116, 104], [103, 114, 101, 101, 110], [119, 97, 108, 107], [119, 105, 116, 104], [108, 111, 110, 103], [112, 97, 99, 101], [108, 101, 97, 115, 116], [112, 104, 97, 115, 101], [103, 114, 111, 117, 112], [114, 105, 110, 103], [102, 114, 101, 101], [102, 111, 101], [97, 114, 116, 101, 114, 121], [115, 116, 111, 112], [111, 117, 116], [105, 110], [97, 104, 101, 97, 100], [98, 97, 99, 107], [119, 101, 105, 103, 104, 116, 115], [112, 108, 97, 110], [111, 102, 102, 115, 101, 116], [115, 117, 109], [115, 112, 108, 105, 116], [121, 101, 108, 108, 111, 119], [114, 101, 100], [102, 108, 97, 115, 104], [98, 101, 115, 116], [121, 101, 115], [110, 111], [115, 112, 101, 110, 116]]
end Go.Proofs.Ytdgmndjofbdgeaa

namespace Go.Proofs.Ytdgmndjofbdgeaa
open Go.RowKit
set_option linter.unusedVariables false
set_option linter.unusedSimpArgs false
/-- what is read: a plain value, or a slice of structs -/
inductive D where
  | val (v : Value)
  | row (e z : Nat) (L : List (List D))
abbrev Er := Int × Int
abbrev Rs := Except Er (List D × List Tok)
/-- a step: what was read so far, and the tokens that are left -/
abbrev Sp := List D → List Tok → Rs
def dS (s : List UInt8) : D := .val (.string (sv s))
def dI (n : Int) : D := .val (.int .i64 n)
def dB (b : Bool) : D := .val (.bool b)
/-- the error at the token that is next -/
def bad (e : Int) : List Tok → Rs
  | [] => .error (e, 0)
  | t :: _ => .error (e, t.p)
def pThe (s : List UInt8) : Sp
  | c, [] => bad 50 []
  | c, t :: r => if t.s = s then .ok (c, r) else bad 50 (t :: r)
def pName : Sp
  | c, [] => bad 50 []
  | c, t :: r => if t.k = 1 ∧ ¬ t.s ∈ words then .ok (c ++ [dS t.s], r) else bad 50 (t :: r)
def pPos : Sp
  | c, [] => bad 50 []
  | c, t :: r => .ok (c ++ [dI t.p], t :: r)
def pNum : Sp
  | c, [] => bad 50 []
  | c, t :: r => if t.k = 2 then .ok (c ++ [dI t.n], r) else bad 50 (t :: r)
def pEnd : Sp
  | c, [] => bad 50 []
  | c, t :: r => if t.k = 0 then .ok (c, t :: r) else bad 50 (t :: r)
def pMay (s : List UInt8) : Sp
  | c, [] => bad 50 []
  | c, t :: r => if t.s = s then .ok (c ++ [dB true], r) else .ok (c ++ [dB false], t :: r)
/-- one step behind the other -/
def sq : List Sp → Sp
  | [], c, r => .ok (c, r)
  | p :: ps, c, r => match p c r with
    | .error x => .error x
    | .ok (c', r') => sq ps c' r'
def pFrac : Sp := sq [pNum, pThe [47], pNum]
/-- a number behind a sign that may be there -/
def pGrade : Sp := fun c r => match sq [pMay [45], pNum] [] r with
  | .error x => .error x
  | .ok ([.val (.bool b), .val (.int .i64 n)], r') => .ok (c ++ [dI (if b then -n else n)], r')
  | .ok _ => .error (0, 0)
/-- names with commas between: so many at most, with fuel -/
def nmz (most : Nat) : Nat → List (List D) → List Tok → Except Er (List (List D) × List Tok)
  | 0, _, _ => .error (0, 0)
  | f + 1, L, r => match pName [] r with
    | .error x => .error x
    | .ok (d, r') =>
      if L.length = most then (match bad 4 r with | .error x => .error x | .ok _ => .error (0, 0))
      else match pMay [44] [] r' with
        | .ok ([.val (.bool true)], r2) => nmz most f (L ++ [d]) r2
        | .ok (_, r2) => .ok (L ++ [d], r2)
        | .error x => .error x
def pNames (e most : Nat) : Sp := fun c r => match nmz most (r.length + 1) [] r with
  | .error x => .error x
  | .ok (L, r') => .ok (c ++ [.row e 1 L], r')
/-- things that each begin with a word: so many at most, with fuel -/
def rwz (word : List UInt8) (most : Nat) (body : List Tok → Rs) : Nat → List (List D) → List Tok → Except Er (List (List D) × List Tok)
  | 0, _, _ => .error (0, 0)
  | _ + 1, _, [] => .error (50, 0)
  | f + 1, L, t :: r =>
    if t.s = word then
      (if L.length = most then .error (4, t.p)
       else match body r with
        | .error x => .error x
        | .ok (d, r') => rwz word most body f (L ++ [d]) r')
    else .ok (L, t :: r)
def pRow (word : List UInt8) (most e z : Nat) (body : List Tok → Rs) : Sp := fun c r => match rwz word most body (r.length + 1) [] r with
  | .error x => .error x
  | .ok (L, r') => .ok (c ++ [.row e z L], r')
/-- the place, which is read first, stands last -/
def rot : List D → List D
  | [] => []
  | d :: ds => ds ++ [d]
def rotd (p : List Tok → Rs) : List Tok → Rs := fun r => match p r with
  | .error x => .error x
  | .ok (c, r') => .ok (rot c, r')
/-- there must be a ring -/
def pSome : Sp := fun c r => match c with
  | [.row _ _ []] => bad 50 r
  | _ => .ok (c, r)
def pHead : List Tok → Rs := rotd (sq [pPos, pName, pThe [118, 111, 108, 117, 109, 101], pNum, pThe [102, 108, 111, 119], pNum, pThe [117, 115, 101], pFrac, pThe [115, 112, 101, 101, 100], pNum, pThe [103, 114, 97, 100, 101], pGrade, pThe [119, 105, 100, 116, 104], pNum, pThe [108, 101, 110, 103, 116, 104], pNum, pThe [103, 114, 101, 101, 110], pNum, pThe [59]] [])
def pWalk : List Tok → Rs := rotd (sq [pPos, pName, pThe [119, 105, 116, 104], pName, pThe [108, 111, 110, 103], pNum, pThe [112, 97, 99, 101], pNum, pThe [108, 101, 97, 115, 116], pNum, pThe [59]] [])
def pPhase : List Tok → Rs := rotd (sq [pPos, pName, pThe [58], pNames 9 16, pThe [59]] [])
def pRing : List Tok → Rs := sq [pMay [102, 114, 101, 101], pNames 9 4, pThe [59]] []
def pGroup : List Tok → Rs := sq [pThe [123], pRow [114, 105, 110, 103] 2 70 2 pRing, pSome, pThe [125]] []
def pFoe : List Tok → Rs := rotd (sq [pPos, pName, pName, pThe [59]] [])
def pStop : List Tok → Rs := rotd (sq [pPos, pName, pThe [111, 117, 116], pName, pThe [105, 110], pName, pThe [97, 104, 101, 97, 100], pNum, pThe [98, 97, 99, 107], pNum, pThe [59]] [])
def pNode : List Tok → Rs := rotd (sq [pPos, pName, pThe [123], pRow [104, 101, 97, 100] 16 100 11 pHead, pRow [119, 97, 108, 107] 8 102 6 pWalk, pRow [112, 104, 97, 115, 101] 16 73 3 pPhase, pRow [103, 114, 111, 117, 112] 4 44 1 pGroup, pRow [102, 111, 101] 64 104 3 pFoe, pThe [125]] [])
def pArt : Sp := fun c r => match pMay [97, 114, 116, 101, 114, 121] [] r with
  | .error x => .error x
  | .ok ([.val (.bool true)], r') => sq [pThe [123], pRow [115, 116, 111, 112] 12 91 6 pStop, pThe [119, 101, 105, 103, 104, 116, 115], pNum, pNum, pThe [59], pThe [125]] c r'
  | .ok (_, r') => .ok (c ++ [.row 91 6 [], dI 0, dI 0], r')
def pNet : List Tok → Rs := sq [pThe [99, 121, 99, 108, 101], pNum, pThe [116, 111], pNum, pThe [98, 121], pNum, pThe [59], pThe [112, 101, 97, 107], pFrac, pThe [59], pRow [110, 111, 100, 101] 12 28 7 pNode, pArt, pEnd] []
/-- the network of a text, or the error and its place -/
def N (l : List UInt8) : Except Er (List D) := match T l with
  | .error x => .error (x.1, (x.2 : Int))
  | .ok L => match pNet L with
    | .error x => .error x
    | .ok (c, _) => .ok c
end Go.Proofs.Ytdgmndjofbdgeaa

namespace Go.Proofs.Ytdgmndjofbdgeaa
set_option linter.unusedVariables false
set_option linter.unusedSimpArgs false
/-- names, by what is there already -/
def nm (most : Nat) (L : List (List D)) (r : List Tok) : Except Er (List (List D) × List Tok) := nmz most (r.length + 1) L r
end Go.Proofs.Ytdgmndjofbdgeaa

namespace Go.Proofs.Ytdgmndjofbdgeaa
set_option linter.unusedVariables false
set_option linter.unusedSimpArgs false
/-- tokens that end as they should -/
def W (r : List Tok) : Prop := ∃ m e, r = m ++ [e] ∧ e.k = 0 ∧ e.s = []
theorem W.ne {r : List Tok} (h : W r) : r ≠ [] := by obtain ⟨m, e, rfl, _⟩ := h; simp
end Go.Proofs.Ytdgmndjofbdgeaa

namespace Go.Proofs.Ytdgmndjofbdgeaa
set_option linter.unusedVariables false
set_option linter.unusedSimpArgs false
/-- a token without its place -/
def q0 (t : Tok) : Tok := ⟨t.k, t.s, t.n, 0⟩
/-- does a thing of so many parts have a place (it stands last)? -/
def plc (z : Nat) : Bool := z == 3 || z == 6 || z == 7 || z == 11
mutual
/-- what is read without its places -/
def Z : D → D
  | .val v => .val v
  | .row e z L => .row e z (Zss (plc z) L)
def Zl : Bool → List D → List D
  | _, [] => []
  | b, d :: ds => (if b && ds.isEmpty then dI 0 else Z d) :: Zl b ds
def Zss : Bool → List (List D) → List (List D)
  | _, [] => []
  | b, ds :: L => Zl b ds :: Zss b L
end
end Go.Proofs.Ytdgmndjofbdgeaa

namespace Go.Proofs.Ytdgmndjofbdgeaa
open Go.RowKit
set_option linter.unusedVariables false
set_option linter.unusedSimpArgs false
/-- a step behind what was read -/
def bnd (X : Rs) (p : Sp) : Rs := match X with
  | .error x => .error x
  | .ok (c, r) => p c r
/-- a thing of its own behind what was read -/
def bnb (X : Rs) (p : List Tok → Rs) : Rs := match X with
  | .error x => .error x
  | .ok (_, r) => p r
/-- nothing was read yet -/
def fresh : Rs → Rs
  | .error x => .error x
  | .ok (_, r) => .ok ([], r)
theorem bnd_fresh (X : Rs) (p : Sp) : bnd (fresh X) p = bnb X (p []) := by rcases X with x | ⟨c, r⟩ <;> rfl
/-- if all is well behind it, all was well ahead of it, and so much was added -/
def Got (X Y : Rs) (ds : List D) : Prop := ∀ c r, Y = .ok (c, r) → ∃ c0 r0, X = .ok (c0, r0) ∧ c = c0 ++ ds
theorem Got.refl (X : Rs) : Got X X [] := fun c r h => ⟨c, r, h, by simp⟩
theorem Got.trans {X Y Z : Rs} {a b : List D} (h : Got X Y a) (k : Got Y Z b) : Got X Z (a ++ b) := fun c r e => by
  obtain ⟨c1, r1, h1, rfl⟩ := k c r e
  obtain ⟨c0, r0, h0, rfl⟩ := h c1 r1 h1
  exact ⟨c0, r0, h0, by simp⟩
/-- from nothing on, what was read is what was added -/
theorem Got.all {X : Rs} {p : Sp} {ds : List D} (h : Got (fresh X) (bnd (fresh X) p) ds) : ∀ c r, bnb X (p []) = .ok (c, r) → c = ds := fun c r e => by
  rw [← bnd_fresh] at e
  obtain ⟨c0, r0, h0, rfl⟩ := h c r e
  rcases X with x | ⟨c1, r1⟩
  · cases h0
  · simp only [fresh, Except.ok.injEq, Prod.mk.injEq] at h0
    rw [← h0.1]; rfl
theorem Got.rot {X : Rs} {p : Sp} {d : D} {ds : List D} (h : Got (fresh X) (bnd (fresh X) p) (d :: ds)) : ∀ c r, bnb X (rotd (p [])) = .ok (c, r) → c = ds ++ [d] := fun c r e => by
  rcases X with x | ⟨c1, r1⟩
  · cases e
  · simp only [bnb, rotd] at e
    cases hp : p [] r1 with
    | error x => rw [hp] at e; cases e
    | ok q =>
      rw [hp] at e
      simp only [Except.ok.injEq, Prod.mk.injEq] at e
      have := h.all q.1 q.2 hp
      rw [← e.1, this]; rfl
/-- how tokens are made -/
def Kf (t : Tok) : Prop := (t.k = 0 → t.s = []) ∧ (t.k = 2 → ∃ c s, t.s = c :: s ∧ 48 ≤ c.toNat ∧ c.toNat ≤ 57)
/-- what no number and no end is -/
def wrd : List UInt8 → Bool
  | [] => false
  | c :: _ => !(decide (48 ≤ c.toNat) && decide (c.toNat ≤ 57))
theorem Kf.word {t : Tok} (h : Kf t) {s : List UInt8} (hs : wrd s = true) (e : t.s = s) : t.k ≠ 0 ∧ t.k ≠ 2 := by
  refine ⟨fun k => ?_, fun k => ?_⟩
  · rw [h.1 k] at e; subst e; cases hs
  · obtain ⟨c, s', e', h1, h2⟩ := h.2 k
    rw [e'] at e; subst e
    simp [wrd, h1, h2] at hs
end Go.Proofs.Ytdgmndjofbdgeaa

namespace Go.Proofs.Ytdgmndjofbdgeaa
open Go.RowKit
attribute [local go_sem ↓] Go.wp_at_zero Go.wp_at_succ
set_option linter.unusedVariables false
set_option linter.unusedSimpArgs false
set_option maxRecDepth 10000
theorem info_parts {t : TypeId} {z : Value} {a b : Nat} (h : (Try.prog.info? t).map (fun i => (i.zero, i.size, i.bytes)) = some (some z, a, b)) : ∃ i, Try.prog.info? t = some i ∧ i.zero = some z ∧ i.size = a ∧ i.bytes = b := by
  cases hi : Try.prog.info? t with
  | none => rw [hi] at h; cases h
  | some i => rw [hi] at h; simp at h; exact ⟨i, rfl, h.1, h.2.1, h.2.2⟩
theorem Keep.grown {w w' : World} (h : Keep w w') : w.grownBy w' none := ⟨h.1, h.2, h.3, h.4, fun i hi _ => h.5 i hi⟩
end Go.Proofs.Ytdgmndjofbdgeaa

namespace Go.Proofs.Ytdgmndjofbdgeaa
open Go.RowKit
set_option linter.unusedVariables false
set_option linter.unusedSimpArgs false
mutual
/-- u reads as a tree, all slices of which lie in blocks of P, apart from one another along the tree -/
def Rd (w : World) : D → (Nat → Prop) → Value → Prop
  | .val v, P, u => u = v ∧ v.oneCell' = true
  | .row e z L, P, u => ∃ xs : List Value, w.ownsRow 0 e z u L.length xs ∧ (∀ g, u.ownBlock = some g → P g) ∧ Rdss w L (fun b => P b ∧ u.ownBlock ≠ some b) z xs
def Rds (w : World) : List D → (Nat → Prop) → List Value → Prop
  | [], P, xs => xs = []
  | d :: ds, P, xs => ∃ u us, xs = u :: us ∧ Rd w d P u ∧ Rds w ds P us
def Rdss (w : World) : List (List D) → (Nat → Prop) → Nat → List Value → Prop
  | [], P, z, xs => xs = []
  | ds :: L, P, z, xs => ∃ ys zs, xs = ys ++ zs ∧ ys.length = z ∧ Rds w ds P ys ∧ Rdss w L P z zs
end
theorem own_at {w w' : World} {base e z n : Nat} {v : Value} {xs : List Value} (h : w.ownsRow base e z v n xs) (hk : ∀ g, v.ownBlock = some g → w'.heap[g]? = w.heap[g]?) : w'.ownsRow base e z v n xs := by
  refine ⟨h.1, ?_⟩
  rcases h.2 with hn | ⟨g, cap, cur, rfl, hb, hgg, rest⟩
  · exact .inl hn
  · exact .inr ⟨g, cap, cur, rfl, hb, by rw [hk g rfl]; exact hgg, rest⟩
mutual
theorem Rd.move {w w' : World} : ∀ (d : D) (P P' : Nat → Prop) (u : Value), Rd w d P u → (∀ b, P b → b < w.heap.size → w'.heap[b]? = w.heap[b]? ∧ P' b) → Rd w' d P' u
  | .val v, P, P', u, h, hk => h
  | .row e z L, P, P', u, h, hk => by
    simp only [Rd] at h ⊢
    obtain ⟨xs, h1, h2, h3⟩ := h
    have hlt : ∀ g, u.ownBlock = some g → g < w.heap.size := fun g hg => (h1.lt g hg).2
    exact ⟨xs, own_at h1 (fun g hg => (hk g (h2 g hg) (hlt g hg)).1), fun g hg => (hk g (h2 g hg) (hlt g hg)).2, Rdss.move L _ _ z xs h3 (fun b hb hl => ⟨(hk b hb.1 hl).1, (hk b hb.1 hl).2, hb.2⟩)⟩
theorem Rds.move {w w' : World} : ∀ (ds : List D) (P P' : Nat → Prop) (us : List Value), Rds w ds P us → (∀ b, P b → b < w.heap.size → w'.heap[b]? = w.heap[b]? ∧ P' b) → Rds w' ds P' us
  | [], P, P', us, h, hk => h
  | d :: ds, P, P', us, h, hk => by
    simp only [Rds] at h ⊢
    obtain ⟨v, vs, h0, h1, h2⟩ := h
    exact ⟨v, vs, h0, Rd.move d P P' v h1 hk, Rds.move ds P P' vs h2 hk⟩
theorem Rdss.move {w w' : World} : ∀ (L : List (List D)) (P P' : Nat → Prop) (z : Nat) (us : List Value), Rdss w L P z us → (∀ b, P b → b < w.heap.size → w'.heap[b]? = w.heap[b]? ∧ P' b) → Rdss w' L P' z us
  | [], P, P', z, us, h, hk => h
  | ds :: L, P, P', z, us, h, hk => by
    simp only [Rdss] at h ⊢
    obtain ⟨ys, zs, h0, h1, h2, h3⟩ := h
    exact ⟨ys, zs, h0, h1, Rds.move ds P P' ys h2 hk, Rdss.move L P P' z zs h3 hk⟩
end
/-- how a block is made: how many cells, of which type, which of them stand fast -/
def shp (w : World) (b : Nat) : Option (Nat × TypeId × (Nat × Nat)) := match w.heap[b]? with
  | some (.cells arr t f) => some (arr.size, t, f)
  | _ => none
theorem shp_of {w w' : World} {b : Nat} (h : w'.heap[b]? = w.heap[b]?) : shp w' b = shp w b := by unfold shp; rw [h]
theorem shp_set (w : World) (a : Addr) (v : Value) (b : Nat) : shp (w.setCell a v) b = shp w b := by
  unfold shp
  by_cases h : b = a.block
  · subst h
    simp only [World.setCell, Array.getElem?_modify, if_true]
    cases hh : w.heap[a.block]? with
    | none => simp
    | some o =>
      cases o with
      | cells c e f => simp only [Option.map_some]; by_cases hs : a.spot.isSome = true <;> simp [hs]
      | _ => simp
  · rw [Below.heap_setCell _ _ _ _ h]
/-- each cell of a block holds one cell's value -/
def one1 (w : World) (b : Nat) : Prop := ∀ i v, w.cell? ⟨b, i, none⟩ = some v → v.oneCell' = true
theorem one1_of {w w' : World} {b : Nat} (h : w'.heap[b]? = w.heap[b]?) (h1 : one1 w b) : one1 w' b := fun i v hv => h1 i v (by rw [← hv]; exact (World.cell?_of_block (a := ⟨b, i, none⟩) h).symm)
theorem one1_set {w : World} {a : Addr} {v : Value} (hv : v.oneCell' = true) {b : Nat} (h : one1 w b) : one1 (w.setCell a v) b := by
  intro i u hu
  by_cases e : a = ⟨b, i, none⟩
  · subst e
    cases hc : w.cell? ⟨b, i, none⟩ with
    | none =>
      exfalso
      rw [World.cell?] at hc
      simp only [World.setCell, World.cell?, Array.getElem?_modify, if_true] at hu
      cases hh : w.heap[b]? with
      | none => simp [hh] at hu
      | some o => cases o <;> simp [hh] at hc hu <;> simp_all
    | some x =>
      have : (w.setCell ⟨b, i, none⟩ v).cell? ⟨b, i, none⟩ = some v := by apply World.cell?_setCell_same; exact hc
      rw [this] at hu; injection hu with hu; subst hu; exact hv
  · have : (w.setCell a v).cell? ⟨b, i, none⟩ = w.cell? ⟨b, i, none⟩ := by apply World.cell?_setCell_other; exact e
    rw [this] at hu; exact h i u hu
/-- blocks outside S stay -/
structure Fr (S : Nat → Prop) (w w' : World) : Prop where
  os : w'.os = w.os
  tape : w'.tape = w.tape
  output : w'.output = w.output
  size : w.heap.size ≤ w'.heap.size
  block : ∀ b, b < w.heap.size → ¬ S b → w'.heap[b]? = w.heap[b]?
  shape : ∀ b, b < w.heap.size → shp w' b = shp w b
  ones : ∀ b, b < w.heap.size → one1 w b → one1 w' b
theorem Fr.refl (S : Nat → Prop) (w : World) : Fr S w w := ⟨rfl, rfl, rfl, Nat.le_refl _, fun _ _ _ => rfl, fun _ _ => rfl, fun _ _ h => h⟩
theorem Fr.trans {S : Nat → Prop} {a b c : World} (h : Fr S a b) (k : Fr S b c) : Fr S a c :=
  ⟨k.os.trans h.os, k.tape.trans h.tape, k.output.trans h.output, Nat.le_trans h.size k.size, fun i hi hs => (k.block i (Nat.lt_of_lt_of_le hi h.size) hs).trans (h.block i hi hs), fun i hi => (k.shape i (Nat.lt_of_lt_of_le hi h.size)).trans (h.shape i hi), fun i hi h1 => k.ones i (Nat.lt_of_lt_of_le hi h.size) (h.ones i hi h1)⟩
/-- a frame with other blocks, which are new or of S -/
theorem Fr.inner {S S' : Nat → Prop} {a b c : World} (h : Fr S a b) (k : Fr S' b c) (hs : ∀ i, i < a.heap.size → S' i → S i) : Fr S a c :=
  ⟨k.os.trans h.os, k.tape.trans h.tape, k.output.trans h.output, Nat.le_trans h.size k.size, fun i hi hn => (k.block i (Nat.lt_of_lt_of_le hi h.size) (fun x => hn (hs i hi x))).trans (h.block i hi hn), fun i hi => (k.shape i (Nat.lt_of_lt_of_le hi h.size)).trans (h.shape i hi), fun i hi h1 => k.ones i (Nat.lt_of_lt_of_le hi h.size) (h.ones i hi h1)⟩
theorem Fr.keep {S : Nat → Prop} {a b : World} (k : Keep a b) : Fr S a b := ⟨k.os, k.tape, k.output, k.size, fun i hi _ => k.block i hi, fun i hi => shp_of (k.block i hi), fun i hi h1 => one1_of (k.block i hi) h1⟩
theorem Fr.set {S : Nat → Prop} {a b : World} (k : Fr S a b) (ad : Addr) (v : Value) (h : S ad.block) (hv : v.oneCell' = true := by rfl) : Fr S a (b.setCell ad v) := by
  refine ⟨k.os, k.tape, k.output, ?_, fun i hi hn => ?_, fun i hi => (shp_set _ _ _ _).trans (k.shape i hi), fun i hi h1 => one1_set hv (k.ones i hi h1)⟩
  · have := k.size
    simpa [World.setCell] using this
  · rw [← k.block i hi hn]
    exact Below.heap_setCell _ _ _ _ (fun e => hn (e ▸ h))
theorem Fr.cell {S : Nat → Prop} {a b : World} (k : Fr S a b) {p : Addr} {v : Value} (h : a.cell? p = some v) (hn : ¬ S p.block) : b.cell? p = some v :=
  (World.cell?_of_block (k.block p.block (World.block_lt_of_cell? a p h) hn)).trans h
theorem Fr.frozen {S : Nat → Prop} {a b : World} (k : Fr S a b) {p : Addr} (h : p.block < a.heap.size) (hn : ¬ S p.block) : b.frozen? p = a.frozen? p :=
  World.frozen?_of_block (k.block p.block h hn)
theorem Rd.fr {S P : Nat → Prop} {a b : World} (k : Fr S a b) (hp : ∀ i, P i → ¬ S i) {d : D} {u : Value} (h : Rd a d P u) : Rd b d P u :=
  Rd.move d _ _ u h (fun i hi hl => ⟨k.block i hl (hp i hi), hi⟩)
theorem Rd.set {w : World} {d : D} {P : Nat → Prop} {u : Value} (h : Rd w d P u) (a : Addr) (v : Value) (ha : ¬ P a.block) : Rd (w.setCell a v) d P u :=
  Rd.move d _ _ u h (fun i hi _ => ⟨Below.heap_setCell _ _ _ _ (fun e => ha (e ▸ hi)), hi⟩)
end Go.Proofs.Ytdgmndjofbdgeaa
