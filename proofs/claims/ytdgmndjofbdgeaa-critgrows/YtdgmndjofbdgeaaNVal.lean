/- What is read, in memory: trees of values; what a step may turn and what it leaves. -/
import Derived.Test.YtdgmndjofbdgeaaLToks
namespace Go.Proofs.Ytdgmndjofbdgeaa
open Go.RowKit
set_option linter.unusedVariables false
set_option linter.unusedSimpArgs false
mutual
/-- u reads as a tree, all slices of which lie in blocks of P, apart from one another along the tree -/
def Rd (w : World) : D → (Nat → Prop) → Value → Prop
  | .val v, P, u => u = v ∧ v.oneCell' = true
  | .row e z L, P, u => ∃ xs : List Value, w.ownsRow 0 e z u L.length xs ∧ (∀ g, u.ownBlock = some g → P g) ∧ Rdss w L (fun b => P b ∧ u.ownBlock ≠ some b) z xs
def Rds (w : World) : List D → (Nat → Prop) → List Value → Prop
  | [], P, xs => xs = []
  | d :: ds, P, xs => ∃ u us, xs = u :: us ∧ Rd w d P u ∧ Rds w ds P us
def Rdss (w : World) : List (List D) → (Nat → Prop) → Nat → List Value → Prop
  | [], P, z, xs => xs = []
  | ds :: L, P, z, xs => ∃ ys zs, xs = ys ++ zs ∧ ys.length = z ∧ Rds w ds P ys ∧ Rdss w L P z zs
end
theorem own_at {w w' : World} {base e z n : Nat} {v : Value} {xs : List Value} (h : w.ownsRow base e z v n xs) (hk : ∀ g, v.ownBlock = some g → w'.heap[g]? = w.heap[g]?) : w'.ownsRow base e z v n xs := by
  refine ⟨h.1, ?_⟩
  rcases h.2 with hn | ⟨g, cap, cur, rfl, hb, hgg, rest⟩
  · exact .inl hn
  · exact .inr ⟨g, cap, cur, rfl, hb, by rw [hk g rfl]; exact hgg, rest⟩
mutual
theorem Rd.move {w w' : World} : ∀ (d : D) (P P' : Nat → Prop) (u : Value), Rd w d P u → (∀ b, P b → b < w.heap.size → w'.heap[b]? = w.heap[b]? ∧ P' b) → Rd w' d P' u
  | .val v, P, P', u, h, hk => h
  | .row e z L, P, P', u, h, hk => by
    simp only [Rd] at h ⊢
    obtain ⟨xs, h1, h2, h3⟩ := h
    have hlt : ∀ g, u.ownBlock = some g → g < w.heap.size := fun g hg => (h1.lt g hg).2
    exact ⟨xs, own_at h1 (fun g hg => (hk g (h2 g hg) (hlt g hg)).1), fun g hg => (hk g (h2 g hg) (hlt g hg)).2, Rdss.move L _ _ z xs h3 (fun b hb hl => ⟨(hk b hb.1 hl).1, (hk b hb.1 hl).2, hb.2⟩)⟩
theorem Rds.move {w w' : World} : ∀ (ds : List D) (P P' : Nat → Prop) (us : List Value), Rds w ds P us → (∀ b, P b → b < w.heap.size → w'.heap[b]? = w.heap[b]? ∧ P' b) → Rds w' ds P' us
  | [], P, P', us, h, hk => h
  | d :: ds, P, P', us, h, hk => by
    simp only [Rds] at h ⊢
    obtain ⟨v, vs, h0, h1, h2⟩ := h
    exact ⟨v, vs, h0, Rd.move d P P' v h1 hk, Rds.move ds P P' vs h2 hk⟩
theorem Rdss.move {w w' : World} : ∀ (L : List (List D)) (P P' : Nat → Prop) (z : Nat) (us : List Value), Rdss w L P z us → (∀ b, P b → b < w.heap.size → w'.heap[b]? = w.heap[b]? ∧ P' b) → Rdss w' L P' z us
  | [], P, P', z, us, h, hk => h
  | ds :: L, P, P', z, us, h, hk => by
    simp only [Rdss] at h ⊢
    obtain ⟨ys, zs, h0, h1, h2, h3⟩ := h
    exact ⟨ys, zs, h0, h1, Rds.move ds P P' ys h2 hk, Rdss.move L P P' z zs h3 hk⟩
end
/-- how a block is made: how many cells, of which type, which of them stand fast -/
def shp (w : World) (b : Nat) : Option (Nat × TypeId × (Nat × Nat)) := match w.heap[b]? with
  | some (.cells arr t f) => some (arr.size, t, f)
  | _ => none
theorem shp_of {w w' : World} {b : Nat} (h : w'.heap[b]? = w.heap[b]?) : shp w' b = shp w b := by unfold shp; rw [h]
theorem shp_set (w : World) (a : Addr) (v : Value) (b : Nat) : shp (w.setCell a v) b = shp w b := by
  unfold shp
  by_cases h : b = a.block
  · subst h
    simp only [World.setCell, Array.getElem?_modify, if_true]
    cases hh : w.heap[a.block]? with
    | none => simp
    | some o =>
      cases o with
      | cells c e f => simp only [Option.map_some]; by_cases hs : a.spot.isSome = true <;> simp [hs]
      | _ => simp
  · rw [Below.heap_setCell _ _ _ _ h]
/-- each cell of a block holds one cell's value -/
def one1 (w : World) (b : Nat) : Prop := ∀ i v, w.cell? ⟨b, i, none⟩ = some v → v.oneCell' = true
theorem one1_of {w w' : World} {b : Nat} (h : w'.heap[b]? = w.heap[b]?) (h1 : one1 w b) : one1 w' b := fun i v hv => h1 i v (by rw [← hv]; exact (World.cell?_of_block (a := ⟨b, i, none⟩) h).symm)
theorem one1_set {w : World} {a : Addr} {v : Value} (hv : v.oneCell' = true) {b : Nat} (h : one1 w b) : one1 (w.setCell a v) b := by
  intro i u hu
  by_cases e : a = ⟨b, i, none⟩
  · subst e
    cases hc : w.cell? ⟨b, i, none⟩ with
    | none =>
      exfalso
      rw [World.cell?] at hc
      simp only [World.setCell, World.cell?, Array.getElem?_modify, if_true] at hu
      cases hh : w.heap[b]? with
      | none => simp [hh] at hu
      | some o => cases o <;> simp [hh] at hc hu <;> simp_all
    | some x =>
      have : (w.setCell ⟨b, i, none⟩ v).cell? ⟨b, i, none⟩ = some v := by apply World.cell?_setCell_same; exact hc
      rw [this] at hu; injection hu with hu; subst hu; exact hv
  · have : (w.setCell a v).cell? ⟨b, i, none⟩ = w.cell? ⟨b, i, none⟩ := by apply World.cell?_setCell_other; exact e
    rw [this] at hu; exact h i u hu
/-- blocks outside S stay -/
structure Fr (S : Nat → Prop) (w w' : World) : Prop where
  os : w'.os = w.os
  tape : w'.tape = w.tape
  output : w'.output = w.output
  size : w.heap.size ≤ w'.heap.size
  block : ∀ b, b < w.heap.size → ¬ S b → w'.heap[b]? = w.heap[b]?
  shape : ∀ b, b < w.heap.size → shp w' b = shp w b
  ones : ∀ b, b < w.heap.size → one1 w b → one1 w' b
theorem Fr.refl (S : Nat → Prop) (w : World) : Fr S w w := ⟨rfl, rfl, rfl, Nat.le_refl _, fun _ _ _ => rfl, fun _ _ => rfl, fun _ _ h => h⟩
theorem Fr.trans {S : Nat → Prop} {a b c : World} (h : Fr S a b) (k : Fr S b c) : Fr S a c :=
  ⟨k.os.trans h.os, k.tape.trans h.tape, k.output.trans h.output, Nat.le_trans h.size k.size, fun i hi hs => (k.block i (Nat.lt_of_lt_of_le hi h.size) hs).trans (h.block i hi hs), fun i hi => (k.shape i (Nat.lt_of_lt_of_le hi h.size)).trans (h.shape i hi), fun i hi h1 => k.ones i (Nat.lt_of_lt_of_le hi h.size) (h.ones i hi h1)⟩
/-- a frame with other blocks, which are new or of S -/
theorem Fr.inner {S S' : Nat → Prop} {a b c : World} (h : Fr S a b) (k : Fr S' b c) (hs : ∀ i, i < a.heap.size → S' i → S i) : Fr S a c :=
  ⟨k.os.trans h.os, k.tape.trans h.tape, k.output.trans h.output, Nat.le_trans h.size k.size, fun i hi hn => (k.block i (Nat.lt_of_lt_of_le hi h.size) (fun x => hn (hs i hi x))).trans (h.block i hi hn), fun i hi => (k.shape i (Nat.lt_of_lt_of_le hi h.size)).trans (h.shape i hi), fun i hi h1 => k.ones i (Nat.lt_of_lt_of_le hi h.size) (h.ones i hi h1)⟩
theorem Fr.keep {S : Nat → Prop} {a b : World} (k : Keep a b) : Fr S a b := ⟨k.os, k.tape, k.output, k.size, fun i hi _ => k.block i hi, fun i hi => shp_of (k.block i hi), fun i hi h1 => one1_of (k.block i hi) h1⟩
theorem Fr.set {S : Nat → Prop} {a b : World} (k : Fr S a b) (ad : Addr) (v : Value) (h : S ad.block) (hv : v.oneCell' = true := by rfl) : Fr S a (b.setCell ad v) := by
  refine ⟨k.os, k.tape, k.output, ?_, fun i hi hn => ?_, fun i hi => (shp_set _ _ _ _).trans (k.shape i hi), fun i hi h1 => one1_set hv (k.ones i hi h1)⟩
  · have := k.size
    simpa [World.setCell] using this
  · rw [← k.block i hi hn]
    exact Below.heap_setCell _ _ _ _ (fun e => hn (e ▸ h))
theorem Fr.cell {S : Nat → Prop} {a b : World} (k : Fr S a b) {p : Addr} {v : Value} (h : a.cell? p = some v) (hn : ¬ S p.block) : b.cell? p = some v :=
  (World.cell?_of_block (k.block p.block (World.block_lt_of_cell? a p h) hn)).trans h
theorem Fr.frozen {S : Nat → Prop} {a b : World} (k : Fr S a b) {p : Addr} (h : p.block < a.heap.size) (hn : ¬ S p.block) : b.frozen? p = a.frozen? p :=
  World.frozen?_of_block (k.block p.block h hn)
theorem Rd.fr {S P : Nat → Prop} {a b : World} (k : Fr S a b) (hp : ∀ i, P i → ¬ S i) {d : D} {u : Value} (h : Rd a d P u) : Rd b d P u :=
  Rd.move d _ _ u h (fun i hi hl => ⟨k.block i hl (hp i hi), hi⟩)
theorem Rd.set {w : World} {d : D} {P : Nat → Prop} {u : Value} (h : Rd w d P u) (a : Addr) (v : Value) (ha : ¬ P a.block) : Rd (w.setCell a v) d P u :=
  Rd.move d _ _ u h (fun i hi _ => ⟨Below.heap_setCell _ _ _ _ (fun e => ha (e ▸ hi)), hi⟩)
end Go.Proofs.Ytdgmndjofbdgeaa
