/- Trees in memory, as they are read: no block is anybody's own. -/
import Derived.Test.YtmplckdpddmifaaGreatDoorNCt
import Derived.Test.YtmplckdpddmifaaGreatDoorQA
namespace Go.Proofs.YtmplckdpddmifaaGreatDoor
open Go.RowKit
set_option linter.unusedVariables false
set_option linter.unusedSimpArgs false
/-- the j-th cell behind an address -/
def ati (ad : Addr) (j : Nat) : Addr := if j = 0 then ad else ⟨ad.block, ad.off + j, none⟩
theorem ati_plain (b o j : Nat) : ati ⟨b, o, none⟩ j = ⟨b, o + j, none⟩ := by
  unfold ati
  split
  · rename_i h; subst h; rfl
  · rfl
mutual
/-- u reads as a tree -/
def Rv (w : World) : D → Value → Prop
  | .val v, u => u = v
  | .row e z L, u => ∃ a cap, u = .slice a L.length cap ∧ L.length ≤ cap ∧ Rvss w a z L 0
def Rvs (w : World) : List D → List Value → Prop
  | [], us => us = []
  | d :: ds, us => ∃ u vs, us = u :: vs ∧ Rv w d u ∧ Rvs w ds vs
def Rvss (w : World) (a : Option Addr) (z : Nat) : List (List D) → Nat → Prop
  | [], k => True
  | ds :: L, k => (∃ ad us, a = some ad ∧ ad.block < w.heap.size ∧ Rvs w ds us ∧ us.length = z ∧ ∀ j u, us[j]? = some u → w.cell? (ati (ad.add (k * z)) j) = some u) ∧ Rvss w a z L (k + 1)
end
mutual
theorem Rv.keep {w w' : World} (h : Keep w w') : ∀ (d : D) (u : Value), Rv w d u → Rv w' d u
  | .val v, u, h1 => h1
  | .row e z L, u, h1 => by
    simp only [Rv] at h1 ⊢
    obtain ⟨a, cap, h0, hc, h2⟩ := h1
    exact ⟨a, cap, h0, hc, Rvss.keep h a z L 0 h2⟩
theorem Rvs.keep {w w' : World} (h : Keep w w') : ∀ (ds : List D) (us : List Value), Rvs w ds us → Rvs w' ds us
  | [], us, h1 => h1
  | d :: ds, us, h1 => by
    simp only [Rvs] at h1 ⊢
    obtain ⟨u, vs, h0, h2, h3⟩ := h1
    exact ⟨u, vs, h0, Rv.keep h d u h2, Rvs.keep h ds vs h3⟩
theorem Rvss.keep {w w' : World} (h : Keep w w') (a : Option Addr) (z : Nat) : ∀ (L : List (List D)) (k : Nat), Rvss w a z L k → Rvss w' a z L k
  | [], k, h1 => trivial
  | ds :: L, k, h1 => by
    simp only [Rvss] at h1 ⊢
    obtain ⟨⟨ad, us, h0, hb, h2, h3, h4⟩, h5⟩ := h1
    exact ⟨⟨ad, us, h0, Nat.lt_of_lt_of_le hb h.size, Rvs.keep h ds us h2, h3, fun j u hu => Q.kcell h (h4 j u hu)⟩, Rvss.keep h a z L (k + 1) h5⟩
end
theorem rvss_at {w : World} {a : Option Addr} {z : Nat} : ∀ (L : List (List D)) (k : Nat), Rvss w a z L k → ∀ i, i < L.length → ∃ ad us, a = some ad ∧ ad.block < w.heap.size ∧ Rvs w (L.getD i []) us ∧ us.length = z ∧ ∀ j u, us[j]? = some u → w.cell? (ati (ad.add ((k + i) * z)) j) = some u
  | [], k, h, i, hi => by simp at hi
  | ds :: L, k, h, i, hi => by
    simp only [Rvss] at h
    cases i with
    | zero => obtain ⟨⟨ad, us, h0, hb, h2, h3, h4⟩, _⟩ := h; exact ⟨ad, us, h0, hb, by simpa using h2, h3, by simpa using h4⟩
    | succ i =>
      obtain ⟨ad, us, h0, hb, h2, h3, h4⟩ := rvss_at L (k + 1) h.2 i (by simpa using hi)
      refine ⟨ad, us, h0, hb, by simpa using h2, h3, fun j u hu => ?_⟩
      rw [show k + (i + 1) = k + 1 + i by omega]
      exact h4 j u hu
mutual
theorem Rd.rv {w : World} : ∀ (d : D) (P : Nat → Prop) (u : Value), Rd w d P u → Rv w d u
  | .val v, P, u, h => by simp only [Rd] at h; simp only [Rv]; exact h.1
  | .row e z L, P, u, h => by
    simp only [Rd] at h
    simp only [Rv]
    obtain ⟨xs, h1, h2, h3⟩ := h
    rcases h1.2 with ⟨rfl, h0⟩ | ⟨g, cap, cur, rfl, hb, hg, hc, hm, hs, ht⟩
    · have : L = [] := List.eq_nil_of_length_eq_zero h0
      subst this
      exact ⟨none, 0, rfl, Nat.le_refl _, trivial⟩
    · refine ⟨some ⟨g, 0, none⟩, cap, rfl, hc, Rdss.rv L _ z xs g 0 (Array.getElem?_eq_some_iff.1 hg).1 h3 (fun j u hu => ?_)⟩
      rw [← ht] at hu
      have hlt : j < xs.length := by rw [← ht]; exact (List.getElem?_eq_some_iff.1 hu).1
      simp only [World.cell?, hg]
      rw [Nat.zero_mul, Nat.zero_add]
      have : (cur.toList.take (L.length * z))[j]? = some u := hu
      rw [List.getElem?_take] at this
      split at this
      · simpa using this
      · cases this
theorem Rds.rv {w : World} : ∀ (ds : List D) (P : Nat → Prop) (us : List Value), Rds w ds P us → Rvs w ds us
  | [], P, us, h => by simp only [Rds] at h; simp only [Rvs]; exact h
  | d :: ds, P, us, h => by
    simp only [Rds] at h
    simp only [Rvs]
    obtain ⟨v, vs, h0, h1, h2⟩ := h
    exact ⟨v, vs, h0, Rd.rv d P v h1, Rds.rv ds P vs h2⟩
theorem Rdss.rv {w : World} : ∀ (L : List (List D)) (P : Nat → Prop) (z : Nat) (xs : List Value) (g k : Nat), g < w.heap.size → Rdss w L P z xs → (∀ j u, xs[j]? = some u → w.cell? ⟨g, k * z + j, none⟩ = some u) → Rvss w (some ⟨g, 0, none⟩) z L k
  | [], P, z, xs, g, k, hg, h, hx => trivial
  | ds :: L, P, z, xs, g, k, hg, h, hx => by
    simp only [Rdss] at h
    simp only [Rvss]
    obtain ⟨ys, zs, rfl, h1, h2, h3⟩ := h
    refine ⟨⟨⟨g, 0, none⟩, ys, rfl, hg, Rds.rv ds P ys h2, h1, fun j u hu => ?_⟩, Rdss.rv L P z zs g (k + 1) hg h3 (fun j u hu => ?_)⟩
    · rw [add_plain, ati_plain, Nat.zero_add]
      exact hx j u (by rw [List.getElem?_append_left (List.getElem?_eq_some_iff.1 hu).1]; exact hu)
    · have := hx (z + j) u (by rw [List.getElem?_append_right (by omega), h1, Nat.add_sub_cancel_left]; exact hu)
      rw [show (k + 1) * z + j = k * z + (z + j) by rw [Nat.add_mul]; omega]
      exact this
end
/-- what a cell holds, as a slice -/
def slA (w : World) (ad : Addr) : Option Addr := match w.cell? ad with | some (.slice a _ _) => a | _ => none
def slN (w : World) (ad : Addr) : Nat := match w.cell? ad with | some (.slice _ n _) => n | _ => 0
def slC (w : World) (ad : Addr) : Nat := match w.cell? ad with | some (.slice _ _ c) => c | _ => 0
def fS : D → ByteArray
  | .val (.string s) => s
  | _ => ⟨#[]⟩
def fI : D → Int
  | .val (.int .i64 n) => n
  | _ => 0
def fB : D → Bool
  | .val (.bool b) => b
  | _ => false
def fL : D → List (List D)
  | .row _ _ L => L
  | _ => []
theorem list_eq {α : Type} (d : α) {L M : List α} : L = M ↔ L.length = M.length ∧ ∀ k, k < L.length → L.getD k d = M.getD k d := by
  constructor
  · rintro rfl; exact ⟨rfl, fun _ _ => rfl⟩
  · rintro ⟨h, hk⟩
    apply List.ext_getElem h
    intro i h1 h2
    have := hk i h1
    rwa [List.getD_eq_getElem?_getD, List.getD_eq_getElem?_getD, List.getElem?_eq_getElem h1, List.getElem?_eq_getElem h2, Option.getD_some, Option.getD_some] at this
theorem map_eq {α β : Type} (q : α → β) (d : α) {L M : List α} : L.map q = M.map q ↔ L.length = M.length ∧ ∀ k, k < L.length → q (L.getD k d) = q (M.getD k d) := by
  rw [list_eq (q d)]
  simp only [List.length_map]
  refine and_congr_right fun h => forall_congr' fun k => ?_
  have e : ∀ X : List α, (X.map q).getD k (q d) = q (X.getD k d) := fun X => by
    rw [List.getD_eq_getElem?_getD, List.getElem?_map, List.getD_eq_getElem?_getD]
    cases X[k]? <;> rfl
  rw [e, e]
theorem sv_inj {a b : List UInt8} : (sv a).toList = (sv b).toList ↔ a = b := by
  rw [show (sv a).toList = a from ByteArray.toList_mk _, show (sv b).toList = b from ByteArray.toList_mk _]
/-- a row's answer, by its things' -/
theorem row_ans {n m : Nat} {E : Nat → Bool} : ∃ r : Bool, (r = true ↔ n = m ∧ ∀ k, k < n → E k = true) ∧ (n ≠ m → r = false) ∧ (n = m → ∀ k, k < n → E k = false → r = false) ∧ (n = m → (∀ k, k < n → E k = true) → r = true) := by
  classical
  refine ⟨decide (n = m ∧ ∀ k, k < n → E k = true), by simp, fun h => by simp [h], fun h k hk he => ?_, fun h hk => by simp [h]; intro k h2; exact hk k (by omega)⟩
  rw [decide_eq_false_iff_not]
  rintro ⟨_, h2⟩
  rw [h2 k hk] at he
  cases he
end Go.Proofs.YtmplckdpddmifaaGreatDoor
