/- Slices of pairs in memory: read from whatever place, or owned by the call. -/
import Derived.Test.YtcllijjmjmfedaaCArc
import Derived.Laws.AppendOwn
import Derived.Laws.OwnMore
import Derived.OwnWalk
namespace Go.Proofs.Ytcllijjmjmfedaa
open Go.RowKit
set_option linter.unusedVariables false
set_option linter.unusedSimpArgs false
/-- pairs as cells -/
def cl : List Pr → List Value
  | [] => []
  | p :: l => .int .i64 p.1 :: .int .i64 p.2 :: cl l
theorem cl_append : ∀ l m : List Pr, cl (l ++ m) = cl l ++ cl m
  | [], m => rfl
  | p :: l, m => by simp only [List.cons_append, cl, cl_append l m]
theorem cl_length : ∀ l : List Pr, (cl l).length = l.length * 2
  | [] => rfl
  | p :: l => by simp only [cl, List.length_cons, cl_length l]; omega
theorem cl_at0 : ∀ (l : List Pr) (k : Nat), k < l.length → (cl l)[k * 2]? = some (.int .i64 (l.getD k (0, 0)).1)
  | [], k, h => by simp at h
  | p :: l, 0, h => by simp [cl]
  | p :: l, k + 1, h => by
    have := cl_at0 l k (by simpa using h)
    rw [show (k + 1) * 2 = k * 2 + 1 + 1 by omega]
    simpa [cl] using this
theorem cl_at1 : ∀ (l : List Pr) (k : Nat), k < l.length → (cl l)[k * 2 + 1]? = some (.int .i64 (l.getD k (0, 0)).2)
  | [], k, h => by simp at h
  | p :: l, 0, h => by simp [cl]
  | p :: l, k + 1, h => by
    have := cl_at1 l k (by simpa using h)
    rw [show (k + 1) * 2 + 1 = k * 2 + 1 + 1 + 1 by omega]
    simpa [cl] using this
theorem cl_one (l : List Pr) : ∀ u, u ∈ cl l → u.oneCell' = true := by
  induction l with
  | nil => intro u h; simp [cl] at h
  | cons p l ih =>
    intro u h
    simp only [cl, List.mem_cons] at h
    rcases h with rfl | rfl | h
    · rfl
    · rfl
    · exact ih u h
/-- v is a slice that reads as the pairs L; what it has lies below block n₀ -/
def Rb (n₀ : Nat) (w : World) (v : Value) (L : List Pr) : Prop := ∃ a cap, v = .slice a L.length cap ∧ L.length ≤ cap ∧ ∀ k, k < L.length → ∃ ad, a = some ad ∧ ad.block < n₀ ∧ InP (L.getD k (0, 0))
  ∧ w.cell? (ad.add (k * 2)) = some (.int .i64 (L.getD k (0, 0)).1) ∧ w.cell? ⟨(ad.add (k * 2)).block, (ad.add (k * 2)).off + 1, none⟩ = some (.int .i64 (L.getD k (0, 0)).2)
theorem add_block (ad : Addr) (n : Nat) : (ad.add n).block = ad.block := by unfold Addr.add; split <;> rfl
theorem add_plain (b o n : Nat) : (⟨b, o, none⟩ : Addr).add n = ⟨b, o + n, none⟩ := by unfold Addr.add; split <;> simp_all
theorem Rb.below {n₀ n₁ : Nat} {w w' : World} {v : Value} {L : List Pr} (h : Rb n₀ w v L) (hk : Below n₁ w w') (hn : n₀ ≤ n₁) : Rb n₀ w' v L := by
  obtain ⟨a, cap, rfl, hc, h⟩ := h
  refine ⟨a, cap, rfl, hc, fun k hlt => ?_⟩
  obtain ⟨ad, h0, h1, h2, h4, h5⟩ := h k hlt
  refine ⟨ad, h0, h1, h2, ?_, ?_⟩
  · rw [Below.cell hk (by rw [add_block]; omega)]; exact h4
  · rw [Below.cell (p := ⟨(ad.add (k * 2)).block, (ad.add (k * 2)).off + 1, none⟩) hk (by show (ad.add (k * 2)).block < _; rw [add_block]; omega)]; exact h5
theorem Rb.mono {n₀ n₁ : Nat} {w : World} {v : Value} {L : List Pr} (h : Rb n₀ w v L) (hn : n₀ ≤ n₁) : Rb n₁ w v L := by
  obtain ⟨a, cap, rfl, hc, h⟩ := h
  refine ⟨a, cap, rfl, hc, fun k hlt => ?_⟩
  obtain ⟨ad, h0, h1, h2⟩ := h k hlt
  exact ⟨ad, h0, by omega, h2⟩
/-- v is a slice that reads as the pairs L -/
def Rs (w : World) (v : Value) (L : List Pr) : Prop := Rb w.heap.size w v L
theorem Rs.keep {w w' : World} {v : Value} {L : List Pr} (h : Rs w v L) (hk : Keep w w') : Rs w' v L :=
  (Rb.below h hk (Nat.le_refl _)).mono (Below.size hk)
theorem rs_heap {w w' : World} {v : Value} {L : List Pr} (h : w'.heap = w.heap) (hr : Rs w v L) : Rs w' v L := by
  have e : ∀ ad, w'.cell? ad = w.cell? ad := fun ad => by simp only [World.cell?, h]
  unfold Rs Rb at *
  simp only [e, h]
  exact hr
theorem rs_nil (w : World) : Rs w (.slice none 0 0) [] := ⟨none, 0, rfl, Nat.le_refl _, fun k h => by simp at h⟩
/-- what the call owns reads so -/
theorem rs_own {w : World} {base : Nat} {e : TypeId} {v : Value} {L : List Pr} (hi : ∀ p, p ∈ L → InP p) (h : w.ownsRow base e 2 v L.length (cl L)) : Rs w v L := by
  obtain ⟨_, h⟩ := h
  rcases h with ⟨rfl, h0⟩ | ⟨g, cap, cur, rfl, hb, hg, hc, hm, hs, ht⟩
  · have : L = [] := List.eq_nil_of_length_eq_zero h0
    subst this
    exact rs_nil w
  · refine ⟨_, cap, rfl, hc, fun k hk => ⟨_, rfl, ?_, ?_, ?_, ?_⟩⟩
    · exact (Array.getElem?_eq_some_iff.1 hg).1
    · rw [List.getD_eq_getElem?_getD, List.getElem?_eq_getElem hk]
      exact hi _ (List.getElem_mem hk)
    · rw [add_plain, Nat.zero_add]
      have h0 := cl_at0 L k hk
      rw [← ht, List.getElem?_take_of_lt (by omega)] at h0
      simp only [World.cell?, hg]
      simpa using h0
    · rw [add_plain, Nat.zero_add]
      have h0 := cl_at1 L k hk
      rw [← ht, List.getElem?_take_of_lt (by omega)] at h0
      simp only [World.cell?, hg]
      simpa using h0
theorem cl_set1 : ∀ (l : List Pr) (k : Nat) (y : Int), k < l.length → (cl l).set (k * 2 + 1) (.int .i64 y) = cl (l.set k ((l.getD k (0, 0)).1, y))
  | [], k, y, h => by simp at h
  | p :: l, 0, y, h => by simp [cl]
  | p :: l, k + 1, y, h => by
    have := cl_set1 l k y (by simpa using h)
    rw [show (k + 1) * 2 + 1 = k * 2 + 1 + 1 + 1 by omega]
    simpa [cl] using this
/-- all but the first -/
theorem rs_tail {w : World} {g n cap : Nat} {p : Pr} {L : List Pr} (h : Rs w (.slice (some ⟨g, 0, none⟩) n cap) (p :: L)) : Rs w (.slice (some ⟨g, 2, none⟩) L.length (cap - 1)) L := by
  obtain ⟨a, cap', e, hc, h⟩ := h
  injection e with e1 e2 e3
  subst e1 e3
  simp only [List.length_cons] at hc h
  refine ⟨_, _, rfl, by omega, fun k hk => ?_⟩
  obtain ⟨ad, h0, h1, h2, h3, h4⟩ := h (k + 1) (by omega)
  injection h0 with h0
  subst h0
  rw [add_plain] at h3 h4
  have e : (p :: L).getD (k + 1) (0, 0) = L.getD k (0, 0) := by simp
  rw [e] at h2 h3 h4
  refine ⟨_, rfl, h1, h2, ?_, ?_⟩
  · rw [add_plain, show 2 + k * 2 = 0 + (k + 1) * 2 by omega]; exact h3
  · rw [add_plain, show 2 + k * 2 = 0 + (k + 1) * 2 by omega]; exact h4
end Go.Proofs.Ytcllijjmjmfedaa
