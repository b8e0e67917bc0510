/- Package group, plain: layouts as graphs; the more edges the longer; what the search tells. -/
import Derived.Test.YtakandlehneciaaGpC
namespace Go.Proofs.Ytakandlehneciaa
set_option linter.unusedVariables false
set_option linter.unusedSimpArgs false
set_option maxRecDepth 10000
namespace Gp
open Pa
theorem pr_ok {RR : List (List Int)} {D : List P2} {o : O2} (h : La RR D o) {x : P2 × Bool} (hx : x.1 ∈ D) : okE (ptN RR RR.length) (prE ((PLn (oo RR.length o) RR.length).getD 0 []) ((PLn (oo RR.length o) RR.length).getD 1 []) ((MKn RR RR.length).getD 0 []) ((MKn RR RR.length).getD 1 []) x) := by
  obtain ⟨a, b, e, ha, hb, h2⟩ := h.pair x.1 hx
  rw [PL_at _ (by omega), PL_at _ (by omega), MK_at _ (by omega), MK_at _ (by omega)]
  obtain ⟨k, hk, hk2, _⟩ := pl_in (h.ord 0 (by omega)).1 (h.ord 0 (by omega)).2 ha
  obtain ⟨m, hm, hm2, _⟩ := pl_in (h.ord 1 (by omega)).1 (h.ord 1 (by omega)).2 hb
  obtain ⟨p0, e0, l0⟩ := mk_in h.row (show 0 < RR.length by omega) (k := k) (by omega)
  obtain ⟨p1, e1, l1⟩ := mk_in h.row (show 0 < RR.length by omega) (k := k + 1) (by omega)
  obtain ⟨q0, f0, m0⟩ := mk_in h.row (show 1 < RR.length by omega) (k := m) (by omega)
  obtain ⟨q1, f1, m1⟩ := mk_in h.row (show 1 < RR.length by omega) (k := m + 1) (by omega)
  unfold prE
  rw [e]
  simp only [Int.toNat_natCast, hk, hm]
  cases x.2
  · simp only [if_false, Bool.false_eq_true]; exact ⟨p1, q0, e1, f0, l1, m0, Int.le_refl _, by simp⟩
  · simp only [if_true]; exact ⟨q1, p0, f1, e0, m1, l0, Int.le_refl _, by simp⟩
/-- the edges of a layout, with any pairs settled -/
def edX (RR : List (List Int)) (o : O2) (X : List (P2 × Bool)) : List E3 := edN (PLn (oo RR.length o) RR.length) (MKn RR RR.length) (PHn RR (oo RR.length o) RR.length) X
theorem edX_ok {RR : List (List Int)} {D : List P2} {o : O2} (h : La RR D o) {X : List (P2 × Bool)} (hX : ∀ x ∈ X, x.1 ∈ D) : ∀ e ∈ edX RR o X, okE (ptN RR RR.length) e := fun e he => by
  unfold edX edN at he
  rcases List.mem_append.1 he with he | he
  · exact ph_ok h.row (fun r hr => (h.ord r hr).2) _ (Nat.le_refl _) e he
  · obtain ⟨x, hx, rfl⟩ := List.mem_map.1 he
    exact pr_ok h (hX x hx)
theorem edX_len {RR : List (List Int)} {D : List P2} {o : O2} (h : La RR D o) (X : List (P2 × Bool)) : (edX RR o X).length ≤ 8 + X.length := by
  have := ph_len RR (oo RR.length o) h.row RR.length
  have h2 := h.two
  unfold edX edN
  rw [List.length_append, List.length_map]
  omega
theorem edX_g {RR : List (List Int)} {D : List P2} {o : O2} (h : La RR D o) {X : List (P2 × Bool)} (hX : ∀ x ∈ X, x.1 ∈ D) : isG (ptN RR RR.length : Int) (edX RR o X) = true := by
  have h1 := ptN_ge RR RR.length
  have h2 := ptN_le h.row RR.length
  have h3 := h.two
  unfold isG
  rw [decide_eq_true (by omega), Bool.true_and, List.all_eq_true]
  intro e he
  obtain ⟨p, q, e1, e2, l1, l2, l3, l4⟩ := edX_ok h hX e he
  unfold badE
  rw [Bool.not_eq_true', decide_eq_false_iff_not]
  omega
theorem edX_gr {RR : List (List Int)} {D : List P2} {o : O2} (h : La RR D o) {X : List (P2 × Bool)} (hX : ∀ x ∈ X, x.1 ∈ D) : Gr (ptN RR RR.length) (nE (edX RR o X)) := by
  obtain ⟨m, hm, _, _, hg, _⟩ := isG_gr (edX_g h hX)
  have : m = ptN RR RR.length := by omega
  rw [← this]; exact hg
theorem lgX {RR : List (List Int)} {D : List P2} {o : O2} (h : La RR D o) {X : List (P2 × Bool)} (hX : ∀ x ∈ X, x.1 ∈ D) : lg (ptN RR RR.length : Int) (edX RR o X) = lgd (ptN RR RR.length) (nE (edX RR o X)) := lg_yes (edX_g h hX)
theorem lg_fit {n : Nat} {E : List Ed} (hg : Gr n E) {d : Nat → Int} (hf : Fit E d) : ∃ d', Pa.Good n E d' ∧ lgd n E = (d', 0) := by
  rcases longest hg (jac_rd hg) (Nat.le_refl n) with ⟨d', _, h2, h3, h4⟩ | ⟨_, h2⟩
  · exact ⟨d', ⟨h2, h3, h4⟩, lgd_good hg ⟨h2, h3, h4⟩⟩
  · exact absurd hf (h2 d)
/-- how long a layout is, and its times -/
noncomputable def fX (RR : List (List Int)) (o : O2) (X : List (P2 × Bool)) : Option Bt :=
  if (lg (ptN RR RR.length : Int) (edX RR o X)).2 = 0 then some ((o, (lg (ptN RR RR.length : Int) (edX RR o X)).1), (lg (ptN RR RR.length : Int) (edX RR o X)).1.getD 1 0) else none
theorem fN_X (RR : List (List Int)) (D : List P2) (o : O2) (L : List Bool) : fN RR D o L = fX RR o (D.zip L) := rfl
theorem fX_good {RR : List (List Int)} {D : List P2} {o : O2} (h : La RR D o) {X : List (P2 × Bool)} (hX : ∀ x ∈ X, x.1 ∈ D) {v : Bt} (hv : fX RR o X = some v) : v.1.1 = o ∧ Pa.Good (ptN RR RR.length) (nE (edX RR o X)) v.1.2 ∧ v.2 = v.1.2.getD 1 0 := by
  unfold fX at hv
  rw [lgX h hX] at hv
  rcases lgd_or (n := ptN RR RR.length) (nE (edX RR o X)) with h1 | ⟨d, h1, h2⟩
  · rw [h1] at hv; simp at hv
  · rw [h2] at hv
    simp at hv
    subst hv
    exact ⟨rfl, h1, rfl⟩
theorem fX_of {RR : List (List Int)} {D : List P2} {o : O2} (h : La RR D o) {X : List (P2 × Bool)} (hX : ∀ x ∈ X, x.1 ∈ D) {d : Nat → Int} (hf : Fit (nE (edX RR o X)) d) : ∃ v, fX RR o X = some v := by
  obtain ⟨d', h1, h2⟩ := lg_fit (edX_gr h hX) hf
  unfold fX
  rw [lgX h hX, h2]
  exact ⟨_, rfl⟩
theorem edX_sub (RR : List (List Int)) (o : O2) {X Y : List (P2 × Bool)} (h : ∀ x ∈ X, x ∈ Y) : ∀ e ∈ nE (edX RR o X), e ∈ nE (edX RR o Y) := fun e he => by
  obtain ⟨e', he', rfl⟩ := List.mem_map.1 he
  refine List.mem_map.2 ⟨e', ?_, rfl⟩
  unfold edX edN at he' ⊢
  rcases List.mem_append.1 he' with h1 | h1
  · exact List.mem_append.2 (.inl h1)
  · obtain ⟨x, hx, rfl⟩ := List.mem_map.1 h1
    exact List.mem_append.2 (.inr (List.mem_map.2 ⟨x, h x hx, rfl⟩))
theorem gd_1 {d : List Int} (h : 2 ≤ d.length) : d.getD 1 0 = g d 1 := by
  unfold g
  rw [List.getD_eq_getElem?_getD, List.getD_eq_getElem?_getD, List.getElem?_eq_getElem (by omega)]
  rfl
/-- fewer pairs: no longer -/
theorem fX_mono {RR : List (List Int)} {D : List P2} {o : O2} (h : La RR D o) {X Y : List (P2 × Bool)} (hY : ∀ x ∈ Y, x.1 ∈ D) (hs : ∀ x ∈ X, x ∈ Y) {v : Bt} (hv : fX RR o Y = some v) : ∃ u, fX RR o X = some u ∧ u.2 ≤ v.2 := by
  have hX : ∀ x ∈ X, x.1 ∈ D := fun x hx => hY x (hs x hx)
  obtain ⟨_, h2, h3⟩ := fX_good h hY hv
  obtain ⟨u, hu⟩ := fX_of h hX (fit_less (edX_sub RR o hs) h2.2.1)
  obtain ⟨_, k2, k3⟩ := fX_good h hX hu
  have hn := ptN_ge RR RR.length
  refine ⟨u, hu, ?_⟩
  rw [h3, k3, gd_1 (by rw [k2.1.1]; exact hn), gd_1 (by rw [h2.1.1]; exact hn)]
  exact more_ge (edX_gr h hY) (edX_sub RR o hs) k2.2.2 h2.2.1 h2.1.2 k2.1.2 1
/-- the same pairs, the same -/
theorem fX_same {RR : List (List Int)} {D : List P2} {o : O2} (h : La RR D o) {X Y : List (P2 × Bool)} (hY : ∀ x ∈ Y, x.1 ∈ D) (hs : ∀ x, x ∈ X ↔ x ∈ Y) : fX RR o X = fX RR o Y := by
  have hX : ∀ x ∈ X, x.1 ∈ D := fun x hx => hY x ((hs x).1 hx)
  have hE : lgd (ptN RR RR.length) (nE (edX RR o X)) = lgd (ptN RR RR.length) (nE (edX RR o Y)) := by
    rcases lgd_or (n := ptN RR RR.length) (nE (edX RR o Y)) with h1 | ⟨d, h1, h2⟩
    · rcases lgd_or (n := ptN RR RR.length) (nE (edX RR o X)) with h3 | ⟨d, h3, h4⟩
      · rw [h1, h3]
      · obtain ⟨d', h5, h6⟩ := lg_fit (edX_gr h hY) (fit_less (edX_sub RR o fun x hx => (hs x).2 hx) h3.2.1)
        rw [h1] at h6; simp at h6
    · rw [h2]
      exact lgd_good (edX_gr h hX) ⟨h1.1, fit_less (edX_sub RR o fun x hx => (hs x).1 hx) h1.2.1, att_more (edX_sub RR o fun x hx => (hs x).2 hx) h1.2.2⟩
  unfold fX
  rw [lgX h hX, lgX h hY, hE]
end Gp
end Go.Proofs.Ytakandlehneciaa
