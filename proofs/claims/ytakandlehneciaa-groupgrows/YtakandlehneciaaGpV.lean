/- Package group, plain: the orders that a row may have make layouts; what a layout's graph is like; how long it is at most. -/
import Derived.Test.YtakandlehneciaaGpQ
import Derived.Test.YtakandlehneciaaGpU
import Derived.Test.YtakandlehneciaaGpO
namespace Go.Proofs.Ytakandlehneciaa
set_option linter.unusedVariables false
set_option linter.unusedSimpArgs false
set_option maxRecDepth 10000
namespace Gp
open Pa
theorem os_row {RR : List (List Int)} {FR : List Bool} {AP : List P2} (hrt : Rt RR FR AP) {r : Nat} (hr : r < RR.length) {o : List Int} (ho : o ∈ osN RR FR r) : Od.isO o = true ∧ o.length = (RR.getD r []).length := by
  have h4 := (hrt.row _ (getD_mem (z := []) hr)).2.1
  unfold osN at ho
  rw [if_pos hr, Od.rowsN, List.mem_map] at ho
  obtain ⟨k, hk, rfl⟩ := ho
  rw [List.mem_range, Od.cnt_nat (by omega)] at hk
  obtain ⟨h1, _, h3⟩ := Od.nth_rank (n := (RR.getD r []).length) (k := k) (by omega) (by split at hk <;> omega)
  exact ⟨h1, h3⟩
theorem la_os {RR : List (List Int)} {FR : List Bool} {AP : List P2} (hrt : Rt RR FR AP) {p q : List Int} (hp : p ∈ osN RR FR 0) (hq : q ∈ osN RR FR 1) : La RR AP (p, q) := by
  refine ⟨hrt.rows, hrt.row, fun r hr => ?_, fun x hx => rt_pair hrt hx⟩
  rcases hrt.rows with h | h
  · obtain rfl : r = 0 := by omega
    rw [h]
    exact os_row hrt hr hp
  · have : r = 0 ∨ r = 1 := by omega
    rw [h]
    rcases this with rfl | rfl
    · exact os_row hrt hr hp
    · exact os_row hrt hr hq
/-- the rows of a layout -/
theorem la_row {RR : List (List Int)} {D : List P2} {o : O2} (h : La RR D o) {i : Nat} (hi : i < RR.length) : ∃ m, (RR.getD i []).length = m + 1 ∧ m ≤ 3 ∧ ((oo RR.length o).getD i []).length = m + 1 ∧ ∀ k, k < m + 1 → ∃ q : Nat, ((oo RR.length o).getD i []).getD k 0 = (q : Int) ∧ q < m + 1 := by
  obtain ⟨h1, h2, _⟩ := h.row _ (getD_mem (z := []) hi)
  obtain ⟨h3, h4⟩ := h.ord i hi
  refine ⟨(RR.getD i []).length - 1, by omega, by omega, by omega, fun k hk => ?_⟩
  have h5 := ((Od.isO_all h3).2 _).1 (getD_mem (z := 0) (show k < ((oo RR.length o).getD i []).length by omega))
  exact ⟨(((oo RR.length o).getD i []).getD k 0).toNat, by omega, by omega⟩
/-- its pairs -/
theorem la_ed {RR : List (List Int)} {D : List P2} {o : O2} (h : La RR D o) {k : Nat} (hk : k < D.length) : ∃ A B a b : Nat, D.getD k z2 = ((A : Int), (B : Int)) ∧ A < ((PLn (oo RR.length o) RR.length).getD 0 []).length ∧ B < ((PLn (oo RR.length o) RR.length).getD 1 []).length ∧ ((PLn (oo RR.length o) RR.length).getD 0 []).getD A 0 = (a : Int) ∧ ((PLn (oo RR.length o) RR.length).getD 1 []).getD B 0 = (b : Int) ∧ a + 1 < ((MKn RR RR.length).getD 0 []).length ∧ b + 1 < ((MKn RR RR.length).getD 1 []).length ∧ ((MKn RR RR.length).getD 0 []).length ≤ 10 ∧ ((MKn RR RR.length).getD 1 []).length ≤ 10 ∧ (PLn (oo RR.length o) RR.length).length = 2 ∧ (MKn RR RR.length).length = 2 := by
  obtain ⟨A, B, e, hA, hB, h2⟩ := h.pair _ (getD_mem (z := z2) hk)
  have h0 : 0 < RR.length := by omega
  have h1 : 1 < RR.length := by omega
  obtain ⟨i0, l0⟩ := h.ord 0 h0
  obtain ⟨i1, l1⟩ := h.ord 1 h1
  obtain ⟨a, ea, ha, _⟩ := pl_in i0 l0 hA
  obtain ⟨b, eb, hb, _⟩ := pl_in i1 l1 hB
  have m0 := (h.row _ (getD_mem (z := []) h0)).2.1
  have m1 := (h.row _ (getD_mem (z := []) h1)).2.1
  refine ⟨A, B, a, b, e, ?_, ?_, ?_, ?_, ?_, ?_, ?_, ?_, by simp [PLn, h2], by simp [MKn, h2]⟩
  · rw [PL_at _ h0, Od.tnL, if_pos i0]; simp only [Od.tl, List.length_map, List.length_range]; omega
  · rw [PL_at _ h1, Od.tnL, if_pos i1]; simp only [Od.tl, List.length_map, List.length_range]; omega
  · rw [PL_at _ h0]; exact ea
  · rw [PL_at _ h1]; exact eb
  · rw [MK_at _ h0, mkR_len h.row h0]; omega
  · rw [MK_at _ h1, mkR_len h.row h1]; omega
  · rw [MK_at _ h0, mkR_len h.row h0]; omega
  · rw [MK_at _ h1, mkR_len h.row h1]; omega
theorem dn_in {AP : List P2} {x : P2} (h : x ∈ dn [] AP) : x ∈ AP := by have := (dn_mem AP [] x).1 (by simpa using h); simpa using this
theorem Jb.at {w : World} {vr vf va : Value} {RR : List (List Int)} {FR : List Bool} {AP : List P2} (h : Jb w (.agg #[vr, vf, va]) RR FR AP) : Ir w vr RR ∧ Bs w vf FR ∧ Ps w va AP := by
  obtain ⟨a, b, c, e, h1, h2, h3⟩ := h
  simp at e
  obtain ⟨rfl, rfl, rfl⟩ := e
  exact ⟨h1, h2, h3⟩
theorem wk_bd {E : List Ed} (he : ∀ e ∈ E, e.2.2 ≤ 6000) {k : Nat} {s : Int} {p : Nat} (h : Wk E k s p) : s ≤ 6000 * (k : Int) := by
  induction h with
  | nil => simp
  | snoc h hm ih => have := he _ hm; simp only at this; push_cast; omega
theorem good_bd {n : Nat} {E : List Ed} (hg : Gr n E) {d : List Int} (h : Pa.Good n E d) (he : ∀ e ∈ E, e.2.2 ≤ 6000) (p : Nat) : g d p ≤ 6000 * (n : Int) := by
  by_cases h0 : 0 ≤ g d p
  · obtain ⟨k, hk⟩ := h.2.2 p h0
    obtain ⟨k', s', h1, h2, h3⟩ := short hg h.2.1 hk
    have := wk_bd he h1
    omega
  · omega
/-- how long a layout is -/
theorem la_hv {RR : List (List Int)} {D : List P2} {o : O2} (h : La RR D o) (L : List Bool) (h0 : (lg (ptN RR RR.length : Int) (edF RR D o L)).2 = 0) : (lg (ptN RR RR.length : Int) (edF RR D o L)).1.length = ptN RR RR.length ∧ (lg (ptN RR RR.length : Int) (edF RR D o L)).1.getD 1 0 ≤ 6000000 ∧ 2 ≤ ptN RR RR.length := by
  have hX : ∀ x ∈ D.zip L, x.1 ∈ D := fun x hx => zip_in hx
  have e : edF RR D o L = edX RR o (D.zip L) := rfl
  have h2 := ptN_ge RR RR.length
  rw [e, lgX h hX] at h0 ⊢
  rcases lgd_or (n := ptN RR RR.length) (nE (edX RR o (D.zip L))) with h1 | ⟨d, h1, h3⟩
  · rw [h1] at h0; simp at h0
  · rw [h3]
    refine ⟨h1.1.1, ?_, h2⟩
    simp only
    have hb := good_bd (edX_gr h hX) h1 (fun e he => by
      obtain ⟨e3, he3, rfl⟩ := List.mem_map.1 he
      obtain ⟨p, q, _, _, _, _, _, l⟩ := edX_ok h hX e3 he3
      exact l) 1
    have h5 := ptN_le h.row RR.length
    have h6 := h.two
    rw [gd_1 (by rw [h1.1.1]; exact h2)]
    omega
theorem fold_max2 {α : Type} (f g : α → Int) (v : Int) : ∀ (l : List α) (m : Int), 0 ≤ m ∧ m ≤ v → (∀ a ∈ l, f a ≤ v ∧ g a ≤ v) → 0 ≤ l.foldl (fun m a => max (max m (f a)) (g a)) m ∧ l.foldl (fun m a => max (max m (f a)) (g a)) m ≤ v
  | [], m, h, _ => h
  | a :: l, m, h, ha => by
    rw [List.foldl_cons]
    have := ha a (by simp)
    exact fold_max2 f g v l _ ⟨by omega, by omega⟩ (fun b hb => ha b (by simp [hb]))
theorem fold_max0 {α : Type} (f : α → Int) (v : Int) : ∀ (l : List α) (m : Int), 0 ≤ m ∧ m ≤ v → (∀ a ∈ l, f a ≤ v) → 0 ≤ l.foldl (fun m a => max m (f a)) m ∧ l.foldl (fun m a => max m (f a)) m ≤ v
  | [], m, h, _ => h
  | a :: l, m, h, ha => by
    rw [List.foldl_cons]
    have := ha a (by simp)
    exact fold_max0 f v l _ ⟨by omega, by omega⟩ (fun b hb => ha b (by simp [hb]))
theorem flr_bd {RR : List (List Int)} {FR : List Bool} {AP D : List P2} (hrt : Rt RR FR AP) (hD : D.length ≤ 16) (hs : ∀ p ∈ D, p ∈ AP) : 0 ≤ flr RR D ∧ flr RR D ≤ 1000000 := by
  have h1 : 0 ≤ flA RR ∧ flA RR ≤ 1000000 := by
    unfold flA
    refine fold_max0 (fun r => sumN r) 1000000 RR 0 (by omega) fun L hL => ?_
    obtain ⟨_, h4, ht⟩ := hrt.row L hL
    have := (sum_bd ht L.length (Nat.le_refl _)).2
    rw [take_all] at this
    unfold sumN
    omega
  unfold flr flS
  refine fold_max2 _ _ 1000000 D _ h1 fun p hp => ?_
  have r0 := rt_rg hrt 0
  have r1 := rt_rg hrt 1
  have b0 := (stA_bd r1 p D (rg_at r0 p.1.toNat) D.length (Nat.le_refl _)).2
  have b1 := (stB_bd r0 p D (rg_at r1 p.2.toNat) D.length (Nat.le_refl _)).2
  rw [take_all] at b0 b1
  omega
end Gp
end Go.Proofs.Ytakandlehneciaa
