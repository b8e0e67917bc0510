/- Package group, plain: one pair less, one time more. -/
import Derived.Test.YtakandlehneciaaGqD
namespace Go.Proofs.Ytakandlehneciaa
set_option linter.unusedVariables false
set_option linter.unusedSimpArgs false
set_option maxRecDepth 10000
namespace Gp
open Pa
theorem nest_lt {O β : Type} {f : O → List Bool → Option (β × Int)} {n : Nat} : ∀ (l : List O) (B : Option (β × Int)) (x : Int), lt B x = false → lt (l.foldl (fun B o => (allB n).foldl (sf (f o)) B) B) x = false
  | [], B, x, h => h
  | o :: l, B, x, h => nest_lt l _ x (fold_lt (f := f o) (allB n) B x h)
theorem nest_all {O β : Type} {f : O → List Bool → Option (β × Int)} {n : Nat} : ∀ (l : List O) (B : Option (β × Int)), ∀ o ∈ l, ∀ M ∈ allB n, ∀ y, f o M = some y → lt (l.foldl (fun B o => (allB n).foldl (sf (f o)) B) B) y.2 = false
  | c :: l, B, o, ho, M, hM, y, hy => by
    rw [List.foldl_cons]
    rcases List.mem_cons.1 ho with rfl | ho
    · exact nest_lt l _ _ (fold_all (f := f o) (allB n) B M hM y hy)
    · exact nest_all l _ o ho M hM y hy
/-- none is less than the best -/
theorem best_le {RR : List (List Int)} {FR : List Bool} {AP : List P2} {o : O2} {M : List Bool} {u : Bt} (ho : o ∈ prs (osN RR FR 0) (osN RR FR 1)) (hM : M.length = AP.length) (hf : fX RR o (AP.zip M) = some u) : ∃ b, bestN RR FR AP = some b ∧ b.2 ≤ u.2 := by
  have h := nest_all (f := fun o M => fX RR o (AP.zip M)) (n := AP.length) (prs (osN RR FR 0) (osN RR FR 1)) none o ho M (mem_allB.2 hM) u hf
  unfold bestN
  cases hb : (prs (osN RR FR 0) (osN RR FR 1)).foldl (fun B o => (allB AP.length).foldl (sf ((fun o M => fX RR o (AP.zip M)) o)) B) none with
  | none => rw [hb] at h; simp [lt] at h
  | some b =>
    rw [hb] at h
    refine ⟨b, rfl, ?_⟩
    simp [lt] at h
    exact h
/-- one pair less -/
theorem rt_less {RR : List (List Int)} {FR : List Bool} {AP : List P2} (h : Rt RR FR AP) (n : Nat) : Rt RR FR (AP.take n) :=
  ⟨h.rows, h.free, h.row, fun e => by rw [h.one e]; simp, by rw [List.length_take]; have := h.few; omega, fun p hp => h.pair p (List.mem_of_mem_take hp)⟩
theorem zip_take {α β : Type} : ∀ (A : List α) (B : List β) (n : Nat), ∀ x ∈ (A.take n).zip (B.take n), x ∈ A.zip B
  | [], B, n, x, hx => by simp at hx
  | a :: A, [], n, x, hx => by simp at hx
  | a :: A, b :: B, 0, x, hx => by simp at hx
  | a :: A, b :: B, n + 1, x, hx => by
    rw [List.take_succ_cons, List.take_succ_cons, List.zip_cons_cons, List.mem_cons] at hx
    rw [List.zip_cons_cons, List.mem_cons]
    exact hx.imp id (zip_take A B n x)
theorem less_ok {RR : List (List Int)} {FR : List Bool} {AP : List P2} {b : Bt} (hrt : Rt RR FR AP) (h : bestN RR FR AP = some b) (n : Nat) : ∃ b', bestN RR FR (AP.take n) = some b' ∧ b'.2 ≤ b.2 := by
  obtain ⟨o, ho, M, hM, hf⟩ := best_some h
  have hla := la_all hrt o ho
  obtain ⟨u, hu, hl⟩ := fX_mono hla (fun x hx => zip_in hx) (zip_take AP M n) hf
  obtain ⟨b', hb', hl'⟩ := best_le ho (M := M.take n) (by rw [List.length_take, List.length_take, hM]) hu
  exact ⟨b', hb', by omega⟩
/-- no layout is shorter than a ring -/
theorem best_sum {RR : List (List Int)} {FR : List Bool} {AP : List P2} {b : Bt} (hrt : Rt RR FR AP) (h : bestN RR FR AP = some b) {r : Nat} (hr : r < RR.length) : sumN (RR.getD r []) ≤ b.2 := by
  obtain ⟨o, ho, M, hM, hf⟩ := best_some h
  have hla := la_all hrt o ho
  obtain ⟨_, hg, e2⟩ := fX_good hla (fun x hx => zip_in hx) hf
  have hn2 := ptN_ge RR RR.length
  rw [e2, gd_1 (by rw [hg.1.1]; exact hn2)]
  exact row_sum hla (fun x hx => zip_in hx) hg hr
theorem ph_of {RR OO : List (List Int)} : ∀ {R : Nat} {e : E3}, e ∈ PHn RR OO R → ∃ r j, r < R ∧ j < (RR.getD r []).length ∧ e = phE (mkR RR r) (RR.getD r []) (OO.getD r []) j
  | 0, e, h => by simp [PHn] at h
  | R + 1, e, h => by
    rw [PHn, List.mem_append] at h
    rcases h with h | h
    · obtain ⟨r, j, h1, h2, h3⟩ := ph_of h
      exact ⟨r, j, by omega, h2, h3⟩
    · obtain ⟨j, hj, rfl⟩ := List.mem_map.1 h
      exact ⟨R, j, by omega, List.mem_range.1 hj, rfl⟩
/-- one time of the first ring is more -/
structure Gw (RR R2 : List (List Int)) (k : Nat) (more : Int) : Prop where
  len : R2.length = RR.length
  lens : ∀ r, (R2.getD r []).length = (RR.getD r []).length
  one : ∀ j, (R2.getD 0 []).getD j 0 = (RR.getD 0 []).getD j 0 + if j = k then more else 0
  rest : ∀ r, 1 ≤ r → R2.getD r [] = RR.getD r []
  kin : k < (RR.getD 0 []).length
  pos : 0 ≤ more
theorem gw_pt {RR R2 : List (List Int)} {k : Nat} {more : Int} (h : Gw RR R2 k more) : ∀ r, ptN R2 r = ptN RR r
  | 0 => rfl
  | r + 1 => by rw [ptN, ptN, gw_pt h r, h.lens]
theorem gw_mk {RR R2 : List (List Int)} {k : Nat} {more : Int} (h : Gw RR R2 k more) (r : Nat) : mkR R2 r = mkR RR r := by unfold mkR; rw [gw_pt h, h.lens]
theorem gw_MK {RR R2 : List (List Int)} {k : Nat} {more : Int} (h : Gw RR R2 k more) (r : Nat) : MKn R2 r = MKn RR r := by
  unfold MKn
  exact List.map_congr_left fun i _ => gw_mk h i
theorem gw_la {RR R2 : List (List Int)} {k : Nat} {more : Int} {D : List P2} {o : O2} (h : Gw RR R2 k more) (hr : ∀ L ∈ R2, Rg L) (hla : La RR D o) : La R2 D o := by
  refine ⟨by rw [h.len]; exact hla.two, hr, fun r hlt => ?_, fun p hp => ?_⟩
  · rw [h.len] at hlt ⊢
    rw [h.lens]
    exact hla.ord r hlt
  · rw [h.lens, h.lens, h.len]
    exact hla.pair p hp
theorem gw_os {RR R2 : List (List Int)} {k : Nat} {more : Int} (h : Gw RR R2 k more) (FR : List Bool) (r : Nat) : osN R2 FR r = osN RR FR r := by unfold osN; rw [h.len, h.lens]
/-- an edge of a layout: along a phase, or of a pair -/
theorem ed_of {RR : List (List Int)} {o : O2} {X : List (P2 × Bool)} {e : Ed} (h : e ∈ nE (edX RR o X)) : (∃ r j, r < RR.length ∧ j < (RR.getD r []).length ∧ e = ((phE (mkR RR r) (RR.getD r []) ((oo RR.length o).getD r []) j).1.toNat, (phE (mkR RR r) (RR.getD r []) ((oo RR.length o).getD r []) j).2.1.toNat, (phE (mkR RR r) (RR.getD r []) ((oo RR.length o).getD r []) j).2.2)) ∨ (∃ e3 ∈ X.map (prE ((PLn (oo RR.length o) RR.length).getD 0 []) ((PLn (oo RR.length o) RR.length).getD 1 []) ((MKn RR RR.length).getD 0 []) ((MKn RR RR.length).getD 1 [])), e = (e3.1.toNat, e3.2.1.toNat, e3.2.2)) := by
  obtain ⟨e3, h3, rfl⟩ := List.mem_map.1 h
  unfold edX edN at h3
  rcases List.mem_append.1 h3 with h4 | h4
  · obtain ⟨r, j, h5, h6, rfl⟩ := ph_of h4
    exact .inl ⟨r, j, h5, h6, rfl⟩
  · exact .inr ⟨e3, h4, rfl⟩
theorem ed_ph {RR : List (List Int)} {o : O2} {X : List (P2 × Bool)} {r j : Nat} (h1 : r < RR.length) (h2 : j < (RR.getD r []).length) : ((phE (mkR RR r) (RR.getD r []) ((oo RR.length o).getD r []) j).1.toNat, (phE (mkR RR r) (RR.getD r []) ((oo RR.length o).getD r []) j).2.1.toNat, (phE (mkR RR r) (RR.getD r []) ((oo RR.length o).getD r []) j).2.2) ∈ nE (edX RR o X) :=
  List.mem_map.2 ⟨_, by unfold edX edN; exact List.mem_append.2 (.inl (ph_mem h2 h1)), rfl⟩
theorem ed_pr {RR : List (List Int)} {o : O2} {X : List (P2 × Bool)} {e3 : E3} (h : e3 ∈ X.map (prE ((PLn (oo RR.length o) RR.length).getD 0 []) ((PLn (oo RR.length o) RR.length).getD 1 []) ((MKn RR RR.length).getD 0 []) ((MKn RR RR.length).getD 1 []))) : (e3.1.toNat, e3.2.1.toNat, e3.2.2) ∈ nE (edX RR o X) :=
  List.mem_map.2 ⟨_, by unfold edX edN; exact List.mem_append.2 (.inr h), rfl⟩
theorem gw_time {RR R2 : List (List Int)} {k : Nat} {more : Int} (h : Gw RR R2 k more) (r j : Nat) : (R2.getD r []).getD j 0 = (RR.getD r []).getD j 0 + if r = 0 ∧ j = k then more else 0 := by
  by_cases hr : r = 0
  · subst hr; rw [h.one]; simp
  · rw [h.rest r (by omega), if_neg (by omega)]; simp
/-- what fits the greater times fits the lesser ones -/
theorem gw_fit {RR R2 : List (List Int)} {k : Nat} {more : Int} (h : Gw RR R2 k more) {o : O2} {X : List (P2 × Bool)} {d : Nat → Int} (hf : Fit (nE (edX R2 o X)) d) : Fit (nE (edX RR o X)) d := by
  refine ⟨hf.1, fun e he h0 => ?_⟩
  rcases ed_of he with ⟨r, j, h1, h2, rfl⟩ | ⟨e3, h3, rfl⟩
  · have hm := ed_ph (RR := R2) (o := o) (X := X) (r := r) (j := j) (by rw [h.len]; exact h1) (by rw [h.lens]; exact h2)
    have h4 := hf.2 _ hm
    rw [gw_mk h, h.len] at h4
    unfold phE at h4 h0 ⊢
    simp only at h4 h0 ⊢
    have h5 := h4 h0
    rw [gw_time h] at h5
    have := h.pos
    split at h5 <;> omega
  · have hm : (e3.1.toNat, e3.2.1.toNat, e3.2.2) ∈ nE (edX R2 o X) := ed_pr (by rw [h.len, gw_MK h]; exact h3)
    exact hf.2 _ hm h0
/-- what fits the lesser times, with more behind the phase, fits the greater ones -/
theorem gw_up {RR R2 : List (List Int)} {k : Nat} {more : Int} (h : Gw RR R2 k more) (hz : ∀ L ∈ RR, ∀ t ∈ L, 1 ≤ t) {D : List P2} {o : O2} (hla : La RR D o) {X : List (P2 × Bool)} (hX : ∀ x ∈ X, x.1 ∈ D) {d : List Int} (hd : Pa.Good (ptN RR RR.length) (nE (edX RR o X)) d) :
    ∃ d' : Nat → Int, Fit (nE (edX R2 o X)) d' ∧ d' 1 ≤ g d 1 + more := by
  have hr0 : 0 < RR.length := by have := hla.two; omega
  obtain ⟨i0, l0⟩ := hla.ord 0 hr0
  obtain ⟨k0, hk0, hk1, hk2⟩ := pl_in i0 l0 h.kin
  obtain ⟨z0, hs, hpos, _⟩ := sv_ok hla hX hd hr0
  have hsk := hpos k0 (by omega)
  have hp := h.pos
  have hg0 : g d 0 = 0 := fit_zero (edX_gr hla hX) hd.2.1 hd.2.2
  have key : ∀ (p q : Nat) (l : Int), 0 ≤ l → (0 ≤ g d p → g d p + l ≤ g d q) → 0 ≤ (if g d p ≤ sv RR d 0 k0 then g d p else g d p + more) → (if g d p ≤ sv RR d 0 k0 then g d p else g d p + more) + l ≤ (if g d q ≤ sv RR d 0 k0 then g d q else g d q + more) := fun p q l hl h1 h2 => by
    have h3 : 0 ≤ g d p := by split at h2 <;> omega
    have h4 := h1 h3
    split <;> split <;> omega
  refine ⟨fun p => if g d p ≤ sv RR d 0 k0 then g d p else g d p + more, ⟨by simp only [hg0]; split <;> omega, fun e he h0 => ?_⟩, by simp only; split <;> omega⟩
  rcases ed_of he with ⟨r, j, h1, h2, rfl⟩ | ⟨e3, h3, rfl⟩
  · rw [h.len] at h1
    rw [h.lens] at h2
    have hm := ed_ph (RR := RR) (o := o) (X := X) h1 h2
    have h4 := hd.2.1.2 _ hm
    rw [gw_mk h, h.len] at h0 ⊢
    unfold phE at h4 h0 ⊢
    simp only at h4 h0 ⊢
    rw [gw_time h]
    have hrow := (hla.row _ (getD_mem (z := []) h1)).2.2
    have ht := (rg_at hrow (((oo RR.length o).getD r []).getD j 0).toNat).1
    by_cases hc : r = 0 ∧ (((oo RR.length o).getD r []).getD j 0).toNat = k
    · rw [if_pos hc]
      obtain ⟨rfl, hc2⟩ := hc
      -- it is the phase that is longer
      have hj : j = k0 := by
        have hb := Od.tl_back i0 (i := j) (by omega)
        rw [hc2] at hb
        rw [Od.tnL, if_pos i0] at hk0
        rw [hk0] at hb
        omega
      subst hj
      have e1 : g d ((mkR RR 0).getD j 0).toNat = sv RR d 0 j := rfl
      have h6 := h4 (by rw [e1]; exact hsk)
      have h7 : 1 ≤ (RR.getD 0 []).getD k 0 := hz _ (getD_mem (z := []) hr0) _ (getD_mem (z := 0) h.kin)
      rw [hc2] at h6 ⊢
      rw [e1] at h6 ⊢
      rw [if_pos (Int.le_refl _)]
      split <;> omega
    · rw [if_neg hc, Int.add_zero]
      exact key _ _ _ ht h4 h0
  · rw [h.len, gw_MK h] at h3
    have h4 := hd.2.1.2 _ (ed_pr h3)
    have h5 : 0 ≤ e3.2.2 := by
      obtain ⟨x, hx, rfl⟩ := List.mem_map.1 h3
      obtain ⟨_, _, _, _, _, _, l1, _⟩ := pr_ok hla (hX x hx)
      exact l1
    exact key _ _ _ h5 h4 h0
/-- a time more: no shorter, and at most as much longer -/
theorem grow_ok {RR R2 : List (List Int)} {FR : List Bool} {AP : List P2} {k : Nat} {more : Int} {b : Bt} (h : Gw RR R2 k more) (hz : ∀ L ∈ RR, ∀ t ∈ L, 1 ≤ t) (hrt : Rt RR FR AP) (hr2 : Rt R2 FR AP) (hb : bestN RR FR AP = some b) : ∃ c, bestN R2 FR AP = some c ∧ b.2 ≤ c.2 ∧ c.2 ≤ b.2 + more := by
  obtain ⟨o, ho, M, hM, hf⟩ := best_some hb
  have hla := la_all hrt o ho
  have hX : ∀ x ∈ AP.zip M, x.1 ∈ AP := fun x hx => zip_in hx
  obtain ⟨_, hg, e2⟩ := fX_good hla hX hf
  have hn2 := ptN_ge RR RR.length
  rw [gd_1 (by rw [hg.1.1]; exact hn2)] at e2
  obtain ⟨d', hf', hl'⟩ := gw_up h hz hla hX hg
  have hla2 := gw_la h hr2.row hla
  obtain ⟨v, hv⟩ := fX_of hla2 hX hf'
  obtain ⟨_, vg, v2⟩ := fX_good hla2 hX hv
  have hn3 := ptN_ge R2 R2.length
  rw [gd_1 (by rw [vg.1.1]; exact hn3)] at v2
  have hb0 : 0 ≤ b.2 := by
    have := best_sum hrt hb (r := 0) (by rcases hrt.rows with h | h <;> omega)
    have hs := (sum_bd (hrt.row _ (getD_mem (z := []) (show 0 < RR.length by rcases hrt.rows with h | h <;> omega))).2.2 _ (Nat.le_refl _)).1
    rw [take_all] at hs
    unfold sumN at this
    omega
  have hup : v.2 ≤ b.2 + more := by
    rw [v2]
    by_cases h0 : 0 ≤ g v.1.2 1
    · obtain ⟨w, hw⟩ := vg.2.2 1 h0
      have := fit_ge (edX_gr hla2 hX) hf' hw
      omega
    · have := h.pos; omega
  have ho2 : o ∈ prs (osN R2 FR 0) (osN R2 FR 1) := by rw [gw_os h, gw_os h]; exact ho
  obtain ⟨c, hc, hcl⟩ := best_le ho2 hM hv
  refine ⟨c, hc, ?_, by omega⟩
  -- no shorter
  obtain ⟨o3, ho3, M3, hM3, hf3⟩ := best_some hc
  rw [gw_os h, gw_os h] at ho3
  have hla3 := la_all hrt o3 ho3
  have hX3 : ∀ x ∈ AP.zip M3, x.1 ∈ AP := fun x hx => zip_in hx
  have hla4 := gw_la h hr2.row hla3
  obtain ⟨_, cg, c2⟩ := fX_good hla4 hX3 hf3
  rw [gd_1 (by rw [cg.1.1]; exact hn3)] at c2
  have hf4 := gw_fit h cg.2.1
  obtain ⟨u, hu⟩ := fX_of hla3 hX3 hf4
  obtain ⟨_, ug, u2⟩ := fX_good hla3 hX3 hu
  rw [gd_1 (by rw [ug.1.1]; exact hn2)] at u2
  obtain ⟨b9, hb9, hl9⟩ := best_le ho3 hM3 hu
  rw [hb] at hb9
  injection hb9 with hb9
  subst hb9
  by_cases h0 : 0 ≤ g u.1.2 1
  · obtain ⟨w, hw⟩ := ug.2.2 1 h0
    have := fit_ge (edX_gr hla3 hX3) hf4 hw
    omega
  · omega
end Gp
end Go.Proofs.Ytakandlehneciaa
