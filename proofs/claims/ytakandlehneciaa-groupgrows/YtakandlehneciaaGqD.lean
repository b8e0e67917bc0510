/- Package group, plain: what a layout that is told keeps. -/
import Derived.Test.YtakandlehneciaaGqC
namespace Go.Proofs.Ytakandlehneciaa
set_option linter.unusedVariables false
set_option linter.unusedSimpArgs false
set_option maxRecDepth 10000
namespace Gp
open Pa
theorem best_in {O β : Type} {f : O → List Bool → Option (β × Int)} {n : Nat} : ∀ (l : List O) (B0 : Option (β × Int)), l.foldl (fun B o => (allB n).foldl (sf (f o)) B) B0 = B0 ∨ ∃ o ∈ l, ∃ M, M.length = n ∧ ∃ y, f o M = some y ∧ l.foldl (fun B o => (allB n).foldl (sf (f o)) B) B0 = some y
  | [], B0 => .inl rfl
  | o :: l, B0 => by
    rw [List.foldl_cons]
    rcases best_in l ((allB n).foldl (sf (f o)) B0) with h | ⟨o2, ho2, M, hM, y, hy, h⟩
    · rw [h]
      rcases fold_in (f := f o) (allB n) B0 with h2 | ⟨M, hM, y, hy, h2⟩
      · exact .inl h2
      · exact .inr ⟨o, by simp, M, mem_allB.1 hM, y, hy, h2⟩
    · exact .inr ⟨o2, by simp [ho2], M, hM, y, hy, h⟩
theorem best_some {RR : List (List Int)} {FR : List Bool} {AP : List P2} {b : Bt} (h : bestN RR FR AP = some b) : ∃ o ∈ prs (osN RR FR 0) (osN RR FR 1), ∃ M, M.length = AP.length ∧ fX RR o (AP.zip M) = some b := by
  unfold bestN at h
  rcases best_in (f := fun o M => fX RR o (AP.zip M)) (n := AP.length) (prs (osN RR FR 0) (osN RR FR 1)) none with h1 | ⟨o, ho, M, hM, y, hy, h1⟩
  · rw [h1] at h; cases h
  · rw [h1] at h
    injection h with h
    subst h
    exact ⟨o, ho, M, hM, hy⟩
theorem nth_0 : ∀ n : Nat, n < 5 → ∀ k : Nat, k < n → (Od.nth (n : Int) 0).getD k 0 = (k : Int) := by decide
/-- a ring that is not free has its phases in order -/
theorem os_fix {RR : List (List Int)} {FR : List Bool} {AP : List P2} (hrt : Rt RR FR AP) {r : Nat} (hr : r < RR.length) (hf : FR.getD r false = false) {o : List Int} (ho : o ∈ osN RR FR r) {k : Nat} (hk : k < (RR.getD r []).length) : o.getD k 0 = (k : Int) := by
  have h4 := (hrt.row _ (getD_mem (z := []) hr)).2.1
  unfold osN at ho
  rw [if_pos hr, hf, if_neg (by simp), Od.rowsN, List.mem_map] at ho
  obtain ⟨j, hj, rfl⟩ := ho
  rw [List.mem_range] at hj
  obtain rfl : j = 0 := by omega
  exact nth_0 (RR.getD r []).length (by omega) k hk
theorem stL_at {M d : List Int} {n k : Nat} (h : k < n) : (stL M d n).getD k 0 = d.getD (M.getD k 0).toNat 0 := by
  rw [List.getD_eq_getElem?_getD, stL, List.getElem?_map, List.getElem?_range h]; rfl
theorem STn_at {MK OO : List (List Int)} {d : List Int} {r R : Nat} (h : r < R) : (STn MK OO d R).getD r [] = stL (MK.getD r []) d (OO.getD r []).length := by
  rw [List.getD_eq_getElem?_getD, STn, List.getElem?_map, List.getElem?_range h]; rfl
theorem g_0 {d : List Int} {k : Nat} (h : k < d.length) : d.getD k 0 = g d k := by
  unfold g
  rw [List.getD_eq_getElem?_getD, List.getD_eq_getElem?_getD, List.getElem?_eq_getElem h]
  rfl
/-- a row of a layout's times -/
theorem st_sv {RR : List (List Int)} {D : List P2} {o : O2} (h : La RR D o) {d : List Int} (hd : d.length = ptN RR RR.length) {r : Nat} (hr : r < RR.length) : ((STn (MKn RR RR.length) (oo RR.length o) d (oo RR.length o).length).getD r []).length = (RR.getD r []).length ∧ ∀ k, k < (RR.getD r []).length → ((STn (MKn RR RR.length) (oo RR.length o) d (oo RR.length o).length).getD r []).getD k 0 = sv RR d r k := by
  have h1 := (h.ord r hr).2
  rw [oo_len h.two, STn_at hr, MK_at _ hr]
  refine ⟨by rw [stL_len, h1], fun k hk => ?_⟩
  rw [stL_at (by omega)]
  obtain ⟨q, hq, hq2⟩ := mk_in h.row hr (k := k) (by omega)
  unfold sv
  rw [hq]
  exact g_0 (by rw [hd]; simpa using hq2)
/-- what a layout that is told keeps -/
structure HoldsP (RR : List (List Int)) (FR : List Bool) (AP : List P2) (x : Int) (OO ST : List (List Int)) : Prop where
  lo : OO.length = RR.length
  ls : ST.length = RR.length
  lf : FR.length = RR.length
  two : RR.length = 1 ∨ RR.length = 2
  few : AP.length ≤ 16
  row : ∀ i, i < RR.length → Od.isO (OO.getD i []) = true ∧ (OO.getD i []).length = (RR.getD i []).length ∧ (ST.getD i []).length = (RR.getD i []).length ∧ 1 ≤ (RR.getD i []).length ∧ (RR.getD i []).length ≤ 4 ∧ (ST.getD i []).getD 0 0 = 0
  col : ∀ i, i < RR.length → ∀ k, k < (RR.getD i []).length → ∃ q : Nat, (OO.getD i []).getD k 0 = (q : Int) ∧ q < (RR.getD i []).length ∧ (RR.getD i []).getD q 0 ≤ (edL x (ST.getD i [])).getD k 0 - (ST.getD i []).getD k 0 ∧ (FR.getD i false = false → q = k) ∧ 0 ≤ (ST.getD i []).getD k 0 ∧ (ST.getD i []).getD k 0 ≤ 6000000 ∧ 0 ≤ (edL x (ST.getD i [])).getD k 0 ∧ (edL x (ST.getD i [])).getD k 0 ≤ 6000000
  pair : ∀ k, k < AP.length → ∃ A B a b : Nat, AP.getD k z2 = ((A : Int), (B : Int)) ∧ RR.length = 2 ∧ A < (RR.getD 0 []).length ∧ B < (RR.getD 1 []).length ∧ (Od.tnL (OO.getD 0 [])).getD A 0 = (a : Int) ∧ a < (RR.getD 0 []).length ∧ (Od.tnL (OO.getD 1 [])).getD B 0 = (b : Int) ∧ b < (RR.getD 1 []).length ∧ ((edL x (ST.getD 0 [])).getD a 0 ≤ (ST.getD 1 []).getD b 0 ∨ (edL x (ST.getD 1 [])).getD b 0 ≤ (ST.getD 0 []).getD a 0)
theorem ed_sv {RR : List (List Int)} {D : List P2} {o : O2} (h : La RR D o) {X : List (P2 × Bool)} (hX : ∀ x ∈ X, x.1 ∈ D) {d : List Int} (hd : Pa.Good (ptN RR RR.length) (nE (edX RR o X)) d) {r : Nat} (hr : r < RR.length) {k : Nat} (hk : k < (RR.getD r []).length) : (edL (g d 1) ((STn (MKn RR RR.length) (oo RR.length o) d (oo RR.length o).length).getD r [])).getD k 0 = sv RR d r (k + 1) := by
  obtain ⟨h1, h2⟩ := st_sv h hd.1.1 hr
  rw [edL_at (by omega), h1]
  by_cases e : k + 1 = (RR.getD r []).length
  · rw [if_pos e, e]
    exact (sv_ok h hX hd hr).2.2.2.symm
  · rw [if_neg e]
    exact h2 (k + 1) (by omega)
theorem best_holds {RR : List (List Int)} {FR : List Bool} {AP : List P2} {b : Bt} (hrt : Rt RR FR AP) (h : bestN RR FR AP = some b) : HoldsP RR FR AP b.2 (oo RR.length b.1.1) (STn (MKn RR RR.length) (oo RR.length b.1.1) b.1.2 (oo RR.length b.1.1).length) := by
  obtain ⟨o, ho, M, hM, hf⟩ := best_some h
  have hla := la_all hrt o ho
  have hX : ∀ x ∈ AP.zip M, x.1 ∈ AP := fun x hx => zip_in hx
  obtain ⟨e1, hg, e2⟩ := fX_good hla hX hf
  obtain ⟨⟨o9, d⟩, y⟩ := b
  simp only at e1 hg e2 ⊢
  subst e1
  have hn2 := ptN_ge RR RR.length
  rw [gd_1 (by rw [hg.1.1]; exact hn2)] at e2
  subst e2
  have hbd := good_bd (edX_gr hla hX) hg (fun e he => by
    obtain ⟨e3, he3, rfl⟩ := List.mem_map.1 he
    obtain ⟨p, q, _, _, _, _, _, l⟩ := edX_ok hla hX e3 he3
    exact l)
  have hpt := ptN_le hrt.row RR.length
  have hR : (oo RR.length o9).length = RR.length := oo_len hrt.rows _
  have hsb : ∀ r k, sv RR d r k ≤ 6000000 := fun r k => by
    have := hbd ((mkR RR r).getD k 0).toNat
    unfold sv
    rcases hrt.rows with h | h <;> omega
  refine ⟨hR, by rw [hR]; simp [STn], hrt.free, hrt.rows, hrt.few, fun i hi => ?_, fun i hi k hk => ?_, fun k hk => ?_⟩
  · obtain ⟨h1, h2⟩ := hla.ord i hi
    obtain ⟨h3, h4⟩ := st_sv hla hg.1.1 hi
    obtain ⟨r1, r2, _⟩ := hrt.row _ (getD_mem (z := []) hi)
    exact ⟨h1, h2, h3, r1, r2, by rw [h4 0 (by omega)]; exact (sv_ok hla hX hg hi).1⟩
  · obtain ⟨m, h1, _, h3, h4⟩ := la_row hla hi
    obtain ⟨q, hq, hq2⟩ := h4 k (by omega)
    obtain ⟨_, s2⟩ := st_sv hla hg.1.1 hi
    obtain ⟨_, t2, t3, _⟩ := sv_ok hla hX hg hi
    have t4 := t2 k hk
    have t5 := t3 k (by omega)
    have t6 := t3 (k + 1) (by omega)
    rw [hq] at t4
    rw [ed_sv hla hX hg hi hk, s2 k hk]
    refine ⟨q, hq, by omega, by simp only [Int.toNat_natCast] at t4; omega, fun hfr => ?_, t5, hsb i k, t6, hsb i (k + 1)⟩
    have hio : (oo RR.length o9).getD i [] ∈ osN RR FR i := by
      have hp := prs_mem ho
      rcases hrt.rows with h | h
      · obtain rfl : i = 0 := by omega
        rw [h]; exact hp.1
      · have : i = 0 ∨ i = 1 := by omega
        rw [h]
        rcases this with rfl | rfl
        · exact hp.1
        · exact hp.2
    have := os_fix hrt hi hfr hio hk
    rw [hq] at this
    omega
  · have hp : AP.getD k z2 ∈ AP := getD_mem hk
    obtain ⟨A, B, e, hA, hB, h2⟩ := hla.pair _ hp
    rw [e] at hp
    obtain ⟨ka, kb, k1, k2, k3, k4, _, _, k5⟩ := pair_ok hla hX hg hp (zip_full AP M hM hp)
    refine ⟨A, B, ka, kb, e, h2, hA, hB, k3, k1, k4, k2, ?_⟩
    rw [ed_sv hla hX hg (by omega) k1, ed_sv hla hX hg (by omega) k2, (st_sv hla hg.1.1 (by omega)).2 ka k1, (st_sv hla hg.1.1 (by omega)).2 kb k2]
    exact k5
end Gp
end Go.Proofs.Ytakandlehneciaa
