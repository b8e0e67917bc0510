/- Package group, plain: what Lay tells, by all layouts; and by reckoning. -/
import Derived.Test.YtakandlehneciaaGpY
namespace Go.Proofs.Ytakandlehneciaa
set_option linter.unusedVariables false
set_option linter.unusedSimpArgs false
set_option maxRecDepth 10000
namespace Gp
open Pa
/-- all pairs of orders -/
def prs (F S : List (List Int)) : List O2 := F.flatMap fun p => S.map fun q => (p, q)
theorem all2_map (F S : List (List Int)) : all2 F S = (prs F S).map fun o => (o, []) := by
  unfold all2 prs
  rw [List.map_flatMap]
  congr 1
  funext p
  rw [List.map_map]
  rfl
theorem prs_len (F S : List (List Int)) : (prs F S).length = F.length * S.length := by
  unfold prs
  induction F with
  | nil => simp
  | cons p F ih => rw [List.flatMap_cons, List.length_append, ih, List.length_map, List.length_cons, Nat.succ_mul, Nat.add_comm]
theorem prs_mem {F S : List (List Int)} {o : O2} (h : o ∈ prs F S) : o.1 ∈ F ∧ o.2 ∈ S := by
  unfold prs at h
  obtain ⟨p, hp, h⟩ := List.mem_flatMap.1 h
  obtain ⟨q, hq, rfl⟩ := List.mem_map.1 h
  exact ⟨hp, hq⟩
theorem la_all {RR : List (List Int)} {FR : List Bool} {AP : List P2} (hrt : Rt RR FR AP) : ∀ o ∈ prs (osN RR FR 0) (osN RR FR 1), La RR AP o := fun o ho => la_os hrt (prs_mem ho).1 (prs_mem ho).2
/-- the first of the best of all layouts -/
noncomputable def bestN (RR : List (List Int)) (FR : List Bool) (AP : List P2) : Option Bt := (prs (osN RR FR 0) (osN RR FR 1)).foldl (fun B o => (allB AP.length).foldl (sf fun M => fX RR o (AP.zip M)) B) none
theorem go_less {O β : Type} {f : O → List Bool → Option (β × Int)} {n : Nat} {fl : Int} {k : Nat} {B : Option (β × Int)} {t : O × List Bool} {T : List (O × List Bool)} : (go f n fl (k + 1) B (t :: T)).2.2 ≤ k := by
  rcases go_case (f := f) (n := n) (fl := fl) B t with h | ⟨y, h, hl⟩ | ⟨y, h, hl, hn⟩ | ⟨y, h, hl, hn, he⟩ | ⟨y, h, hl, hn, he⟩
  · rw [go_none h]; exact (go_le _ _ _).1
  · rw [go_long h hl]; exact (go_le _ _ _).1
  · rw [go_two h hl hn]; exact (go_le _ _ _).1
  · rw [go_stop h hl hn he]; exact Nat.le_refl _
  · rw [go_on h hl hn he]; exact (go_le _ _ _).1
theorem go_best {RR : List (List Int)} {FR : List Bool} {AP : List P2} {bud : Int} (hrt : Rt RR FR AP) (h : (goJ RR FR AP bud).1 = true) : (goJ RR FR AP bud).2.1 = bestN RR FR AP := by
  unfold goJ at h ⊢
  rw [all2_map] at h ⊢
  exact search_best (la_all hrt) _ h
theorem most_le {RR : List (List Int)} {FR : List Bool} {AP : List P2} {bud : Int} (hR : jobR RR FR AP = true) (hb : mostN RR FR AP ≤ bud) : (goJ RR FR AP bud).1 = true := by
  unfold goJ
  rw [all2_map]
  refine search_done ?_
  unfold mostN at hb
  rw [if_pos hR] at hb
  rw [prs_len]
  omega
/-- what a right job's Lay tells, with steps that suffice -/
theorem lay_of {RR : List (List Int)} {FR : List Bool} {AP : List P2} {bud : Int} (hR : jobR RR FR AP = true) (h1 : 1 ≤ bud) (h : (goJ RR FR AP bud).1 = true) : (bestN RR FR AP = none ∧ layN RR FR AP bud = (none, bud - ((goJ RR FR AP bud).2.2 : Int), 150)) ∨ (∃ b, bestN RR FR AP = some b ∧ layN RR FR AP bud = (some b, bud - ((goJ RR FR AP bud).2.2 : Int), 0)) := by
  have hb := go_best (rt_of hR) h
  unfold layN
  rw [hR, if_neg (by simp), if_neg (by omega), if_pos h, hb]
  cases bestN RR FR AP with
  | none => exact .inl ⟨rfl, rfl⟩
  | some b => exact .inr ⟨b, rfl, rfl⟩
theorem osN_pos {RR : List (List Int)} {FR : List Bool} {AP : List P2} (hrt : Rt RR FR AP) (r : Nat) : 1 ≤ (osN RR FR r).length := by
  unfold osN
  split
  · rename_i hr
    have h4 := (hrt.row _ (getD_mem (z := []) hr)).2.1
    rw [Od.rowsN_len, Od.cnt_nat (by omega)]
    have := Od.fc_pos (RR.getD r []).length
    split <;> omega
  · rw [Od.rowsN_len]
    exact Nat.le_refl _
/-- how many steps it takes: one at least -/
theorem steps_ge {RR : List (List Int)} {FR : List Bool} {AP : List P2} {bud : Int} (hR : jobR RR FR AP = true) (h1 : 1 ≤ bud) : ((goJ RR FR AP bud).2.2 : Int) ≤ bud - 1 := by
  have hrt := rt_of hR
  have h0 := osN_pos hrt 0
  have h2 := osN_pos hrt 1
  have hl := prs_len (osN RR FR 0) (osN RR FR 1)
  have hp : 1 ≤ (osN RR FR 0).length * (osN RR FR 1).length := Nat.mul_pos h0 h2
  unfold goJ
  rw [all2_map]
  obtain ⟨k, hk⟩ : ∃ k, bud.toNat = k + 1 := ⟨bud.toNat - 1, by omega⟩
  rw [hk]
  cases e : prs (osN RR FR 0) (osN RR FR 1) with
  | nil => rw [e] at hl; simp at hl; omega
  | cons o l =>
    rw [List.map_cons]
    have := go_less (f := fN RR (dn [] AP)) (n := (dn [] AP).length) (fl := flr RR (dn [] AP)) (k := k) (B := none) (t := (o, [])) (T := l.map fun o => (o, []))
    omega
/-- by reckoning -/
def lgc (n : Nat) (E : List Ed) : List Int × Int := match runR (jac E) n (d0 n) with
  | (d, false) => (d, 0)
  | (_, true) => ([], 140)
theorem lgd_c {n : Nat} {E : List Ed} (hg : Gr n E) : lgd n E = lgc n E := by
  unfold lgc
  rcases longest hg (jac_rd hg) (Nat.le_refl n) with ⟨d, h1, h2, h3, h4⟩ | ⟨h1, h2⟩
  · rw [h1]; exact lgd_good hg ⟨h2, h3, h4⟩
  · rw [lgd_none h2]
    rcases h9 : runR (jac E) n (d0 n) with ⟨d, b⟩
    rw [h9] at h1
    cases b with
    | false => cases h1
    | true => rfl
def fXc (RR : List (List Int)) (o : O2) (X : List (P2 × Bool)) : Option Bt :=
  if (lgc (ptN RR RR.length) (nE (edX RR o X))).2 = 0 then some ((o, (lgc (ptN RR RR.length) (nE (edX RR o X))).1), (lgc (ptN RR RR.length) (nE (edX RR o X))).1.getD 1 0) else none
theorem fX_c {RR : List (List Int)} {D : List P2} {o : O2} (h : La RR D o) {X : List (P2 × Bool)} (hX : ∀ x ∈ X, x.1 ∈ D) : fX RR o X = fXc RR o X := by
  unfold fX fXc
  rw [lgX h hX, lgd_c (edX_gr h hX)]
def bestC (RR : List (List Int)) (FR : List Bool) (AP : List P2) : Option Bt := (prs (osN RR FR 0) (osN RR FR 1)).foldl (fun B o => (allB AP.length).foldl (sf fun M => fXc RR o (AP.zip M)) B) none
theorem best_c {RR : List (List Int)} {FR : List Bool} {AP : List P2} (hrt : Rt RR FR AP) : bestN RR FR AP = bestC RR FR AP :=
  fold_cong _ _ _ none fun o ho B => fold_same _ _ fun M _ => fX_c (la_all hrt o ho) (fun x hx => zip_in hx)
/-- the examples -/
theorem ex1 : ∃ b st, layN [[5, 3], [4, 4]] [false, false] [(0, 1)] 1000 = (some b, st, 0) ∧ b.2 = 9 ∧ 1 ≤ st := by
  have hR : jobR [[5, 3], [4, 4]] [false, false] [(0, 1)] = true := by decide +kernel
  have hs := steps_ge (bud := 1000) hR (by omega)
  rcases lay_of (bud := 1000) hR (by omega) (most_le hR (by decide +kernel)) with ⟨h1, _⟩ | ⟨b, h1, h2⟩
  · rw [best_c (rt_of hR)] at h1
    exact absurd h1 (by decide +kernel)
  · refine ⟨b, _, h2, ?_, by omega⟩
    rw [best_c (rt_of hR)] at h1
    have h9 : (bestC [[5, 3], [4, 4]] [false, false] [(0, 1)]).map (·.2) = some 9 := by decide +kernel
    rw [h1] at h9
    simpa using h9
theorem ex2 : ∃ st, layN [[5, 3], [4, 4]] [false, false] [(0, 0)] 1000 = (none, st, 150) := by
  have hR : jobR [[5, 3], [4, 4]] [false, false] [(0, 0)] = true := by decide +kernel
  rcases lay_of (bud := 1000) hR (by omega) (most_le hR (by decide +kernel)) with ⟨_, h2⟩ | ⟨b, h1, h2⟩
  · exact ⟨_, h2⟩
  · rw [best_c (rt_of hR)] at h1
    have h9 : (bestC [[5, 3], [4, 4]] [false, false] [(0, 0)]).map (·.2) = none := by decide +kernel
    rw [h1] at h9
    simp at h9
theorem ex3 : ∃ b st, layN [[5, 3], [4, 4]] [true, true] [(0, 0)] 1000 = (some b, st, 0) ∧ b.2 = 9 ∧ 1 ≤ st := by
  have hR : jobR [[5, 3], [4, 4]] [true, true] [(0, 0)] = true := by decide +kernel
  have hs := steps_ge (bud := 1000) hR (by omega)
  rcases lay_of (bud := 1000) hR (by omega) (most_le hR (by decide +kernel)) with ⟨h1, _⟩ | ⟨b, h1, h2⟩
  · rw [best_c (rt_of hR)] at h1
    exact absurd h1 (by decide +kernel)
  · refine ⟨b, _, h2, ?_, by omega⟩
    rw [best_c (rt_of hR)] at h1
    have h9 : (bestC [[5, 3], [4, 4]] [true, true] [(0, 0)]).map (·.2) = some 9 := by decide +kernel
    rw [h1] at h9
    simpa using h9
end Gp
end Go.Proofs.Ytakandlehneciaa
