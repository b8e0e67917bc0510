/- Package group: a search is made. -/
import Derived.Test.YtakandlehneciaaGpJ
import Derived.Test.YtakandlehneciaaGpV
namespace Go.Proofs.Ytakandlehneciaa
open Go.RowKit
attribute [local go_sem ↓] Go.wp_at_zero Go.wp_at_succ
set_option linter.unusedVariables false
set_option linter.unusedSimpArgs false
set_option maxRecDepth 10000
namespace Gp
open Pa
/-- a search that is made -/
def NSq (RR : List (List Int)) (FR : List Bool) (AP : List P2) (vr vf va : Value) (bud : Int) (w : World) (e : Ending) (w' : World) : Prop :=
  ∃ w9 sb vd, e = .returned (.pointer (some ⟨sb, 0, none⟩)) ∧ Keep w w9 ∧ Ps w9 vd (dn [] AP) ∧ Sv RR w9 w' sb vr vf va vd (flr RR (dn [] AP)) bud bud.toNat none
set_option maxHeartbeats 4000000 in
theorem new_any (RR : List (List Int)) (FR : List Bool) (AP : List P2) (vr vf va : Value) (bud : Int) (w : World) (hJ : Jb w (.agg #[vr, vf, va]) RR FR AP) (hrt : Rt RR FR AP) (hb : 0 ≤ bud ∧ bud ≤ 9223372036854775807) :
    Calls Try.prog 19 #[.agg #[vr, vf, va], .int .i64 bud] w (NSq RR FR AP vr vf va bud w) := by
  have hn : (dn [] AP).length ≤ 16 := Nat.le_trans (dn_len AP []) hrt.few
  have TD := hide (fun (w' : World) (hk : Keep w w') => distinct_any va AP w' (hJ.at.2.2.keep hk) (Nat.le_trans hrt.few (by omega)))
  have TF := hide (fun (vd : Value) (w' : World) (hk : Keep w w') (hd : Ps w' vd (dn [] AP)) => floor_any vr vd RR FR AP (dn [] AP) w' (hJ.at.1.keep hk) hd hn hrt (fun p hp => dn_in hp))
  have HQ : Hid (∀ w9 vd w', Keep w w9 → Ps w9 vd (dn [] AP) → Keep w9 w' → w'.heap[w9.heap.size]? = some (.cells #[vr, vf, va, vd, .int .i64 (flr RR (dn [] AP)), .int .i64 0, .int .i64 bud, .int .i64 9223372036854775807, .slice none 0 0, .slice none 0 0] 47 (0, 0)) → NSq RR FR AP vr vf va bud w (.returned (.pointer (some ⟨w9.heap.size, 0, none⟩))) w') := hide (fun w9 vd w' h1 h2 h3 h4 => ⟨w9, w9.heap.size, vd, rfl, h1, h2, h3, Nat.le_refl _, _, _, _, by rw [h4, show bud - (bud.toNat : Int) = 0 by omega], rfl, rfl, rfl⟩)
  generalize NSq RR FR AP vr vf va bud w = QQ at HQ ⊢
  have J0 : Jc w.heap.size vr vf va (w.alloc (.cells #[vr, vf, va] 26)) := ⟨box_c w [vr, vf, va] _ 0 _ rfl, box_c w [vr, vf, va] _ 1 _ rfl, box_c w [vr, vf, va] _ 2 _ rfl⟩
  have K0 := (Keep.refl w).alloc (.cells #[vr, vf, va] 26)
  have CK := hide (fun (w' : World) (hk : Keep (w.alloc (.cells #[vr, vf, va] 26)) w') => J0.keep hk)
  have EK := hide (fun (w' : World) (hk : Keep (w.alloc (.cells #[vr, vf, va] 26)) w') => K0.trans hk)
  obtain ⟨⟨ar, cr, rfl, -, -⟩, ⟨af, cf, rfl, -⟩, ⟨aa, ca, rfl, -, -⟩⟩ := hJ.at
  obtain ⟨c0, c1, c2⟩ := unhide CK _ (Keep.refl _)
  clear J0 K0 hJ hrt hn
  generalize RR.length = m at *
  generalize FR.length = fl at *
  generalize AP.length = al at *
  generalize flr RR (dn [] AP) = fr at *
  go_enter Try.func19, Try.ntmps19
  go_wp2_with fail
  (refine ((unhide TD) _ (unhide EK _ (Keep.refl _))).mono ?_; rintro e w2 ⟨vd, rfl, hk2, hown⟩; have K2 := hide hk2; have PD : Hid (Ps w2 vd (dn [] AP)) := hide (ps_own hown rfl); clear hk2 hown c0 c1 c2)
  obtain ⟨ad, cd, rfl, -, -⟩ := unhide PD
  generalize (dn [] AP).length = dl at *
  have S2 : Hid (∀ w', Keep w2 w' → w'.cell? ⟨w.heap.size, 0, none⟩ = some (.slice ar m cr) ∧ w'.cell? ⟨w.heap.size, 1, none⟩ = some (.slice af fl cf) ∧ w'.cell? ⟨w.heap.size, 2, none⟩ = some (.slice aa al ca)) := hide (fun w' hk => unhide CK _ ((unhide K2).trans hk))
  go_upto_region 2 with fail
  refine wp_region_held_drew (S := (fun w' => w'.cell? ⟨w.heap.size, 0, none⟩ = some (.slice ar m cr) ∧ w'.cell? ⟨w.heap.size, 1, none⟩ = some (.slice af fl cf) ∧ w'.cell? ⟨w.heap.size, 2, none⟩ = some (.slice aa al ca))) (by kernel_rfl) (by exact unhide S2 _ ((Keep.refl _).drew)) (fun hHeld => ?_)
  refine wpAnyH_take (i := 0) (v := ?_) rfl (by kernel_rfl) (by kernel_rfl) (by kernel_rfl) (fun _ _ _ h => h) (Or.inl ⟨by rfl, ?_⟩) hHeld ?_
  rotate_left
  · intro w hSw
    try dsimp only at hSw
    go_simp
    try with_reducible rfl
  show wpAnyH _ _ _ _ _ _ _ (Act.put _ (some 9) _) _
  try simp only [Act.put, List.setIfInBounds_toArray, List.set_cons_zero, List.set_cons_succ]
  refine wpAnyH_take (i := 1) (v := ?_) rfl (by kernel_rfl) (by kernel_rfl) (by kernel_rfl) (fun _ _ _ h => h) (Or.inl ⟨by rfl, ?_⟩) hHeld ?_
  rotate_left
  · intro w hSw
    try dsimp only at hSw
    go_simp
    try with_reducible rfl
  show wpAnyH _ _ _ _ _ _ _ (Act.put _ (some 10) _) _
  try simp only [Act.put, List.setIfInBounds_toArray, List.set_cons_zero, List.set_cons_succ]
  refine wpAnyH_take (i := 2) (v := ?_) rfl (by kernel_rfl) (by kernel_rfl) (by kernel_rfl) (fun _ _ _ h => h) (Or.inl ⟨by rfl, ?_⟩) hHeld ?_
  rotate_left
  · intro w hSw
    try dsimp only at hSw
    go_simp
    try with_reducible rfl
  show wpAnyH _ _ _ _ _ _ _ (Act.put _ (some 11) _) _
  try simp only [Act.put, List.setIfInBounds_toArray, List.set_cons_zero, List.set_cons_succ]
  refine wpAnyH_take (i := 3) (v := ?_) rfl (by kernel_rfl) (by kernel_rfl) (by kernel_rfl) (fun _ _ _ h => h) (Or.inl ⟨by rfl, ?_⟩) hHeld ?_
  rotate_left
  · intro w hSw
    try dsimp only at hSw
    go_simp
    try with_reducible rfl
  show wpAnyH _ _ _ _ _ _ _ (Act.put _ (some 12) _) _
  try simp only [Act.put, List.setIfInBounds_toArray, List.set_cons_zero, List.set_cons_succ]
  refine wpAnyH_take (i := 4) (v := ?_) rfl (by kernel_rfl) (by kernel_rfl) (by kernel_rfl) (fun _ _ _ h => h) (Or.inl ⟨by rfl, ?_⟩) hHeld ?_
  rotate_left
  · intro w hSw
    try dsimp only at hSw
    go_simp
    try with_reducible rfl
  show wpAnyH _ _ _ _ _ _ _ (Act.put _ (some 13) _) _
  try simp only [Act.put, List.setIfInBounds_toArray, List.set_cons_zero, List.set_cons_succ]
  refine wpAnyH_take (i := 6) (v := ?_) rfl (by kernel_rfl) (by kernel_rfl) (by kernel_rfl) (fun _ _ _ h => h) (Or.inl ⟨by rfl, ?_⟩) hHeld ?_
  rotate_left
  · intro w hSw
    try dsimp only at hSw
    go_simp
    try with_reducible rfl
  show wpAnyH _ _ _ _ _ _ _ (Act.put _ (some 15) _) _
  try simp only [Act.put, List.setIfInBounds_toArray, List.set_cons_zero, List.set_cons_succ]
  refine wpAnyH_take (i := 7) (v := ?_) rfl (by kernel_rfl) (by kernel_rfl) (by kernel_rfl) (fun _ _ _ h => h) (Or.inl ⟨by rfl, ?_⟩) hHeld ?_
  rotate_left
  · intro w hSw
    try dsimp only at hSw
    go_simp
    try with_reducible rfl
  show wpAnyH _ _ _ _ _ _ _ (Act.put _ (some 16) _) _
  try simp only [Act.put, List.setIfInBounds_toArray, List.set_cons_zero, List.set_cons_succ]
  refine wpAnyH_ready (rs := [5]) (by kernel_rfl) (by simp) ?_
  refine AllReadyH.cons rfl (fun K hK => ?_) AllReadyH.nil
  go_simp
  clear hHeld
  (refine ((unhide TF) _ w2.drew (unhide EK _ ((unhide K2).trans (Keep.drew (Keep.refl w2)))) (Ps.keep (unhide PD) (Keep.drew (Keep.refl w2)))).mono ?_; rintro e w3 ⟨rfl, hk3⟩)
  try go_wp2_with fail
  refine hK.out _ _ ?_ (fun hHeld => ?_)
  · exact unhide S2 _ (Keep.trans (Keep.drew (Keep.refl w2)) hk3)
  clear hK K
  try simp only [Act.put, List.setIfInBounds_toArray, List.set_cons_zero, List.set_cons_succ]
  refine wpAnyH_take (i := 8) (v := ?_) rfl (by kernel_rfl) (by kernel_rfl) (by kernel_rfl) (fun _ _ _ h => h) (Or.inl ⟨by rfl, ?_⟩) hHeld ?_
  rotate_left
  · intro w hSw
    try dsimp only at hSw
    go_simp
    try with_reducible rfl
  show wpAnyH _ _ _ _ _ _ _ (Act.put _ (some 17) _) _
  try simp only [Act.put, List.setIfInBounds_toArray, List.set_cons_zero, List.set_cons_succ]
  have K3 : Hid (Keep w2 w3) := hide (Keep.trans (Keep.drew (Keep.refl w2)) hk3)
  have A3 := (Keep.refl w3).alloc (.cells #[.slice ar m cr, .slice af fl cf, .slice aa al ca, .slice ad dl cd, .int .i64 fr, .int .i64 0, .int .i64 bud, .int .i64 9223372036854775807, .slice none 0 0, .slice none 0 0] 47)
  refine wpAnyH_ready (rs := [9]) (by kernel_rfl) (by simp) ?_
  refine AllReadyH.cons rfl (fun K hK => ?_) AllReadyH.nil
  go_simp
  clear hHeld
  refine hK.out _ _ ?_ (fun hHeld => ?_)
  · exact unhide S2 _ (Keep.trans (unhide K3) A3)
  clear hK K
  try simp only [Act.put, List.setIfInBounds_toArray, List.set_cons_zero, List.set_cons_succ]
  refine wpAnyH_take (i := 10) (v := ?_) rfl (by kernel_rfl) (by kernel_rfl) (by kernel_rfl) (fun _ _ _ h => h) (Or.inl ⟨by rfl, ?_⟩) hHeld ?_
  rotate_left
  · intro w hSw
    try dsimp only at hSw
    go_simp
    try with_reducible rfl
  show wpAnyH _ _ _ _ _ _ _ (Act.put _ (some 4) _) _
  try simp only [Act.put, List.setIfInBounds_toArray, List.set_cons_zero, List.set_cons_succ]
  refine wpAnyH_done (by kernel_rfl) ?_ _
  clear hHeld
  have hH := heap_alloc_new w3 (.cells #[.slice ar m cr, .slice af fl cf, .slice aa al ca, .slice ad dl cd, .int .i64 fr, .int .i64 0, .int .i64 bud, .int .i64 9223372036854775807, .slice none 0 0, .slice none 0 0] 47)
  have HH := hide hH
  have HA := hide A3
  clear hH A3 hk3
  go_wp2_with fail
  try go_ret
  exact (unhide HQ) w3 _ _ (unhide EK _ ((unhide K2).trans (unhide K3))) ((unhide PD).keep (unhide K3)) (unhide HA) (unhide HH)
end Gp
end Go.Proofs.Ytakandlehneciaa
