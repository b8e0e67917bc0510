/- Proved: for every head and every factor of a peak hour within bounds, a greater volume has no lesser ratio, a greater flow has no greater one, and a volume of 0 has the ratio 0. -/
import Derived.Test.YtnegcifbbbmlnaaDoorCards
import Derived.Test.YtnegcifbbbmlnaaDoorTie
import Derived.Test.YtnegcifbbbmlnaaDoorDAwk
import Derived.Test.YtnegcifbbbmlnaaDoorRefO
import Derived.Test.YtnegcifbbbmlnaaDoorDLwG
import Derived.WalkKit
import Derived.ProofKit
import Derived.OpenShut
import Derived.ShutString
import Derived.ChangeOld
import Derived.Below
import Derived.Lib.SmallJoins
import Derived.SevenTiedAt
import Derived.LaidHandle
import Derived.LaidLaws
import Derived.LaidMore
import Derived.LaidOnce
import Derived.JoinedOf
import Derived.Stop.Joined
namespace Go.Proofs.YtnegcifbbbmlnaaDoor.dgrw
open Go.ChangeShapes Go.WideShapes Go.ChangeAt Go.RowKit Go.Joins
open W
set_option linter.unusedVariables false
set_option maxRecDepth 10000
theorem walk {us0 us1 : List Value} {w : World} (x0 : Fl headG us0) (x1 : Fl fracG us1) (ht : Tab w) : Calls Tryd.prog 5 #[.agg us0.toArray, .agg us1.toArray] w fun e w' => e = .returned (.bool true) ∧ Below w.heap.size w w' := by
  obtain ⟨S0, v, s, un, ud, n5, n6, n7, n8, n9, n10, rfl, hv, hs, hu, hd⟩ := head_of x0
  obtain ⟨pn, pd, rfl, hp, hq⟩ := frac_of x1
  have A := hide fun w' (hk : Keep w w') => awake_any w' (ht.keep hk)
  by_cases g0 : v < 0
  · exact grows_0 S0 n5 n6 n7 n8 n9 n10 v s un ud pn pd w g0 A
  by_cases g1 : 1000000000 < v
  · exact grows_1 S0 n5 n6 n7 n8 n9 n10 v s un ud pn pd w g0 g1 A
  by_cases g2 : s < 1
  · exact grows_2 S0 n5 n6 n7 n8 n9 n10 v s un ud pn pd w g0 g1 g2 A
  by_cases g3 : 1000000000 < s
  · exact grows_3 S0 n5 n6 n7 n8 n9 n10 v s un ud pn pd w g0 g1 g2 g3 A
  by_cases g4 : un < 1
  · exact grows_4 S0 n5 n6 n7 n8 n9 n10 v s un ud pn pd w g0 g1 g2 g3 g4 A
  by_cases g5 : ud < 1
  · exact grows_5 S0 n5 n6 n7 n8 n9 n10 v s un ud pn pd w g0 g1 g2 g3 g4 g5 A
  by_cases g6 : pn < 1
  · exact grows_6 S0 n5 n6 n7 n8 n9 n10 v s un ud pn pd w g0 g1 g2 g3 g4 g5 g6 A
  by_cases g7 : pd < 1
  · exact grows_7 S0 n5 n6 n7 n8 n9 n10 v s un ud pn pd w g0 g1 g2 g3 g4 g5 g6 g7 A
  have hv2 : i64 (v + 1) := by constructor <;> omega
  have hs2 : i64 (s + 1) := by constructor <;> omega
  have hv0 : i64 0 := by constructor <;> omega
  have R1 := fun w => ratio_any (.string S0) (.int .i64 n5) (.int .i64 n6) (.int .i64 n7) (.int .i64 n8) (.int .i64 n9) (.int .i64 n10) hv hs hu hd hp hq w
  have R2 := fun w => ratio_any (.string S0) (.int .i64 n5) (.int .i64 n6) (.int .i64 n7) (.int .i64 n8) (.int .i64 n9) (.int .i64 n10) hv2 hs hu hd hp hq w
  have R3 := fun w => ratio_any (.string S0) (.int .i64 n5) (.int .i64 n6) (.int .i64 n7) (.int .i64 n8) (.int .i64 n9) (.int .i64 n10) hv hs2 hu hd hp hq w
  have R4 := fun w => ratio_any (.string S0) (.int .i64 n5) (.int .i64 n6) (.int .i64 n7) (.int .i64 n8) (.int .i64 n9) (.int .i64 n10) hv0 hs hu hd hp hq w
  rw [none_zero hs (by omega) hu.2 (by omega) hd.2 (by omega) hp.2 (by omega) hq.2 (by omega)] at R4
  have k1 := rat_ok v s un ud pn pd
  have k2 := rat_ok (v + 1) s un ud pn pd
  have k3 := rat_ok v (s + 1) un ud pn pd
  have C1 := fun w => rfcmp_any (ratF v s un ud pn pd).1 (ratF v s un ud pn pd).2.1 (ratF (v + 1) s un ud pn pd).1 (ratF (v + 1) s un ud pn pd).2.1 w k1.in1.1 k1.in1.2 k1.in2.1 k1.in2.2 k2.in1.1 k2.in1.2 k2.in2.1 k2.in2.2
  have C2 := fun w => rfcmp_any (ratF v (s + 1) un ud pn pd).1 (ratF v (s + 1) un ud pn pd).2.1 (ratF v s un ud pn pd).1 (ratF v s un ud pn pd).2.1 w k3.in1.1 k3.in1.2 k3.in2.1 k3.in2.2 k1.in1.1 k1.in1.2 k1.in2.1 k1.in2.2
  by_cases z1 : (ratF v s un ud pn pd).2.2 = 0
  · have r1 := rt_of k1 z1
    have h1 : (ratF (v + 1) s un ud pn pd).2.2 = 0 → ¬ 0 < cm (cn (ratF v s un ud pn pd).1 (ratF v s un ud pn pd).2.1 * cd (ratF (v + 1) s un ud pn pd).1 (ratF (v + 1) s un ud pn pd).2.1) (cn (ratF (v + 1) s un ud pn pd).1 (ratF (v + 1) s un ud pn pd).2.1 * cd (ratF v s un ud pn pd).1 (ratF v s un ud pn pd).2.1) := by
      intro z2
      have r2 := rt_of k2 z2
      rw [r1.cn, r1.cd, r2.cn, r2.cd]
      have := cm_le.2 (grows hv hv2 hs (by omega) (by omega) (by omega) (by omega) (by omega) z1 z2)
      omega
    have h2 : (ratF v (s + 1) un ud pn pd).2.2 = 0 → ¬ 0 < cm (cn (ratF v (s + 1) un ud pn pd).1 (ratF v (s + 1) un ud pn pd).2.1 * cd (ratF v s un ud pn pd).1 (ratF v s un ud pn pd).2.1) (cn (ratF v s un ud pn pd).1 (ratF v s un ud pn pd).2.1 * cd (ratF v (s + 1) un ud pn pd).1 (ratF v (s + 1) un ud pn pd).2.1) := by
      intro z3
      have r3 := rt_of k3 z3
      rw [r1.cn, r1.cd, r3.cn, r3.cd]
      have := cm_le.2 (shrinks hv hs hs2 (by omega) (by omega) (by omega) (by omega) (by omega) (by omega) z1 z3)
      omega
    rw [z1] at R1
    by_cases z2 : (ratF (v + 1) s un ud pn pd).2.2 = 0
    · have h1' := h1 z2
      rw [z2] at R2
      by_cases z3 : (ratF v (s + 1) un ud pn pd).2.2 = 0
      · have h2' := h2 z3
        rw [z3] at R3
        exact grows_w S0 n5 n6 n7 n8 n9 n10 v s un ud pn pd _ _ 0 _ _ 0 _ _ 0 _ _ _ w g0 g1 g2 g3 g4 g5 g6 g7 (fun v s X Y Z => ∀ w, Calls Tryd.prog 9 #[.agg #[.string S0, .int .i64 v, .int .i64 s, .int .i64 un, .int .i64 ud, .int .i64 n5, .int .i64 n6, .int .i64 n7, .int .i64 n8, .int .i64 n9, .int .i64 n10], .agg #[.int .i64 pn, .int .i64 pd]] w fun e w' => e = .returned (.tuple #[.agg #[.int .i64 X, .int .i64 Y], .int .i64 Z]) ∧ Keep w w') (hide fun v s X Y Z h => h) R1 R2 R3 R4 (fun a b c d x => ∀ w, Calls Tryd.prog 14 #[.agg #[.int .i64 a, .int .i64 b], .agg #[.int .i64 c, .int .i64 d]] w fun e w' => e = .returned (.int .i64 x) ∧ Keep w w') (hide fun a b c d x h => h) C1 h1' C2 h2' A
      · exact grows_z S0 n5 n6 n7 n8 n9 n10 v s un ud pn pd _ _ 0 _ _ 0 _ _ _ _ _ 0 w g0 g1 g2 g3 g4 g5 g6 g7 z3 (fun v s X Y Z => ∀ w, Calls Tryd.prog 9 #[.agg #[.string S0, .int .i64 v, .int .i64 s, .int .i64 un, .int .i64 ud, .int .i64 n5, .int .i64 n6, .int .i64 n7, .int .i64 n8, .int .i64 n9, .int .i64 n10], .agg #[.int .i64 pn, .int .i64 pd]] w fun e w' => e = .returned (.tuple #[.agg #[.int .i64 X, .int .i64 Y], .int .i64 Z]) ∧ Keep w w') (hide fun v s X Y Z h => h) R1 R2 R3 R4 (fun a b c d x => ∀ w, Calls Tryd.prog 14 #[.agg #[.int .i64 a, .int .i64 b], .agg #[.int .i64 c, .int .i64 d]] w fun e w' => e = .returned (.int .i64 x) ∧ Keep w w') (hide fun a b c d x h => h) C1 h1' A
    · by_cases z3 : (ratF v (s + 1) un ud pn pd).2.2 = 0
      · have h2' := h2 z3
        rw [z3] at R3
        exact grows_u S0 n5 n6 n7 n8 n9 n10 v s un ud pn pd _ _ 0 _ _ _ _ _ 0 _ 0 _ w g0 g1 g2 g3 g4 g5 g6 g7 z2 (fun v s X Y Z => ∀ w, Calls Tryd.prog 9 #[.agg #[.string S0, .int .i64 v, .int .i64 s, .int .i64 un, .int .i64 ud, .int .i64 n5, .int .i64 n6, .int .i64 n7, .int .i64 n8, .int .i64 n9, .int .i64 n10], .agg #[.int .i64 pn, .int .i64 pd]] w fun e w' => e = .returned (.tuple #[.agg #[.int .i64 X, .int .i64 Y], .int .i64 Z]) ∧ Keep w w') (hide fun v s X Y Z h => h) R1 R2 R3 R4 (fun a b c d x => ∀ w, Calls Tryd.prog 14 #[.agg #[.int .i64 a, .int .i64 b], .agg #[.int .i64 c, .int .i64 d]] w fun e w' => e = .returned (.int .i64 x) ∧ Keep w w') (hide fun a b c d x h => h) C2 h2' A
      · exact grows_y S0 n5 n6 n7 n8 n9 n10 v s un ud pn pd _ _ 0 _ _ _ _ _ _ _ 0 0 w g0 g1 g2 g3 g4 g5 g6 g7 z2 z3 (fun v s X Y Z => ∀ w, Calls Tryd.prog 9 #[.agg #[.string S0, .int .i64 v, .int .i64 s, .int .i64 un, .int .i64 ud, .int .i64 n5, .int .i64 n6, .int .i64 n7, .int .i64 n8, .int .i64 n9, .int .i64 n10], .agg #[.int .i64 pn, .int .i64 pd]] w fun e w' => e = .returned (.tuple #[.agg #[.int .i64 X, .int .i64 Y], .int .i64 Z]) ∧ Keep w w') (hide fun v s X Y Z h => h) R1 R2 R3 R4 A
  · exact grows_x S0 n5 n6 n7 n8 n9 n10 v s un ud pn pd _ _ _ _ _ _ _ _ _ _ 0 0 w g0 g1 g2 g3 g4 g5 g6 g7 z1 (fun v s X Y Z => ∀ w, Calls Tryd.prog 9 #[.agg #[.string S0, .int .i64 v, .int .i64 s, .int .i64 un, .int .i64 ud, .int .i64 n5, .int .i64 n6, .int .i64 n7, .int .i64 n8, .int .i64 n9, .int .i64 n10], .agg #[.int .i64 pn, .int .i64 pd]] w fun e w' => e = .returned (.tuple #[.agg #[.int .i64 X, .int .i64 Y], .int .i64 Z]) ∧ Keep w w') (hide fun v s X Y Z h => h) R1 R2 R3 R4 A
theorem laidOut : laidOutB Tryd.prog = true := by kernel_rfl
theorem own : ownKnob Tryd.prog.godebug = none := by kernel_rfl
theorem tab_of {W : World} (h : laidMetH Tryd.prog Rows.demandGrowsRow.laid W) : Tab W := by
  have h' : laidMet Tryd.prog Rows.demandGrowsRow.laid W := h
  obtain ⟨g, t, cs, fuel, p, hg, ht, hv, hd⟩ := Lib.laidMet.reads h' (n := "internal/strconv.uint64pow10") (d := Rows.laid_internal_strconv_uint64pow10) (.tail _ (.tail _ (.head _)))
  have hg2 : Tryd.prog.globalNamed "internal/strconv.uint64pow10" = some 2 := by kernel_rfl
  obtain rfl : g = 2 := (Option.some.inj (hg2.symm.trans hg)).symm
  have ht2 : (Tryd.prog.globals[2]?).map (·.type) = some 123 := by kernel_rfl
  obtain rfl : t = 123 := (Option.some.inj (ht2.symm.trans ht)).symm
  have e : (Rows.laid_internal_strconv_uint64pow10 : DataW Unit) = Lib.tabData .u64 Lib.pow10Tab := by rfl
  rw [e] at hd
  have hc := Lib.cells_of_tab Tryd.underlying123 Tryd.underlying51 (by kernel_rfl) (by kernel_rfl) hd
  unfold Tab Lib.TabIs
  rw [hv, ← hc]
theorem door_met (os : Os) (args : Array Value) : laidMetH Tryd.prog Rows.demandGrowsRow.laid ((World.doorLaid Tryd.prog 24 os).forCall (fun _ _ => 0) ⟨#[], args, []⟩).memory :=
  laidMetH_of_parts3 (fuel := 8) (laidMet_of_run' 8 (by kernel_rfl) (by kernel_rfl)) (by kernel_rfl) (by kernel_rfl)
set_option maxHeartbeats 400000 in
set_option maxRecDepth 100000 in
theorem lifted (os : Os) (started : os.Started) (H : Type) (enc : TypeId × Value → H) :
    ReturnsInHanded {} Tryd.checked os 5 .any (fun w args => (Rows.demandGrowsSpec.pre enc Tryd.prog Tryd.f5 [] false w args ∧ laidMetH Tryd.prog Rows.demandGrowsRow.laid w) ∧ sizedMet enc Tryd.prog Tryd.f5 (OpenSpec.ofChange Rows.demandGrowsSpec) false w args)
      (Rows.demandGrowsSpec.post enc Tryd.prog Tryd.f5 false true false false) := by
  refine returnsInHanded_of_change_and (C := Tryd.checked) (X := fun w _ => laidMetH Tryd.prog Rows.demandGrowsRow.laid w) (fun _ _ _ hh h => h.of_heap hh) own started (by kernel_rfl) Tryd.func5
    (ChangeSpec.witness_shaped (enc := enc) (C := Tryd.checked) (os := os) (X := fun w _ => laidMetH Tryd.prog Rows.demandGrowsRow.laid w) false (World.doorLaid Tryd.prog 24 os) #[.agg #[.string ⟨#[]⟩, .int .i64 0, .int .i64 0, .int .i64 0, .int .i64 0, .int .i64 0, .int .i64 0, .int .i64 0, .int .i64 0, .int .i64 0, .int .i64 0], .agg #[.int .i64 0, .int .i64 0]] 8 rfl (World.shaped_of_RefB (by kernel_rfl) (by kernel_rfl)) (by kernel_rfl) (by kernel_rfl) (by kernel_rfl) (door_met os _)) ?_
  intro W base args ds gs before hval0 hW _ _ hL _
  have hval : ∀ (j : Nat) t v, Tryd.f5.params[j]? = some t → args[j]? = some v → Value.okWide Tryd.prog W .any base t v := hval0
  have hW' := hW
  obtain ⟨p, q, hA0, hV, rfl, hfz, hnd⟩ := hW
  have hA : DataW.TrodAll enc Tryd.prog W 0 (fun _ => true) true Tryd.f5.params.toList args.toList ds p := hA0
  rw [Tryd.params5] at hA hval
  obtain ⟨v0, vs0, d0, ds0, p0, q0, hargs, rfl, rfl, h0, r0⟩ := trodAll_cons hA
  obtain ⟨v1, vs1, d1, ds1, p1, q1, rfl, rfl, rfl, h1, r1⟩ := trodAll_cons r0
  obtain ⟨rfl, rfl, rfl⟩ := trodAll_nil r1
  obtain rfl : args = #[v0, v1] := by cases args; simp_all
  obtain ⟨rfl, rfl⟩ := trodVars_none hV
  have k0 := h0
  have lt0 : ∀ x ∈ p0, x.block < W.heap.size := by obtain ⟨m, hm⟩ := k0; exact DataW.trod_lt m _ _ _ hm
  obtain ⟨us0, rfl, x0⟩ := open_flat Tryd.underlying25 head_desG (hval 0 25 v0 rfl rfl) h0
  clear h0
  have k1 := h1
  have lt1 : ∀ x ∈ p1, x.block < W.heap.size := by obtain ⟨m, hm⟩ := k1; exact DataW.trod_lt m _ _ _ hm
  obtain ⟨us1, rfl, x1⟩ := open_flat Tryd.underlying23 frac_desG (hval 1 23 v1 rfl rfl) h1
  clear h1
  clear hA0 hval0
  refine (walk x0 x1 (tab_of hL)).mono fun e W' ⟨he, bel⟩ => ?_
  subst he
  exact ⟨_, rfl, _, _, _, [], _, [], hW', trodAll_mk1 (shut_bool Tryd.underlying4 _), (trodAll_cons_mk (Below.trod laidOut (by kernel_rfl) (of_decide_eq_true (by kernel_rfl)) k0 bel lt0) (trodAll_cons_mk (Below.trod laidOut (by kernel_rfl) (of_decide_eq_true (by kernel_rfl)) k1 bel lt1) trodAll_mk0)), rfl, bel.frame _, fun h => by cases h⟩
theorem over : Rows.demandGrowsRow.holds Tryd.pinned (OpenSpec.ofChange Rows.demandGrowsSpec) :=
  OpenClaim.holds_of_wide 5 Tryd.f5 rfl rfl rfl rfl rfl rfl rfl ⟨rfl, rfl, rfl, rfl, rfl⟩ rfl rfl rfl rfl rfl (by kernel_rfl) Tryd.func5 (by kernel_rfl)
    (of_decide_eq_true (by kernel_rfl)) (by unfold Func.isWrapper; first | (rw [if_pos (by decide +kernel)]; kernel_rfl) | (rw [if_neg (by decide +kernel)]; exact ⟨rfl, rfl⟩))
    (fun os started H enc _ => lifted os started H enc)
theorem card : Claim7.holds Tryd.pinned (.plain (OpenSpec.ofChange Rows.demandGrowsSpec)) Rows.demandGrowsCard :=
  Claim7.holds_tied_plain_at .later [] [.data, .data, .data] true _ false
    over (fun _ h => by cases h) (by kernel_rfl) (fun _ h => by cases h) demandGrows_row_tie rfl ⟨rfl, rfl⟩ (by kernel_rfl) rfl
    (fun f fn hf hfn => by
      obtain rfl : f = 5 := Option.some.inj ((show Tryd.prog.funcNamed Rows.demandGrowsRow.func = some 5 by kernel_rfl).symm.trans hf) |>.symm
      obtain rfl : fn = Tryd.f5 := (Option.some.inj (Tryd.func5.symm.trans hfn)).symm
      exact ⟨by kernel_rfl, fun j t ht => by
        rw [Tryd.params5] at ht
        have hm : t ∈ [25, 23] := by simpa using Array.mem_of_getElem? ht
        have hall : ([25, 23].all fun u => !Tryd.prog.wantsStandIn u) = true := by kernel_rfl
        exact (show Tryd.prog.wantsStandIn t = false by simpa using List.all_eq_true.1 hall t hm)⟩)
    (by kernel_rfl)

end Go.Proofs.YtnegcifbbbmlnaaDoor.dgrw
namespace Go.Proofs.YtnegcifbbbmlnaaDoor
theorem DemandGrows_holds : Rows.DemandGrowsCardSaid := dgrw.card
end Go.Proofs.YtnegcifbbbmlnaaDoor
