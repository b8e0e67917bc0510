/- Proved: for every head and every factor of a peak hour, twice the volume has twice the ratio, where both fit. -/
import Derived.Test.YtnegcifbbbmlnaaDoorCards
import Derived.Test.YtnegcifbbbmlnaaDoorTie
import Derived.Test.YtnegcifbbbmlnaaDoorDAwk
import Derived.Test.YtnegcifbbbmlnaaDoorRefP
import Derived.Test.YtnegcifbbbmlnaaDoorDLwS
import Derived.WalkKit
import Derived.ProofKit
import Derived.OpenShut
import Derived.ShutString
import Derived.ChangeOld
import Derived.Below
import Derived.Lib.SmallJoins
import Derived.SevenTiedAt
import Derived.LaidHandle
import Derived.LaidLaws
import Derived.LaidMore
import Derived.LaidOnce
import Derived.JoinedOf
import Derived.Stop.Joined
namespace Go.Proofs.YtnegcifbbbmlnaaDoor.dshr
open Go.ChangeShapes Go.WideShapes Go.ChangeAt Go.RowKit Go.Joins
open W
set_option linter.unusedVariables false
set_option maxRecDepth 10000
theorem walk {us0 us1 : List Value} {w : World} (x0 : Fl headG us0) (x1 : Fl fracG us1) (ht : Tab w) : Calls Tryd.prog 6 #[.agg us0.toArray, .agg us1.toArray] w fun e w' => e = .returned (.bool true) ∧ Below w.heap.size w w' := by
  obtain ⟨S0, v, s, un, ud, n5, n6, n7, n8, n9, n10, rfl, hv, hs, hu, hd⟩ := head_of x0
  obtain ⟨pn, pd, rfl, hp, hq⟩ := frac_of x1
  have A := hide fun w' (hk : Keep w w') => awake_any w' (ht.keep hk)
  have R1 := fun w => ratio_any (.string S0) (.int .i64 n5) (.int .i64 n6) (.int .i64 n7) (.int .i64 n8) (.int .i64 n9) (.int .i64 n10) hv hs hu hd hp hq w
  by_cases g0 : v < 0
  · exact share_a S0 n5 n6 n7 n8 n9 n10 v s un ud pn pd _ _ _ w g0 (fun v s X Y Z => ∀ w, Calls Tryd.prog 9 #[.agg #[.string S0, .int .i64 v, .int .i64 s, .int .i64 un, .int .i64 ud, .int .i64 n5, .int .i64 n6, .int .i64 n7, .int .i64 n8, .int .i64 n9, .int .i64 n10], .agg #[.int .i64 pn, .int .i64 pd]] w fun e w' => e = .returned (.tuple #[.agg #[.int .i64 X, .int .i64 Y], .int .i64 Z]) ∧ Keep w w') (hide fun v s X Y Z h => h) R1 A
  by_cases g1 : 1000000000 < v
  · exact share_b S0 n5 n6 n7 n8 n9 n10 v s un ud pn pd _ _ _ w g0 g1 (fun v s X Y Z => ∀ w, Calls Tryd.prog 9 #[.agg #[.string S0, .int .i64 v, .int .i64 s, .int .i64 un, .int .i64 ud, .int .i64 n5, .int .i64 n6, .int .i64 n7, .int .i64 n8, .int .i64 n9, .int .i64 n10], .agg #[.int .i64 pn, .int .i64 pd]] w fun e w' => e = .returned (.tuple #[.agg #[.int .i64 X, .int .i64 Y], .int .i64 Z]) ∧ Keep w w') (hide fun v s X Y Z h => h) R1 A
  have hv2 : i64 (2 * v) := by constructor <;> omega
  have R2 := fun w => ratio_any (.string S0) (.int .i64 n5) (.int .i64 n6) (.int .i64 n7) (.int .i64 n8) (.int .i64 n9) (.int .i64 n10) hv2 hs hu hd hp hq w
  have k1 := rat_ok v s un ud pn pd
  have AD := fun w => rfadd_any (ratF v s un ud pn pd).1 (ratF v s un ud pn pd).2.1 (ratF v s un ud pn pd).1 (ratF v s un ud pn pd).2.1 w k1.in1.1 k1.in1.2 k1.in2.1 k1.in2.2 k1.in1.1 k1.in1.2 k1.in2.1 k1.in2.2
  by_cases hz : (ratF v s un ud pn pd).2.2 = 0
  · rw [hz] at R1
    by_cases hz2 : (ratF (2 * v) s un ud pn pd).2.2 = 0
    · rw [hz2] at R2
      have r1 := rt_of k1 hz
      have e : ∀ w, Calls Tryd.prog 15 #[.agg #[.int .i64 (ratF v s un ud pn pd).1, .int .i64 (ratF v s un ud pn pd).2.1], .agg #[.int .i64 (ratF v s un ud pn pd).1, .int .i64 (ratF v s un ud pn pd).2.1]] w fun e w' => e = .returned (.tuple #[.agg #[.int .i64 (ratF (2 * v) s un ud pn pd).1, .int .i64 (ratF (2 * v) s un ud pn pd).2.1], .int .i64 0]) ∧ Keep w w' := by
        intro w
        have h := AD w
        rw [r1.cn, r1.cd] at h
        have t := twice hv hv2 hs hz hz2
        have h' : Calls Tryd.prog 15 #[.agg #[.int .i64 (ratF v s un ud pn pd).1, .int .i64 (ratF v s un ud pn pd).2.1], .agg #[.int .i64 (ratF v s un ud pn pd).1, .int .i64 (ratF v s un ud pn pd).2.1]] w fun e w' => e = .returned (.tuple #[.agg #[.int .i64 (low ((ratF v s un ud pn pd).1 * (ratF v s un ud pn pd).2.1 + (ratF v s un ud pn pd).1 * (ratF v s un ud pn pd).2.1) ((ratF v s un ud pn pd).2.1 * (ratF v s un ud pn pd).2.1)).1, .int .i64 (low ((ratF v s un ud pn pd).1 * (ratF v s un ud pn pd).2.1 + (ratF v s un ud pn pd).1 * (ratF v s un ud pn pd).2.1) ((ratF v s un ud pn pd).2.1 * (ratF v s un ud pn pd).2.1)).2.1], .int .i64 (low ((ratF v s un ud pn pd).1 * (ratF v s un ud pn pd).2.1 + (ratF v s un ud pn pd).1 * (ratF v s un ud pn pd).2.1) ((ratF v s un ud pn pd).2.1 * (ratF v s un ud pn pd).2.1)).2.2]) ∧ Keep w w' := h
        rw [t, hz2] at h'
        exact h'
      exact share_e S0 n5 n6 n7 n8 n9 n10 v s un ud pn pd _ _ 0 _ _ 0 0 0 0 w g0 g1 (fun v s X Y Z => ∀ w, Calls Tryd.prog 9 #[.agg #[.string S0, .int .i64 v, .int .i64 s, .int .i64 un, .int .i64 ud, .int .i64 n5, .int .i64 n6, .int .i64 n7, .int .i64 n8, .int .i64 n9, .int .i64 n10], .agg #[.int .i64 pn, .int .i64 pd]] w fun e w' => e = .returned (.tuple #[.agg #[.int .i64 X, .int .i64 Y], .int .i64 Z]) ∧ Keep w w') (hide fun v s X Y Z h => h) R1 R2 (hide e) A
    · exact share_d S0 n5 n6 n7 n8 n9 n10 v s un ud pn pd _ _ 0 _ _ _ _ _ _ w g0 g1 hz2 (fun v s X Y Z => ∀ w, Calls Tryd.prog 9 #[.agg #[.string S0, .int .i64 v, .int .i64 s, .int .i64 un, .int .i64 ud, .int .i64 n5, .int .i64 n6, .int .i64 n7, .int .i64 n8, .int .i64 n9, .int .i64 n10], .agg #[.int .i64 pn, .int .i64 pd]] w fun e w' => e = .returned (.tuple #[.agg #[.int .i64 X, .int .i64 Y], .int .i64 Z]) ∧ Keep w w') (hide fun v s X Y Z h => h) R1 R2 (hide AD) A
  · exact share_c S0 n5 n6 n7 n8 n9 n10 v s un ud pn pd _ _ _ _ _ _ _ _ _ w g0 g1 hz (fun v s X Y Z => ∀ w, Calls Tryd.prog 9 #[.agg #[.string S0, .int .i64 v, .int .i64 s, .int .i64 un, .int .i64 ud, .int .i64 n5, .int .i64 n6, .int .i64 n7, .int .i64 n8, .int .i64 n9, .int .i64 n10], .agg #[.int .i64 pn, .int .i64 pd]] w fun e w' => e = .returned (.tuple #[.agg #[.int .i64 X, .int .i64 Y], .int .i64 Z]) ∧ Keep w w') (hide fun v s X Y Z h => h) R1 R2 (hide AD) A
theorem laidOut : laidOutB Tryd.prog = true := by kernel_rfl
theorem own : ownKnob Tryd.prog.godebug = none := by kernel_rfl
theorem tab_of {W : World} (h : laidMetH Tryd.prog Rows.demandShareRow.laid W) : Tab W := by
  have h' : laidMet Tryd.prog Rows.demandShareRow.laid W := h
  obtain ⟨g, t, cs, fuel, p, hg, ht, hv, hd⟩ := Lib.laidMet.reads h' (n := "internal/strconv.uint64pow10") (d := Rows.laid_internal_strconv_uint64pow10) (.tail _ (.tail _ (.head _)))
  have hg2 : Tryd.prog.globalNamed "internal/strconv.uint64pow10" = some 2 := by kernel_rfl
  obtain rfl : g = 2 := (Option.some.inj (hg2.symm.trans hg)).symm
  have ht2 : (Tryd.prog.globals[2]?).map (·.type) = some 123 := by kernel_rfl
  obtain rfl : t = 123 := (Option.some.inj (ht2.symm.trans ht)).symm
  have e : (Rows.laid_internal_strconv_uint64pow10 : DataW Unit) = Lib.tabData .u64 Lib.pow10Tab := by rfl
  rw [e] at hd
  have hc := Lib.cells_of_tab Tryd.underlying123 Tryd.underlying51 (by kernel_rfl) (by kernel_rfl) hd
  unfold Tab Lib.TabIs
  rw [hv, ← hc]
theorem door_met (os : Os) (args : Array Value) : laidMetH Tryd.prog Rows.demandShareRow.laid ((World.doorLaid Tryd.prog 24 os).forCall (fun _ _ => 0) ⟨#[], args, []⟩).memory :=
  laidMetH_of_parts3 (fuel := 8) (laidMet_of_run' 8 (by kernel_rfl) (by kernel_rfl)) (by kernel_rfl) (by kernel_rfl)
set_option maxHeartbeats 400000 in
set_option maxRecDepth 100000 in
theorem lifted (os : Os) (started : os.Started) (H : Type) (enc : TypeId × Value → H) :
    ReturnsInHanded {} Tryd.checked os 6 .any (fun w args => (Rows.demandShareSpec.pre enc Tryd.prog Tryd.f6 [] false w args ∧ laidMetH Tryd.prog Rows.demandShareRow.laid w) ∧ sizedMet enc Tryd.prog Tryd.f6 (OpenSpec.ofChange Rows.demandShareSpec) false w args)
      (Rows.demandShareSpec.post enc Tryd.prog Tryd.f6 false true false false) := by
  refine returnsInHanded_of_change_and (C := Tryd.checked) (X := fun w _ => laidMetH Tryd.prog Rows.demandShareRow.laid w) (fun _ _ _ hh h => h.of_heap hh) own started (by kernel_rfl) Tryd.func6
    (ChangeSpec.witness_shaped (enc := enc) (C := Tryd.checked) (os := os) (X := fun w _ => laidMetH Tryd.prog Rows.demandShareRow.laid w) false (World.doorLaid Tryd.prog 24 os) #[.agg #[.string ⟨#[]⟩, .int .i64 0, .int .i64 0, .int .i64 0, .int .i64 0, .int .i64 0, .int .i64 0, .int .i64 0, .int .i64 0, .int .i64 0, .int .i64 0], .agg #[.int .i64 0, .int .i64 0]] 8 rfl (World.shaped_of_RefB (by kernel_rfl) (by kernel_rfl)) (by kernel_rfl) (by kernel_rfl) (by kernel_rfl) (door_met os _)) ?_
  intro W base args ds gs before hval0 hW _ _ hL _
  have hval : ∀ (j : Nat) t v, Tryd.f6.params[j]? = some t → args[j]? = some v → Value.okWide Tryd.prog W .any base t v := hval0
  have hW' := hW
  obtain ⟨p, q, hA0, hV, rfl, hfz, hnd⟩ := hW
  have hA : DataW.TrodAll enc Tryd.prog W 0 (fun _ => true) true Tryd.f6.params.toList args.toList ds p := hA0
  rw [Tryd.params6] at hA hval
  obtain ⟨v0, vs0, d0, ds0, p0, q0, hargs, rfl, rfl, h0, r0⟩ := trodAll_cons hA
  obtain ⟨v1, vs1, d1, ds1, p1, q1, rfl, rfl, rfl, h1, r1⟩ := trodAll_cons r0
  obtain ⟨rfl, rfl, rfl⟩ := trodAll_nil r1
  obtain rfl : args = #[v0, v1] := by cases args; simp_all
  obtain ⟨rfl, rfl⟩ := trodVars_none hV
  have k0 := h0
  have lt0 : ∀ x ∈ p0, x.block < W.heap.size := by obtain ⟨m, hm⟩ := k0; exact DataW.trod_lt m _ _ _ hm
  obtain ⟨us0, rfl, x0⟩ := open_flat Tryd.underlying25 head_desG (hval 0 25 v0 rfl rfl) h0
  clear h0
  have k1 := h1
  have lt1 : ∀ x ∈ p1, x.block < W.heap.size := by obtain ⟨m, hm⟩ := k1; exact DataW.trod_lt m _ _ _ hm
  obtain ⟨us1, rfl, x1⟩ := open_flat Tryd.underlying23 frac_desG (hval 1 23 v1 rfl rfl) h1
  clear h1
  clear hA0 hval0
  refine (walk x0 x1 (tab_of hL)).mono fun e W' ⟨he, bel⟩ => ?_
  subst he
  exact ⟨_, rfl, _, _, _, [], _, [], hW', trodAll_mk1 (shut_bool Tryd.underlying4 _), (trodAll_cons_mk (Below.trod laidOut (by kernel_rfl) (of_decide_eq_true (by kernel_rfl)) k0 bel lt0) (trodAll_cons_mk (Below.trod laidOut (by kernel_rfl) (of_decide_eq_true (by kernel_rfl)) k1 bel lt1) trodAll_mk0)), rfl, bel.frame _, fun h => by cases h⟩
theorem over : Rows.demandShareRow.holds Tryd.pinned (OpenSpec.ofChange Rows.demandShareSpec) :=
  OpenClaim.holds_of_wide 6 Tryd.f6 rfl rfl rfl rfl rfl rfl rfl ⟨rfl, rfl, rfl, rfl, rfl⟩ rfl rfl rfl rfl rfl (by kernel_rfl) Tryd.func6 (by kernel_rfl)
    (of_decide_eq_true (by kernel_rfl)) (by unfold Func.isWrapper; first | (rw [if_pos (by decide +kernel)]; kernel_rfl) | (rw [if_neg (by decide +kernel)]; exact ⟨rfl, rfl⟩))
    (fun os started H enc _ => lifted os started H enc)
theorem card : Claim7.holds Tryd.pinned (.plain (OpenSpec.ofChange Rows.demandShareSpec)) Rows.demandShareCard :=
  Claim7.holds_tied_plain_at .later [] [.data, .data, .data] true _ false
    over (fun _ h => by cases h) (by kernel_rfl) (fun _ h => by cases h) demandShare_row_tie rfl ⟨rfl, rfl⟩ (by kernel_rfl) rfl
    (fun f fn hf hfn => by
      obtain rfl : f = 6 := Option.some.inj ((show Tryd.prog.funcNamed Rows.demandShareRow.func = some 6 by kernel_rfl).symm.trans hf) |>.symm
      obtain rfl : fn = Tryd.f6 := (Option.some.inj (Tryd.func6.symm.trans hfn)).symm
      exact ⟨by kernel_rfl, fun j t ht => by
        rw [Tryd.params6] at ht
        have hm : t ∈ [25, 23] := by simpa using Array.mem_of_getElem? ht
        have hall : ([25, 23].all fun u => !Tryd.prog.wantsStandIn u) = true := by kernel_rfl
        exact (show Tryd.prog.wantsStandIn t = false by simpa using List.all_eq_true.1 hall t hm)⟩)
    (by kernel_rfl)

end Go.Proofs.YtnegcifbbbmlnaaDoor.dshr
namespace Go.Proofs.YtnegcifbbbmlnaaDoor
theorem DemandShare_holds : Rows.DemandShareCardSaid := dshr.card
end Go.Proofs.YtnegcifbbbmlnaaDoor
