/- Proved: for every two numbers, as many orders are told as the document says, and (of six numbers at most, or of a number of which there are none) the order at a place is the document's. -/
import Derived.Test.YteiogijopngohaaRows
import Derived.Test.YteiogijopngohaaOdT
import Derived.Test.YteiogijopngohaaOdS
import Derived.WalkKit
import Derived.ProofKit
import Derived.OpenShut
import Derived.ShutString
import Derived.ChangeOld
import Derived.Below
namespace Go.Proofs.Yteiogijopngohaa.onth
open Go.ChangeShapes Go.WideShapes Go.ChangeAt Go.RowKit
attribute [local go_sem ↓] Go.wp_at_zero Go.wp_at_succ
set_option linter.unusedVariables false
set_option linter.unusedSimpArgs false
set_option maxRecDepth 10000
open Od
theorem own : ownKnob Try.prog.godebug = none := by kernel_rfl
set_option maxHeartbeats 2000000 in
theorem walk (a0 : Int) (a1 : Int) (w0 : (Lit.int .i64 a0).wf = true) (w1 : (Lit.int .i64 a1).wf = true) (w : World) :
    Calls Try.prog 3 #[.int .i64 a0, .int .i64 a1] w fun e w' => e = .returned (.bool true) ∧ Below w.heap.size w w' := by
  have TC := hide (fun w => count_any a0 w)
  have TD := hide (fun w => rcount_any a0 w)
  have hcc : (cnt a0 != cnt a0) = false := by simp
  have hxx : (cnt a0 == cnt a0) = true := by simp
  clear w0 w1
  by_cases hm : 6 < a0 ∧ a0 ≤ 8
  · obtain ⟨hm1, hm2⟩ := hm
    generalize cnt a0 = C at TC TD hcc hxx
    go_enter Try.func3, Try.ntmps3
    go_wp2_with fail
    (refine ((unhide TC) _).mono ?_; rintro e w2 ⟨rfl, hk9⟩; have K2 := hide hk9; clear hk9)
    go_wp2_with fail
    (refine ((unhide TD) _).mono ?_; rintro e w3 ⟨rfl, hk9⟩; have K3 := hide ((unhide K2).trans hk9); clear hk9 K2)
    go_wp2_with fail
    (refine (awake_any _).mono ?_; rintro e w4 ⟨rfl, hk9⟩; have K4 := hide ((unhide K3).trans hk9); clear hk9 K3)
    go_wp2_with fail
    go_ret
    exact ⟨rfl, unhide K4⟩
  · have h6 : a0 ≤ 6 ∨ 8 < a0 := by omega
    have TN := hide (fun w => nth_any a0 a1 w)
    have TM := hide (fun w => rnth_any a0 a1 h6 w)
    have hs := nth_short a0 a1
    have TS := hide (fun v u w h g => same_selfR v u (nth a0 a1) w h g (by omega))
    clear hm
    rcases h6 with hm | hm
    all_goals (
      first | have hq1 : ¬ 6 < a0 := (by omega) | have hq1 : ¬ a0 ≤ 8 := (by omega)
      first | have hq2 : 6 < a0 := (by omega) | have hq2 : a0 ≤ 6 := (by omega)
      generalize cnt a0 = C at TC TD hcc hxx
      generalize nth a0 a1 = L at TN TM TS hs
      go_enter Try.func3, Try.ntmps3
      go_wp2_with fail
      (refine ((unhide TC) _).mono ?_; rintro e w2 ⟨rfl, hk9⟩; have K2 := hide hk9; clear hk9)
      go_wp2_with fail
      (refine ((unhide TD) _).mono ?_; rintro e w3 ⟨rfl, hk9⟩; have K3 := hide ((unhide K2).trans hk9); clear hk9 K2)
      go_wp2_with fail
      (refine ((unhide TN) _).mono ?_; rintro e w4 ⟨v4, rfl, hk9, hi9⟩; have K4 := hide ((unhide K3).trans hk9); have I4 := hide hi9; clear hk9 hi9 K3)
      go_wp2_with fail
      (refine ((unhide TM) _).mono ?_; rintro e w5 ⟨v5, rfl, hk9, hi9⟩; have K5 := hide ((unhide K4).trans hk9); have I5 := hide ((unhide I4).keep hk9).is; have J5 := hide hi9.is; clear hk9 hi9 K4 I4)
      go_wp2_with fail
      (refine ((unhide TS) _ _ _ (unhide I5) (unhide J5)).mono ?_; rintro e w6 ⟨rfl, hk9⟩; have K6 := hide ((unhide K5).trans hk9); clear hk9 K5 I5 J5)
      go_wp2_with fail
      (refine (awake_any _).mono ?_; rintro e w7 ⟨rfl, hk9⟩; have K7 := hide ((unhide K6).trans hk9); clear hk9 K6)
      go_wp2_with fail
      go_ret
      exact ⟨rfl, unhide K7⟩)
set_option maxRecDepth 100000 in
theorem lifted (os : Os) (started : os.Started) (H : Type) (enc : TypeId × Value → H) :
    ReturnsInHanded {} Try.checked os 3 .any (Rows.orderNthSpec.pre6 enc Try.prog Try.f3 Rows.orderNthRow.domain false) (Rows.orderNthSpec.post enc Try.prog Try.f3 false true false false) := by
  refine returnsInHanded_of_change (C := Try.checked) own started (by kernel_rfl) Try.func3
    (ChangeSpec.witness6 (enc := enc) (C := Try.checked) false ⟨#[], #[.int .i64 0, .int .i64 0], []⟩ 8 (by kernel_rfl) (by kernel_rfl) (by kernel_rfl) (by kernel_rfl)) ?_
  intro W base args ds gs before hval0 hW hcnd _
  have hval : ∀ (j : Nat) t v, Try.f3.params[j]? = some t → args[j]? = some v → Value.okWide Try.prog W .any base t v := hval0
  have hW' := hW
  obtain ⟨p, q, hA0, hV, rfl, hfz, hnd⟩ := hW
  have hA : DataW.TrodAll enc Try.prog W 0 (fun _ => true) true Try.f3.params.toList args.toList ds p := hA0
  rw [Try.params3] at hA hval
  obtain ⟨v0, vs0, d0, ds0, p0, q0, hargs, rfl, rfl, h0, r0⟩ := trodAll_cons hA
  obtain ⟨v1, vs1, d1, ds1, p1, q1, rfl, rfl, rfl, h1, r1⟩ := trodAll_cons r0
  obtain ⟨rfl, rfl, rfl⟩ := trodAll_nil r1
  obtain rfl : args = #[v0, v1] := by cases args; simp_all
  obtain ⟨rfl, rfl⟩ := trodVars_none hV
  obtain ⟨a0, rfl, rfl, rfl, w0⟩ := open_int Try.underlying3 (hval 0 3 v0 rfl rfl) h0
  obtain ⟨a1, rfl, rfl, rfl, w1⟩ := open_int Try.underlying3 (hval 1 3 v1 rfl rfl) h1
  clear hA0 hval0
  refine (walk a0 a1 w0 w1 W).mono fun e W' ⟨he, bel⟩ => ?_
  subst he
  exact ⟨_, rfl, _, _, _, [], _, [], hW', trodAll_mk1 (shut_bool Try.underlying4 _), (trodAll_cons_mk (shut_int Try.underlying3 w0) (trodAll_cons_mk (shut_int Try.underlying3 w1) trodAll_mk0)), rfl, bel.frame _, fun h => by cases h⟩

theorem over : Rows.orderNthRow.holds Try.pinned (OpenSpec.ofChange Rows.orderNthSpec) :=
  OpenClaim.holds_of_wide 3 Try.f3 rfl rfl rfl rfl rfl rfl rfl ⟨rfl, rfl, rfl, rfl, rfl⟩ rfl rfl rfl rfl rfl (by kernel_rfl) Try.func3 (by kernel_rfl)
    (of_decide_eq_true (by kernel_rfl)) (by unfold Func.isWrapper; first | (rw [if_pos (by decide +kernel)]; kernel_rfl) | (rw [if_neg (by decide +kernel)]; exact ⟨rfl, rfl⟩))
    (fun os started H enc _ => lifted os started H enc)

end Go.Proofs.Yteiogijopngohaa.onth
namespace Go.Proofs.Yteiogijopngohaa
theorem OrderNth_holds : Rows.OrderNthSaid := onth.over
end Go.Proofs.Yteiogijopngohaa
