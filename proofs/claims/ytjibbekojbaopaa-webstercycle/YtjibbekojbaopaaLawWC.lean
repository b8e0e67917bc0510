/- Proved: for every lost time and every fraction, the cycle that the formula asks for is the document's, or both say why there is none. -/
import Derived.Test.YtjibbekojbaopaaRows
import Derived.Test.YtjibbekojbaopaaWbS
import Derived.Test.YtjibbekojbaopaaWbL
namespace Go.Proofs.Ytjibbekojbaopaa.wcycle
open Go.ChangeShapes Go.WideShapes Go.ChangeAt Go.RowKit
open Go.WideMaps Go.WideElems
attribute [local go_sem ↓] Go.wp_at_zero Go.wp_at_succ
set_option linter.unusedVariables false
set_option linter.unusedSimpArgs false
set_option maxRecDepth 10000
open Wb W
set_option maxHeartbeats 1000000 in
theorem wcore (lost n d c e0 : Int) (b : Bool) (w : World) (T1 : Hid (∀ w, Calls Try.prog 8 #[.int .i64 lost, .agg #[.int .i64 n, .int .i64 d]] w fun e w' => e = .returned (.tuple #[.int .i64 c, .bool b, .int .i64 e0]) ∧ Keep w w')) (T2 : Hid (∀ w, Calls Try.prog 9 #[.int .i64 lost, .agg #[.int .i64 n, .int .i64 d]] w fun e w' => e = .returned (.tuple #[.int .i64 c, .bool b, .int .i64 e0]) ∧ Keep w w')) (AW : Hid (∀ w, Calls Try.prog 10 #[] w fun e w' => e = .returned (.bool true) ∧ Keep w w')) : Calls Try.prog 3 #[.int .i64 lost, .agg #[.int .i64 n, .int .i64 d]] w fun e w' => e = .returned (.bool true) ∧ Keep w w' := by
  go_enter Try.func3, Try.ntmps3
  go_wp2_with fail
  (refine ((uq T1) _).mono ?_; rintro e w1 ⟨rfl, hk⟩; obtain ⟨o1, k1, rfl⟩ := hk.ext; clear hk)
  go_wp2_with fail
  (refine ((uq T2) _).mono ?_; rintro e w2 ⟨rfl, hk⟩; obtain ⟨o2, k2, rfl⟩ := hk.ext; clear hk)
  go_wp2_with fail
  (refine ((uq AW) _).mono ?_; rintro e w3 ⟨rfl, hk⟩; obtain ⟨o3, k3, rfl⟩ := hk.ext; clear hk)
  go_wp2_with fail
  go_ret
  exact ⟨rfl, by repeat (first | apply keep_ext | apply Keep.alloc | apply Keep.drew | (refine keep_set _ _ _ (by omega) ?_) | assumption | exact Keep.refl _)⟩
theorem walk (lost : Int) {w : World} {ds : List D} {us : List Value} (hs : ShL fracT ds) (hr : Rvs w ds us) : Calls Try.prog 3 #[.int .i64 lost, .agg us.toArray] w fun e w' => e = .returned (.bool true) ∧ Below w.heap.size w w' := by
  obtain ⟨n, d, rfl, h1, h2, h3, h4⟩ := two hs hr
  exact wcore lost n d _ _ _ w (hide fun w => cycle_any lost n d w h1 h2 h3 h4) (hide fun w => rcycle_any lost n d w h1 h2 h3 h4) (hide awake_any)
theorem laidOut : laidOutB Try.prog = true := by kernel_rfl
theorem own : ownKnob Try.prog.godebug = none := by kernel_rfl
set_option maxHeartbeats 400000 in
set_option maxRecDepth 100000 in
theorem lifted (os : Os) (started : os.Started) (H : Type) (enc : TypeId × Value → H) :
    ReturnsInHanded {} Try.checked os 3 .any (Rows.websterCycleSpec.pre6 enc Try.prog Try.f3 Rows.websterCycleRow.domain false) (Rows.websterCycleSpec.post enc Try.prog Try.f3 false true false false) := by
  refine returnsInHanded_of_change (C := Try.checked) own started (by kernel_rfl) Try.func3
    (ChangeSpec.witness6 (enc := enc) (C := Try.checked) false ⟨#[], #[.int .i64 0, .agg #[.int .i64 0, .int .i64 0]], []⟩ 8 (by kernel_rfl) (by kernel_rfl) (by kernel_rfl) (by kernel_rfl)) ?_
  intro W base args ds gs before hval0 hW hcnd _
  have hval : ∀ (j : Nat) t v, Try.f3.params[j]? = some t → args[j]? = some v → Value.okWide Try.prog W .any base t v := hval0
  have hW' := hW
  obtain ⟨p, q, hA0, hV, rfl, hfz, hnd⟩ := hW
  have hA : DataW.TrodAll enc Try.prog W 0 (fun _ => true) true Try.f3.params.toList args.toList ds p := hA0
  rw [Try.params3] at hA hval
  obtain ⟨v0, vs0, d0, ds0, p0, q0, hargs, rfl, rfl, h0, r0⟩ := trodAll_cons hA
  obtain ⟨v1, vs1, d1, ds1, p1, q1, rfl, rfl, rfl, h1, r1⟩ := trodAll_cons r0
  obtain ⟨rfl, rfl, rfl⟩ := trodAll_nil r1
  obtain rfl : args = #[v0, v1] := by cases args; simp_all
  obtain ⟨rfl, rfl⟩ := trodVars_none hV
  obtain ⟨a0, rfl, rfl, rfl, w0⟩ := open_int Try.underlying2 (hval 0 2 v0 rfl rfl) h0
  have k1 := h1
  have lt1 : ∀ x ∈ p1, x.block < W.heap.size := by obtain ⟨m, hm⟩ := k1; exact DataW.trod_lt m _ _ _ hm
  obtain ⟨es1, us1, rfl, s1, x1⟩ := open_struct Try.underlying23 Wb.frac_desc (hval 1 23 v1 rfl rfl) h1
  clear h1
  clear hA0 hval0
  refine (walk a0 s1 x1).mono fun e W' ⟨he, bel⟩ => ?_
  subst he
  exact ⟨_, rfl, _, _, _, [], _, [], hW', trodAll_mk1 (shut_bool Try.underlying4 _), (trodAll_cons_mk (shut_int Try.underlying2 w0) (trodAll_cons_mk (Below.trod laidOut (by kernel_rfl) (of_decide_eq_true (by kernel_rfl)) k1 bel lt1) trodAll_mk0)), rfl, bel.frame _, fun h => by cases h⟩
theorem over : Rows.websterCycleRow.holds Try.pinned (OpenSpec.ofChange Rows.websterCycleSpec) :=
  OpenClaim.holds_of_wide 3 Try.f3 rfl rfl rfl rfl rfl rfl rfl ⟨rfl, rfl, rfl, rfl, rfl⟩ rfl rfl rfl rfl rfl (by kernel_rfl) Try.func3 (by kernel_rfl)
    (of_decide_eq_true (by kernel_rfl)) (by unfold Func.isWrapper; first | (rw [if_pos (by decide +kernel)]; kernel_rfl) | (rw [if_neg (by decide +kernel)]; exact ⟨rfl, rfl⟩))
    (fun os started H enc _ => lifted os started H enc)

end Go.Proofs.Ytjibbekojbaopaa.wcycle
namespace Go.Proofs.Ytjibbekojbaopaa
theorem WebsterCycle_holds : Rows.WebsterCycleSaid := wcycle.over
end Go.Proofs.Ytjibbekojbaopaa
