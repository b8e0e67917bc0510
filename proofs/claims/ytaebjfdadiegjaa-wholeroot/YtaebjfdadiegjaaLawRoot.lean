/- Proved: for every n, the root that package whole tells is the document's, its square is not above n and the next one's is; below 0 there is none. -/
import Derived.Test.YtaebjfdadiegjaaRows
import Derived.Test.YtaebjfdadiegjaaAwake
import Derived.Test.YtaebjfdadiegjaaRoot
import Derived.WalkKit
import Derived.ProofKit
import Derived.OpenShut
import Derived.ShutString
import Derived.ChangeOld
import Derived.Below
namespace Go.Proofs.Ytaebjfdadiegjaa.root
open Go.ChangeShapes Go.WideShapes Go.ChangeAt Go.RowKit
set_option linter.unusedVariables false
theorem own : ownKnob Try.prog.godebug = none := by kernel_rfl
set_option maxHeartbeats 1000000 in
theorem walk (a0 : Int) (w0 : (Lit.int .i64 a0).wf = true) (w : World) :
    Calls Try.prog 8 #[.int .i64 a0] w fun e w' => e = .returned (.bool true) ∧ Below w.heap.size w w' := by
  obtain ⟨l0, u0⟩ := bounds_i64 w0
  by_cases hn : a0 < 0
  · go_enter Try.func8, Try.ntmps8
    go_wp2_with fail
    refine (sqrt_arg _ _ hn).mono ?_
    rintro e w' ⟨rfl, rfl⟩
    go_wp2_with fail
    refine (rsqrt_arg _ _ hn).mono ?_
    rintro e w' ⟨rfl, rfl⟩
    go_wp2_with fail
    refine (awake_any _).mono ?_
    rintro e wz ⟨rfl, hwz⟩
    go_wp2_with fail
    go_ret
    exact ⟨rfl, hwz⟩
  · obtain ⟨S, hS⟩ := root_ex (show 0 ≤ a0 by omega)
    have hS0 := hS.1
    have hS1 := root_lt hS u0
    have C1 : Hid (∀ w, _) := fun w => compare_any S S a0 1 w (by omega) (by omega) (by omega) (by omega) l0 u0 (by omega) (by omega)
    have C2 : Hid (∀ w, _) := fun w => compare_any (S + 1) (S + 1) a0 1 w (by omega) (by omega) (by omega) (by omega) l0 u0 (by omega) (by omega)
    have k1 : cm (S * S) (a0 * 1) ≤ 0 := by rw [cm_le, Int.mul_one]; exact hS.2.1
    have k2 : 0 < cm ((S + 1) * (S + 1)) (a0 * 1) := by
      have h := cm_le (x := (S + 1) * (S + 1)) (y := a0 * 1)
      rw [Int.mul_one] at h ⊢
      have := hS.2.2
      omega
    have HS := hide hS
    clear hS
    generalize cm (S * S) (a0 * 1) = c1 at *
    generalize cm ((S + 1) * (S + 1)) (a0 * 1) = c2 at *
    have d1 : decide (c1 ≤ 0) = true := by simp; omega
    have d2 : decide (0 < c2) = true := by simp; omega
    go_enter Try.func8, Try.ntmps8
    go_wp2_with fail
    refine (sqrt_any _ S _ (by omega) u0 HS hS0 hS1).mono ?_
    rintro e w' ⟨rfl, rfl⟩
    go_wp2_with fail
    refine (rsqrt_any _ S _ (by omega) u0 HS hS0 hS1).mono ?_
    rintro e x1 ⟨rfl, hx1⟩
    go_wp2_with fail
    refine (same_any _ _ _).mono ?_
    rintro e w' ⟨rfl, rfl⟩
    go_wp2_with fail
    refine (unhide C1 _).mono ?_
    rintro e x2 ⟨rfl, hx2⟩
    go_wp2_with fail
    refine (unhide C2 _).mono ?_
    rintro e x3 ⟨rfl, hx3⟩
    go_wp2_with fail
    refine (awake_any _).mono ?_
    rintro e wz ⟨rfl, hwz⟩
    go_wp2_with fail
    go_ret
    exact ⟨rfl, ((hx1.trans hx2).trans hx3).trans hwz⟩
set_option maxRecDepth 100000 in
theorem lifted (os : Os) (started : os.Started) (H : Type) (enc : TypeId × Value → H) :
    ReturnsInHanded {} Try.checked os 8 .any (Rows.wholeRootSpec.pre6 enc Try.prog Try.f8 Rows.wholeRootRow.domain false) (Rows.wholeRootSpec.post enc Try.prog Try.f8 false true false false) := by
  refine returnsInHanded_of_change (C := Try.checked) own started (by kernel_rfl) Try.func8
    (ChangeSpec.witness6 (enc := enc) (C := Try.checked) false ⟨#[], #[.int .i64 0], []⟩ 8 (by kernel_rfl) (by kernel_rfl) (by kernel_rfl) (by kernel_rfl)) ?_
  intro W base args ds gs before hval0 hW hcnd _
  have hval : ∀ (j : Nat) t v, Try.f8.params[j]? = some t → args[j]? = some v → Value.okWide Try.prog W .any base t v := hval0
  have hW' := hW
  obtain ⟨p, q, hA0, hV, rfl, hfz, hnd⟩ := hW
  have hA : DataW.TrodAll enc Try.prog W 0 (fun _ => true) true Try.f8.params.toList args.toList ds p := hA0
  rw [Try.params8] at hA hval
  obtain ⟨v0, vs0, d0, ds0, p0, q0, hargs, rfl, rfl, h0, r0⟩ := trodAll_cons hA
  obtain ⟨rfl, rfl, rfl⟩ := trodAll_nil r0
  obtain rfl : args = #[v0] := by cases args; simp_all
  obtain ⟨rfl, rfl⟩ := trodVars_none hV
  obtain ⟨a0, rfl, rfl, rfl, w0⟩ := open_int Try.underlying2 (hval 0 2 v0 rfl rfl) h0
  clear hA0 hval0
  refine (walk a0 w0 W).mono fun e W' ⟨he, bel⟩ => ?_
  subst he
  exact ⟨_, rfl, _, _, _, [], _, [], hW', trodAll_mk1 (shut_bool Try.underlying4 _), (trodAll_cons_mk (shut_int Try.underlying2 w0) trodAll_mk0), rfl, bel.frame _, fun h => by cases h⟩

theorem over : Rows.wholeRootRow.holds Try.pinned (OpenSpec.ofChange Rows.wholeRootSpec) :=
  OpenClaim.holds_of_wide 8 Try.f8 rfl rfl rfl rfl rfl rfl rfl ⟨rfl, rfl, rfl, rfl, rfl⟩ rfl rfl rfl rfl rfl (by kernel_rfl) Try.func8 (by kernel_rfl)
    (of_decide_eq_true (by kernel_rfl)) (by unfold Func.isWrapper; first | (rw [if_pos (by decide +kernel)]; kernel_rfl) | (rw [if_neg (by decide +kernel)]; exact ⟨rfl, rfl⟩))
    (fun os started H enc _ => lifted os started H enc)

end Go.Proofs.Ytaebjfdadiegjaa.root
namespace Go.Proofs.Ytaebjfdadiegjaa
theorem WholeRoot_holds : Rows.WholeRootSaid := root.over
end Go.Proofs.Ytaebjfdadiegjaa
