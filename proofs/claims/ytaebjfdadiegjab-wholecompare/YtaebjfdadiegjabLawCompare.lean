/- Proved: for every four numbers, how the product of the first two is to the product of the other two, as package whole tells it, is the document's answer, is the opposite with the products exchanged, and is the same with the factors exchanged. -/
import Derived.Test.YtaebjfdadiegjabRows
import Derived.Test.YtaebjfdadiegjabAwake
import Derived.Test.YtaebjfdadiegjabComp
import Derived.WalkKit
import Derived.ProofKit
import Derived.OpenShut
import Derived.ShutString
import Derived.ChangeOld
import Derived.Below
import Derived.Laws.IdiomArrays
import Derived.RegionTactic
namespace Go.Proofs.Ytaebjfdadiegjab.compare
open Go.ChangeShapes Go.WideShapes Go.ChangeAt Go.RowKit
set_option linter.unusedVariables false
theorem own : ownKnob Try.prog.godebug = none := by kernel_rfl
theorem laidOut : laidOutB Try.prog = true := by kernel_rfl
theorem cells2 : Try.prog.cellsOf 2 = 1 := by kernel_rfl
theorem cells4 : Try.prog.cellsOf 22 = 4 := by kernel_rfl
theorem cm_turn (x y : Int) : cm x y = -cm y x := by
  unfold cm
  by_cases h : x = y
  · rw [if_pos h, if_pos h.symm]; rfl
  · by_cases h2 : x < y
    · rw [if_neg h, if_pos h2, if_neg (fun e => h e.symm), if_neg (by omega)]
    · rw [if_neg h, if_neg h2, if_neg (fun e => h e.symm), if_pos (by omega)]; rfl
set_option maxHeartbeats 2000000 in
theorem walk (a b c d : Int) (w0 : (Lit.int .i64 a).wf = true) (w1 : (Lit.int .i64 b).wf = true) (w2 : (Lit.int .i64 c).wf = true) (w3 : (Lit.int .i64 d).wf = true) (w : World) :
    Calls Try.prog 3 #[.agg #[.int .i64 a, .int .i64 b, .int .i64 c, .int .i64 d]] w fun e w' => e = .returned (.bool true) ∧ Below w.heap.size w w' := by
  obtain ⟨l0, u0⟩ := bounds_i64 w0
  obtain ⟨l1, u1⟩ := bounds_i64 w1
  obtain ⟨l2, u2⟩ := bounds_i64 w2
  obtain ⟨l3, u3⟩ := bounds_i64 w3
  have C1 : Hid (∀ w, _) := fun w => compare_any a b c d w l0 u0 l1 u1 l2 u2 l3 u3
  have R1 : Hid (∀ w, _) := fun w => rcompare_any a b c d w l0 u0 l1 u1 l2 u2 l3 u3
  have C2 : Hid (∀ w, _) := fun w => compare_any c d a b w l2 u2 l3 u3 l0 u0 l1 u1
  have C3 : Hid (∀ w, _) := fun w => compare_any b a d c w l1 u1 l0 u0 l3 u3 l2 u2
  rw [Int.mul_comm b a, Int.mul_comm d c] at C3
  rw [cm_turn (c * d) (a * b)] at C2
  have bd := cm_bd (a * b) (c * d)
  generalize cm (a * b) (c * d) = v at *
  obtain ⟨bd1, bd2⟩ := bd
  go_enter Try.func3, Try.ntmps3
  go_wp2
  go_region
  go_wp2_with fail
  refine (unhide C1 _).mono ?_
  rintro e x1 ⟨rfl, h1⟩
  go_wp2_with fail
  refine (unhide R1 _).mono ?_
  rintro e x2 ⟨rfl, h2⟩
  go_wp2_with fail
  refine (unhide C2 _).mono ?_
  rintro e x3 ⟨rfl, h3⟩
  go_wp2_with fail
  refine (unhide C3 _).mono ?_
  rintro e x4 ⟨rfl, h4⟩
  go_wp2_with fail
  refine (awake_any _).mono ?_
  rintro e x5 ⟨rfl, h5⟩
  go_wp2_with fail
  go_ret
  have h0 : Keep w x1 := (show Keep w _ from ((Keep.refl w).alloc _).drew).trans h1
  exact ⟨rfl, (((h0.trans h2).trans h3).trans h4).trans h5⟩
theorem list4 {α : Type} (l : List α) (h : (⟨l⟩ : Array α).size = 4) : ∃ a b c d, l = [a, b, c, d] := by
  match l, h with
  | [a, b, c, d], _ => exact ⟨a, b, c, d, rfl⟩
set_option maxHeartbeats 400000 in
set_option maxRecDepth 100000 in
theorem lifted (os : Os) (started : os.Started) (H : Type) (enc : TypeId × Value → H) :
    ReturnsInHanded {} Try.checked os 3 .any (Rows.wholeCompareSpec.pre6 enc Try.prog Try.f3 Rows.wholeCompareRow.domain false) (Rows.wholeCompareSpec.post enc Try.prog Try.f3 false true false false) := by
  refine returnsInHanded_of_change (C := Try.checked) own started (by kernel_rfl) Try.func3
    (ChangeSpec.witness6 (enc := enc) (C := Try.checked) false ⟨#[], #[.agg #[.int .i64 0, .int .i64 0, .int .i64 0, .int .i64 0]], []⟩ 8 (by kernel_rfl) (by kernel_rfl) (by kernel_rfl) (by kernel_rfl)) ?_
  intro W base args ds gs before hval0 hW hcnd _
  have hval : ∀ (j : Nat) t v, Try.f3.params[j]? = some t → args[j]? = some v → Value.okWide Try.prog W .any base t v := hval0
  have hW' := hW
  obtain ⟨p, q, hA0, hV, rfl, hfz, hnd⟩ := hW
  have hA : DataW.TrodAll enc Try.prog W 0 (fun _ => true) true Try.f3.params.toList args.toList ds p := hA0
  rw [Try.params3] at hA hval
  obtain ⟨v0, d0, rfl, rfl, h0⟩ := trodAll_one hA
  obtain ⟨rfl, rfl⟩ := trodVars_none hV
  have k0 := h0
  have lt0 : ∀ x ∈ p, x.block < W.heap.size := by obtain ⟨m, hm⟩ := k0; exact DataW.trod_lt m _ _ _ hm
  obtain ⟨cs, rfl, hsz, _⟩ : ∃ cs, v0 = .agg cs ∧ cs.size = Try.prog.cellsOf 22 ∧ Row.okWide Try.prog W .any base 22 cs := by
    have := hval 0 22 v0 rfl rfl
    simpa [Value.okWide, Try.underlying22] using this
  rw [cells4] at hsz
  obtain ⟨l⟩ := cs
  obtain ⟨c0, c1, c2, c3, rfl⟩ := list4 l hsz
  obtain ⟨fuel, hf⟩ := h0
  obtain ⟨y0, y1, y2, y3, m, hx, hy0, hy1, hy2, hy3⟩ := trod_array4 Try.underlying22 cells2 hf
  obtain ⟨x0, e0, rfl, w0⟩ := DataW.trod_int Try.underlying2 hy0
  obtain ⟨x1, e1, rfl, w1⟩ := DataW.trod_int Try.underlying2 hy1
  obtain ⟨x2, e2, rfl, w2⟩ := DataW.trod_int Try.underlying2 hy2
  obtain ⟨x3, e3, rfl, w3⟩ := DataW.trod_int Try.underlying2 hy3
  simp at e0 e1 e2 e3
  subst e0 e1 e2 e3
  clear hA0 hval0 hx hf hy0 hy1 hy2 hy3
  refine (walk x0 x1 x2 x3 w0 w1 w2 w3 W).mono fun e W' ⟨he, bel⟩ => ?_
  subst he
  exact ⟨_, rfl, _, _, _, [], _, [], hW', trodAll_mk1 (shut_bool Try.underlying4 _), trodAll_mk1 (Below.trod laidOut (by kernel_rfl) (of_decide_eq_true (by kernel_rfl)) k0 bel lt0), rfl, bel.frame _, fun h => by cases h⟩
theorem over : Rows.wholeCompareRow.holds Try.pinned (OpenSpec.ofChange Rows.wholeCompareSpec) :=
  OpenClaim.holds_of_wide 3 Try.f3 rfl rfl rfl rfl rfl rfl rfl ⟨rfl, rfl, rfl, rfl, rfl⟩ rfl rfl rfl rfl rfl (by kernel_rfl) Try.func3 (by kernel_rfl)
    (of_decide_eq_true (by kernel_rfl)) (by unfold Func.isWrapper; first | (rw [if_pos (by decide +kernel)]; kernel_rfl) | (rw [if_neg (by decide +kernel)]; exact ⟨rfl, rfl⟩))
    (fun os started H enc _ => lifted os started H enc)
end Go.Proofs.Ytaebjfdadiegjab.compare
namespace Go.Proofs.Ytaebjfdadiegjab
theorem WholeCompare_holds : Rows.WholeCompareSaid := compare.over
end Go.Proofs.Ytaebjfdadiegjab
