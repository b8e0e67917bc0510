/- Proved: for every speed, grade and four numbers, yellow, all red and flashing are the document's, or both say that there is no answer. -/
import Derived.Test.YtfholjcncnbocaaRows
import Derived.Test.YtfholjcncnbocaaKYel
import Derived.Test.YtfholjcncnbocaaKRef
import Derived.Test.YtfholjcncnbocaaKOpn
namespace Go.Proofs.Ytfholjcncnbocaa.ctimes
open Go.ChangeShapes Go.WideShapes Go.ChangeAt Go.RowKit
set_option linter.unusedVariables false
set_option linter.unusedSimpArgs false
set_option maxRecDepth 10000
set_option maxHeartbeats 1000000 in
theorem walk (s g l0 l1 l2 l3 : Int) (w : World) (w0 : (Lit.int .i64 s).wf = true) (w1 : (Lit.int .i64 g).wf = true) (v0 : (Lit.int .i64 l0).wf = true) (v1 : (Lit.int .i64 l1).wf = true) (v2 : (Lit.int .i64 l2).wf = true) (v3 : (Lit.int .i64 l3).wf = true) :
    Calls Try.prog 3 #[.int .i64 s, .int .i64 g, .agg #[.int .i64 l0, .int .i64 l1, .int .i64 l2, .int .i64 l3]] w fun e w' => e = .returned (.bool true) ∧ Below w.heap.size w w' := by
  have CB : Hid (∀ W, Keep (w.alloc (.cells #[.int .i64 l0, .int .i64 l1, .int .i64 l2, .int .i64 l3] 22)) W → W.cell? ⟨w.heap.size, 0, none⟩ = some (.int .i64 l0) ∧ W.cell? ⟨w.heap.size, 1, none⟩ = some (.int .i64 l1) ∧ W.cell? ⟨w.heap.size, 2, none⟩ = some (.int .i64 l2) ∧ W.cell? ⟨w.heap.size, 3, none⟩ = some (.int .i64 l3)) := by
    intro W hk
    have e : ∀ i, W.cell? ⟨w.heap.size, i, none⟩ = (w.alloc (.cells #[.int .i64 l0, .int .i64 l1, .int .i64 l2, .int .i64 l3] 22)).cell? ⟨w.heap.size, i, none⟩ := fun i => Below.cell (p := ⟨w.heap.size, i, none⟩) hk (by show w.heap.size < _; rw [World.size_alloc]; omega)
    rw [e, e, e, e]
    exact ⟨by simp [go_sem], by simp [go_sem], by simp [go_sem], by simp [go_sem]⟩
  have kw := hide ((Keep.refl w).alloc (.cells #[.int .i64 l0, .int .i64 l1, .int .i64 l2, .int .i64 l3] 22))
  have YA := hide yellow_any
  have RA := hide red_any
  have FA := hide flash_any
  have YR := hide ryellow_any
  have RR := hide rred_any
  have FR := hide rflash_any
  have AW := hide awake_any
  clear w0 w1 v0 v1 v2 v3
  go_enter Try.func3, Try.ntmps3
  go_wp2_with fail
  (refine ((unhide YA) _ _ _).mono ?_; rintro e u1 ⟨rfl, k1⟩; obtain ⟨c0, c1, c2, c3⟩ := (unhide CB) _ k1; replace k1 := hide k1)
  go_wp2_with fail
  (refine ((unhide YR) _ _ _).mono ?_; rintro e u2 ⟨rfl, rfl⟩)
  go_wp2_with fail
  (refine ((unhide RA) _ _ _ _).mono ?_; rintro e u3 ⟨rfl, k3⟩; replace k3 := hide ((unhide k1).trans k3); clear c0 c1 c2 c3; obtain ⟨c0, c1, c2, c3⟩ := (unhide CB) _ (unhide k3))
  go_wp2_with fail
  (refine ((unhide RR) _ _ _ _).mono ?_; rintro e u4 ⟨rfl, rfl⟩)
  go_wp2_with fail
  (refine ((unhide FA) _ _ _).mono ?_; rintro e u5 ⟨rfl, k5⟩; replace k5 := hide ((unhide k3).trans k5); clear c0 c1 c2 c3; obtain ⟨c0, c1, c2, c3⟩ := (unhide CB) _ (unhide k5))
  go_wp2_with fail
  (refine ((unhide FR) _ _ _).mono ?_; rintro e u6 ⟨rfl, rfl⟩)
  go_wp2_with fail
  (refine ((unhide AW) _).mono ?_; rintro e u7 ⟨rfl, k7⟩)
  go_wp2_with fail
  go_ret
  exact ⟨rfl, (unhide kw).trans ((unhide k5).trans k7)⟩
theorem laidOut : laidOutB Try.prog = true := by kernel_rfl
theorem own : ownKnob Try.prog.godebug = none := by kernel_rfl
set_option maxHeartbeats 400000 in
set_option maxRecDepth 100000 in
theorem lifted (os : Os) (started : os.Started) (H : Type) (enc : TypeId × Value → H) :
    ReturnsInHanded {} Try.checked os 3 .any (Rows.clearTimesSpec.pre6 enc Try.prog Try.f3 Rows.clearTimesRow.domain false) (Rows.clearTimesSpec.post enc Try.prog Try.f3 false true false false) := by
  refine returnsInHanded_of_change (C := Try.checked) own started (by kernel_rfl) Try.func3
    (ChangeSpec.witness6 (enc := enc) (C := Try.checked) false ⟨#[], #[.int .i64 0, .int .i64 0, .agg #[.int .i64 0, .int .i64 0, .int .i64 0, .int .i64 0]], []⟩ 8 (by kernel_rfl) (by kernel_rfl) (by kernel_rfl) (by kernel_rfl)) ?_
  intro W base args ds gs before hval0 hW hcnd _
  have hval : ∀ (j : Nat) t v, Try.f3.params[j]? = some t → args[j]? = some v → Value.okWide Try.prog W .any base t v := hval0
  have hW' := hW
  obtain ⟨p, q, hA0, hV, rfl, hfz, hnd⟩ := hW
  have hA : DataW.TrodAll enc Try.prog W 0 (fun _ => true) true Try.f3.params.toList args.toList ds p := hA0
  rw [Try.params3] at hA hval
  obtain ⟨v0, vs0, d0, ds0, p0, q0, hargs, rfl, rfl, h0, r0⟩ := trodAll_cons hA
  obtain ⟨v1, vs1, d1, ds1, p1, q1, rfl, rfl, rfl, h1, r1⟩ := trodAll_cons r0
  obtain ⟨v2, vs2, d2, ds2, p2, q2, rfl, rfl, rfl, h2, r2⟩ := trodAll_cons r1
  obtain ⟨rfl, rfl, rfl⟩ := trodAll_nil r2
  obtain rfl : args = #[v0, v1, v2] := by cases args; simp_all
  obtain ⟨rfl, rfl⟩ := trodVars_none hV
  obtain ⟨a0, rfl, rfl, rfl, w0⟩ := open_int Try.underlying2 (hval 0 2 v0 rfl rfl) h0
  obtain ⟨a1, rfl, rfl, rfl, w1⟩ := open_int Try.underlying2 (hval 1 2 v1 rfl rfl) h1
  have k2 := h2
  have lt2 : ∀ x ∈ p2, x.block < W.heap.size := by obtain ⟨m, hm⟩ := k2; exact DataW.trod_lt m _ _ _ hm
  obtain ⟨a20, a21, a22, a23, rfl, w20, w21, w22, w23⟩ := open_num4 Try.underlying22 Try.underlying2 (by kernel_rfl) (by kernel_rfl) (hval 2 22 v2 rfl rfl) h2
  clear h2
  clear hA0 hval0
  refine (walk a0 a1 a20 a21 a22 a23 W w0 w1 w20 w21 w22 w23).mono fun e W' ⟨he, bel⟩ => ?_
  subst he
  exact ⟨_, rfl, _, _, _, [], _, [], hW', trodAll_mk1 (shut_bool Try.underlying4 _), (trodAll_cons_mk (shut_int Try.underlying2 w0) (trodAll_cons_mk (shut_int Try.underlying2 w1) (trodAll_cons_mk (Below.trod laidOut (by kernel_rfl) (of_decide_eq_true (by kernel_rfl)) k2 bel lt2) trodAll_mk0))), rfl, bel.frame _, fun h => by cases h⟩
theorem over : Rows.clearTimesRow.holds Try.pinned (OpenSpec.ofChange Rows.clearTimesSpec) :=
  OpenClaim.holds_of_wide 3 Try.f3 rfl rfl rfl rfl rfl rfl rfl ⟨rfl, rfl, rfl, rfl, rfl⟩ rfl rfl rfl rfl rfl (by kernel_rfl) Try.func3 (by kernel_rfl)
    (of_decide_eq_true (by kernel_rfl)) (by unfold Func.isWrapper; first | (rw [if_pos (by decide +kernel)]; kernel_rfl) | (rw [if_neg (by decide +kernel)]; exact ⟨rfl, rfl⟩))
    (fun os started H enc _ => lifted os started H enc)

end Go.Proofs.Ytfholjcncnbocaa.ctimes
namespace Go.Proofs.Ytfholjcncnbocaa
theorem ClearTimes_holds : Rows.ClearTimesSaid := ctimes.over
end Go.Proofs.Ytfholjcncnbocaa
