/- Proved: for every speed, grade and four numbers: where there is a yellow it is enough to think and to stop, and a decisecond less is not; likewise red to be across, and flashing to walk across. -/
import Derived.Test.YtfholjcncnbocaaRows
import Derived.Test.YtfholjcncnbocaaKYel
import Derived.Test.YtfholjcncnbocaaKOpn
namespace Go.Proofs.Ytfholjcncnbocaa.cenough
open Go.ChangeShapes Go.WideShapes Go.ChangeAt Go.RowKit
set_option linter.unusedVariables false
set_option linter.unusedSimpArgs false
set_option maxRecDepth 10000
set_option maxHeartbeats 4000000 in
theorem core (s g l0 l1 l2 l3 Y E R F V G D Y1 P1 Y2 P2 Q A B R1 R2 R3 W1 B2 W2 W3 X : Int) (w : World)
    (m0 : wrap64 (1962 * g) = X) (m1 : wrap64 (610000 + X) = D) (m2 : wrap64 (Y - 10) = Y1) (m3 : wrap64 (Y1 * D) = P1) (m4 : wrap64 (Y - 11) = Y2) (m5 : wrap64 (Y2 * D) = P2) (m6 : wrap64 (10000 * s) = Q)
    (m7 : wrap64 (l0 + l1) = A) (m8 : wrap64 (10 * A) = B) (m9 : wrap64 (R * s) = R1) (n0 : wrap64 (R - 1) = R2) (n1 : wrap64 (R2 * s) = R3) (n2 : wrap64 (V * l3) = W1) (n3 : wrap64 (10 * l2) = B2) (n4 : wrap64 (V - 1) = W2) (n5 : wrap64 (W2 * l3) = W3)
    (hy : Hid ((E = 0 ∧ ¬ P1 < Q ∧ ¬ Q ≤ P2) ∨ ((E == 0) = false ∧ ¬ E = 0))) (hr : Hid ((F = 0 ∧ ¬ R1 < B ∧ ¬ B ≤ R3) ∨ ((F == 0) = false ∧ ¬ F = 0))) (hf : Hid ((G = 0 ∧ ¬ W1 < B2 ∧ ¬ B2 ≤ W3) ∨ ((G == 0) = false ∧ ¬ G = 0)))
    (YA : Hid (∀ w, Calls Try.prog 6 #[.int .i64 s, .int .i64 g] w fun e w' => e = .returned (.tuple #[.int .i64 Y, .int .i64 E]) ∧ Keep w w'))
    (RA : Hid (∀ w, Calls Try.prog 8 #[.int .i64 l0, .int .i64 l1, .int .i64 s] w fun e w' => e = .returned (.tuple #[.int .i64 R, .int .i64 F]) ∧ Keep w w'))
    (FA : Hid (∀ w, Calls Try.prog 10 #[.int .i64 l2, .int .i64 l3] w fun e w' => e = .returned (.tuple #[.int .i64 V, .int .i64 G]) ∧ Keep w w'))
    (AW : Hid (∀ w, Calls Try.prog 12 #[] w fun e w' => e = .returned (.bool true) ∧ Keep w w')) :
    Calls Try.prog 4 #[.int .i64 s, .int .i64 g, .agg #[.int .i64 l0, .int .i64 l1, .int .i64 l2, .int .i64 l3]] w fun e w' => e = .returned (.bool true) ∧ Below w.heap.size w w' := by
  have CB : Hid (∀ W, Keep (w.alloc (.cells #[.int .i64 l0, .int .i64 l1, .int .i64 l2, .int .i64 l3] 22)) W → W.cell? ⟨w.heap.size, 0, none⟩ = some (.int .i64 l0) ∧ W.cell? ⟨w.heap.size, 1, none⟩ = some (.int .i64 l1) ∧ W.cell? ⟨w.heap.size, 2, none⟩ = some (.int .i64 l2) ∧ W.cell? ⟨w.heap.size, 3, none⟩ = some (.int .i64 l3)) := by
    intro W hk
    have e : ∀ i, W.cell? ⟨w.heap.size, i, none⟩ = (w.alloc (.cells #[.int .i64 l0, .int .i64 l1, .int .i64 l2, .int .i64 l3] 22)).cell? ⟨w.heap.size, i, none⟩ := fun i => Below.cell (p := ⟨w.heap.size, i, none⟩) hk (by show w.heap.size < _; rw [World.size_alloc]; omega)
    rw [e, e, e, e]
    exact ⟨by simp [go_sem], by simp [go_sem], by simp [go_sem], by simp [go_sem]⟩
  have kw := hide ((Keep.refl w).alloc (.cells #[.int .i64 l0, .int .i64 l1, .int .i64 l2, .int .i64 l3] 22))
  go_enter Try.func4, Try.ntmps4
  go_wp2_with fail
  (refine ((unhide YA) _).mono ?_; rintro e u1 ⟨rfl, k1⟩; obtain ⟨c0, c1, c2, c3⟩ := (unhide CB) _ k1; replace k1 := hide k1)
  rcases (unhide hy) with ⟨rfl, y1, y2⟩ | ⟨y1, y2⟩
  all_goals
    clear hy
    go_wp2_with fail
    (refine ((unhide RA) _).mono ?_; rintro e u3 ⟨rfl, k3⟩; replace k3 := hide ((unhide k1).trans k3); clear c0 c1 c2 c3; obtain ⟨c0, c1, c2, c3⟩ := (unhide CB) _ (unhide k3))
    rcases (unhide hr) with ⟨rfl, r1, r2⟩ | ⟨r1, r2⟩
    all_goals
      clear hr y1 y2
      go_wp2_with fail
      (refine ((unhide FA) _).mono ?_; rintro e u5 ⟨rfl, k5⟩; replace k5 := hide ((unhide k3).trans k5); clear c0 c1 c2 c3; obtain ⟨c0, c1, c2, c3⟩ := (unhide CB) _ (unhide k5))
      rcases (unhide hf) with ⟨rfl, f1, f2⟩ | ⟨f1, f2⟩
      all_goals
        clear hf r1 r2
        go_wp2_with fail
        (refine ((unhide AW) _).mono ?_; rintro e u7 ⟨rfl, k7⟩)
        go_wp2_with fail
        go_ret
        exact ⟨rfl, (unhide kw).trans ((unhide k5).trans k7)⟩
theorem walk (s g l0 l1 l2 l3 : Int) (w : World) (w0 : (Lit.int .i64 s).wf = true) (w1 : (Lit.int .i64 g).wf = true) (v0 : (Lit.int .i64 l0).wf = true) (v1 : (Lit.int .i64 l1).wf = true) (v2 : (Lit.int .i64 l2).wf = true) (v3 : (Lit.int .i64 l3).wf = true) :
    Calls Try.prog 4 #[.int .i64 s, .int .i64 g, .agg #[.int .i64 l0, .int .i64 l1, .int .i64 l2, .int .i64 l3]] w fun e w' => e = .returned (.bool true) ∧ Below w.heap.size w w' := by
  refine core s g l0 l1 l2 l3 (yN s g) (yE s g) (rN l0 l1 s) (rE l0 l1 s) (fN l2 l3) (fE l2 l3) _ _ _ _ _ _ _ _ _ _ _ _ _ _ _ _ w rfl rfl rfl rfl rfl rfl rfl rfl rfl rfl rfl rfl rfl rfl rfl rfl ?_ ?_ ?_ (hide (yellow_any s g)) (hide (red_any l0 l1 s)) (hide (flash_any l2 l3)) (hide awake_any)
  · by_cases h : yK s g = true
    · left
      have hd : 1 ≤ s ∧ s ≤ 10000 ∧ -200 ≤ g ∧ g ≤ 200 := by simpa [yK] using h
      have dp : 0 < 610000 + 1962 * g := by omega
      have a1 := up_ge (n := 10000 * s) dp
      have a2 := up_lt (n := 10000 * s) dp
      have a3 := up_nn (n := 10000 * s) dp (by omega)
      have a4 := up_small (n := 10000 * s) dp (by omega)
      have hN : yN s g = 10 + up (10000 * s) (610000 + 1962 * g) := by unfold yN; rw [if_pos h]
      rw [hN]
      generalize up (10000 * s) (610000 + 1962 * g) = U at *
      rw [wrap_in (n := 1962 * g) (by omega), wrap_in (n := 610000 + 1962 * g) (by omega), wrap_in (n := 10000 * s) (by omega), wrap_in (n := 10 + U - 10) (by omega), wrap_in (n := 10 + U - 11) (by omega),
        show (10 : Int) + U - 10 = U by omega, show (10 : Int) + U - 11 = U - 1 by omega]
      have b1 : 0 ≤ U * (610000 + 1962 * g) := Int.mul_nonneg a3 (by omega)
      have b2 : (U - 1) * (610000 + 1962 * g) = U * (610000 + 1962 * g) - (610000 + 1962 * g) := by rw [Int.sub_mul]; omega
      rw [wrap_in (n := U * (610000 + 1962 * g)) (by omega), wrap_in (n := (U - 1) * (610000 + 1962 * g)) (by omega)]
      exact ⟨by unfold yE; rw [if_pos h], by omega, by omega⟩
    · right
      have : yE s g = 1 := by unfold yE; rw [if_neg h]
      rw [this]; exact ⟨by decide, by decide⟩
  · by_cases h : rK l0 l1 s = true
    · left
      have hd : 0 ≤ l0 ∧ l0 ≤ 100000 ∧ 0 ≤ l1 ∧ l1 ≤ 100000 ∧ 1 ≤ s ∧ s ≤ 10000 := by simpa [rK] using h
      have dp : 0 < s := by omega
      have a1 := up_ge (n := 10 * (l0 + l1)) dp
      have a2 := up_lt (n := 10 * (l0 + l1)) dp
      have a3 := up_nn (n := 10 * (l0 + l1)) dp (by omega)
      have a4 := up_small (n := 10 * (l0 + l1)) dp (by omega)
      have hN : rN l0 l1 s = up (10 * (l0 + l1)) s := by unfold rN; rw [if_pos h]
      rw [hN]
      generalize up (10 * (l0 + l1)) s = U at *
      have b1 : 0 ≤ U * s := Int.mul_nonneg a3 (by omega)
      have b2 : (U - 1) * s = U * s - s := by rw [Int.sub_mul]; omega
      rw [wrap_in (n := l0 + l1) (by omega), wrap_in (n := 10 * (l0 + l1)) (by omega), wrap_in (n := U - 1) (by omega), wrap_in (n := U * s) (by omega), wrap_in (n := (U - 1) * s) (by omega)]
      exact ⟨by unfold rE; rw [if_pos h], by omega, by omega⟩
    · right
      have : rE l0 l1 s = 1 := by unfold rE; rw [if_neg h]
      rw [this]; exact ⟨by decide, by decide⟩
  · by_cases h : fK l2 l3 = true
    · left
      have hd : 1 ≤ l2 ∧ l2 ≤ 100000 ∧ 1 ≤ l3 ∧ l3 ≤ 10000 := by simpa [fK] using h
      have dp : 0 < l3 := by omega
      have a1 := up_ge (n := 10 * l2) dp
      have a2 := up_lt (n := 10 * l2) dp
      have a3 := up_nn (n := 10 * l2) dp (by omega)
      have a4 := up_small (n := 10 * l2) dp (by omega)
      have hN : fN l2 l3 = up (10 * l2) l3 := by unfold fN; rw [if_pos h]
      rw [hN]
      generalize up (10 * l2) l3 = U at *
      have b1 : 0 ≤ U * l3 := Int.mul_nonneg a3 (by omega)
      have b2 : (U - 1) * l3 = U * l3 - l3 := by rw [Int.sub_mul]; omega
      rw [wrap_in (n := 10 * l2) (by omega), wrap_in (n := U - 1) (by omega), wrap_in (n := U * l3) (by omega), wrap_in (n := (U - 1) * l3) (by omega)]
      exact ⟨by unfold fE; rw [if_pos h], by omega, by omega⟩
    · right
      have : fE l2 l3 = 1 := by unfold fE; rw [if_neg h]
      rw [this]; exact ⟨by decide, by decide⟩
theorem laidOut : laidOutB Try.prog = true := by kernel_rfl
theorem own : ownKnob Try.prog.godebug = none := by kernel_rfl
set_option maxHeartbeats 400000 in
set_option maxRecDepth 100000 in
theorem lifted (os : Os) (started : os.Started) (H : Type) (enc : TypeId × Value → H) :
    ReturnsInHanded {} Try.checked os 4 .any (Rows.clearEnoughSpec.pre6 enc Try.prog Try.f4 Rows.clearEnoughRow.domain false) (Rows.clearEnoughSpec.post enc Try.prog Try.f4 false true false false) := by
  refine returnsInHanded_of_change (C := Try.checked) own started (by kernel_rfl) Try.func4
    (ChangeSpec.witness6 (enc := enc) (C := Try.checked) false ⟨#[], #[.int .i64 0, .int .i64 0, .agg #[.int .i64 0, .int .i64 0, .int .i64 0, .int .i64 0]], []⟩ 8 (by kernel_rfl) (by kernel_rfl) (by kernel_rfl) (by kernel_rfl)) ?_
  intro W base args ds gs before hval0 hW hcnd _
  have hval : ∀ (j : Nat) t v, Try.f4.params[j]? = some t → args[j]? = some v → Value.okWide Try.prog W .any base t v := hval0
  have hW' := hW
  obtain ⟨p, q, hA0, hV, rfl, hfz, hnd⟩ := hW
  have hA : DataW.TrodAll enc Try.prog W 0 (fun _ => true) true Try.f4.params.toList args.toList ds p := hA0
  rw [Try.params4] at hA hval
  obtain ⟨v0, vs0, d0, ds0, p0, q0, hargs, rfl, rfl, h0, r0⟩ := trodAll_cons hA
  obtain ⟨v1, vs1, d1, ds1, p1, q1, rfl, rfl, rfl, h1, r1⟩ := trodAll_cons r0
  obtain ⟨v2, vs2, d2, ds2, p2, q2, rfl, rfl, rfl, h2, r2⟩ := trodAll_cons r1
  obtain ⟨rfl, rfl, rfl⟩ := trodAll_nil r2
  obtain rfl : args = #[v0, v1, v2] := by cases args; simp_all
  obtain ⟨rfl, rfl⟩ := trodVars_none hV
  obtain ⟨a0, rfl, rfl, rfl, w0⟩ := open_int Try.underlying2 (hval 0 2 v0 rfl rfl) h0
  obtain ⟨a1, rfl, rfl, rfl, w1⟩ := open_int Try.underlying2 (hval 1 2 v1 rfl rfl) h1
  have k2 := h2
  have lt2 : ∀ x ∈ p2, x.block < W.heap.size := by obtain ⟨m, hm⟩ := k2; exact DataW.trod_lt m _ _ _ hm
  obtain ⟨a20, a21, a22, a23, rfl, w20, w21, w22, w23⟩ := open_num4 Try.underlying22 Try.underlying2 (by kernel_rfl) (by kernel_rfl) (hval 2 22 v2 rfl rfl) h2
  clear h2
  clear hA0 hval0
  refine (walk a0 a1 a20 a21 a22 a23 W w0 w1 w20 w21 w22 w23).mono fun e W' ⟨he, bel⟩ => ?_
  subst he
  exact ⟨_, rfl, _, _, _, [], _, [], hW', trodAll_mk1 (shut_bool Try.underlying4 _), (trodAll_cons_mk (shut_int Try.underlying2 w0) (trodAll_cons_mk (shut_int Try.underlying2 w1) (trodAll_cons_mk (Below.trod laidOut (by kernel_rfl) (of_decide_eq_true (by kernel_rfl)) k2 bel lt2) trodAll_mk0))), rfl, bel.frame _, fun h => by cases h⟩
theorem over : Rows.clearEnoughRow.holds Try.pinned (OpenSpec.ofChange Rows.clearEnoughSpec) :=
  OpenClaim.holds_of_wide 4 Try.f4 rfl rfl rfl rfl rfl rfl rfl ⟨rfl, rfl, rfl, rfl, rfl⟩ rfl rfl rfl rfl rfl (by kernel_rfl) Try.func4 (by kernel_rfl)
    (of_decide_eq_true (by kernel_rfl)) (by unfold Func.isWrapper; first | (rw [if_pos (by decide +kernel)]; kernel_rfl) | (rw [if_neg (by decide +kernel)]; exact ⟨rfl, rfl⟩))
    (fun os started H enc _ => lifted os started H enc)

end Go.Proofs.Ytfholjcncnbocaa.cenough
namespace Go.Proofs.Ytfholjcncnbocaa
theorem ClearEnough_holds : Rows.ClearEnoughSaid := cenough.over
end Go.Proofs.Ytfholjcncnbocaa
