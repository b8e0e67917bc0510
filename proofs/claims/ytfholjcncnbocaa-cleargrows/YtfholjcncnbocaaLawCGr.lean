/- Proved: for every speed, grade and two numbers within bounds: who is faster needs no less yellow and no more red, uphill needs no more yellow, a longer way needs no less (others are let by). -/
import Derived.Test.YtfholjcncnbocaaRows
import Derived.Test.YtfholjcncnbocaaKYel
import Derived.Test.YtfholjcncnbocaaKOpn
namespace Go.Proofs.Ytfholjcncnbocaa.cgrows
open Go.ChangeShapes Go.WideShapes Go.ChangeAt Go.RowKit
set_option linter.unusedVariables false
set_option linter.unusedSimpArgs false
set_option maxRecDepth 10000
set_option maxHeartbeats 4000000 in
theorem core (s g l0 l1 A0 A1 B0 B1 C0 C1 D0 D1 E0 E1 F0 F1 G0 G1 H0 H1 I0 I1 : Int) (w : World)
    (c1 : ¬ s < 1) (c2 : ¬ 10000 ≤ s) (c3 : ¬ g < -200) (c4 : ¬ 200 ≤ g) (c5 : ¬ l0 < 1) (c6 : ¬ 100000 ≤ l0) (c7 : ¬ l1 < 0) (c8 : ¬ 100000 < l1)
    (h1 : A0 ≤ B0) (h2 : C0 ≤ A0) (h3 : E0 ≤ D0) (h4 : D0 ≤ F0) (h5 : G0 ≤ H0) (h6 : I0 ≤ G0)
    (TA : Hid (∀ w, Calls Try.prog 6 #[.int .i64 s, .int .i64 g] w fun e w' => e = .returned (.tuple #[.int .i64 A0, .int .i64 A1]) ∧ Keep w w'))
    (TB : Hid (∀ w, Calls Try.prog 6 #[.int .i64 (s + 1), .int .i64 g] w fun e w' => e = .returned (.tuple #[.int .i64 B0, .int .i64 B1]) ∧ Keep w w'))
    (TC : Hid (∀ w, Calls Try.prog 6 #[.int .i64 s, .int .i64 (g + 1)] w fun e w' => e = .returned (.tuple #[.int .i64 C0, .int .i64 C1]) ∧ Keep w w'))
    (TD : Hid (∀ w, Calls Try.prog 8 #[.int .i64 l0, .int .i64 l1, .int .i64 s] w fun e w' => e = .returned (.tuple #[.int .i64 D0, .int .i64 D1]) ∧ Keep w w'))
    (TE : Hid (∀ w, Calls Try.prog 8 #[.int .i64 l0, .int .i64 l1, .int .i64 (s + 1)] w fun e w' => e = .returned (.tuple #[.int .i64 E0, .int .i64 E1]) ∧ Keep w w'))
    (TF : Hid (∀ w, Calls Try.prog 8 #[.int .i64 (l0 + 1), .int .i64 l1, .int .i64 s] w fun e w' => e = .returned (.tuple #[.int .i64 F0, .int .i64 F1]) ∧ Keep w w'))
    (TG : Hid (∀ w, Calls Try.prog 10 #[.int .i64 l0, .int .i64 s] w fun e w' => e = .returned (.tuple #[.int .i64 G0, .int .i64 G1]) ∧ Keep w w'))
    (TH : Hid (∀ w, Calls Try.prog 10 #[.int .i64 (l0 + 1), .int .i64 s] w fun e w' => e = .returned (.tuple #[.int .i64 H0, .int .i64 H1]) ∧ Keep w w'))
    (TI : Hid (∀ w, Calls Try.prog 10 #[.int .i64 l0, .int .i64 (s + 1)] w fun e w' => e = .returned (.tuple #[.int .i64 I0, .int .i64 I1]) ∧ Keep w w'))
    (AW : Hid (∀ w, Calls Try.prog 12 #[] w fun e w' => e = .returned (.bool true) ∧ Keep w w')) :
    Calls Try.prog 5 #[.int .i64 s, .int .i64 g, .agg #[.int .i64 l0, .int .i64 l1]] w fun e w' => e = .returned (.bool true) ∧ Below w.heap.size w w' := by
  have CB : Hid (∀ W, Keep (w.alloc (.cells #[.int .i64 l0, .int .i64 l1] 29)) W → W.cell? ⟨w.heap.size, 0, none⟩ = some (.int .i64 l0) ∧ W.cell? ⟨w.heap.size, 1, none⟩ = some (.int .i64 l1)) := by
    intro W hk
    have e : ∀ i, W.cell? ⟨w.heap.size, i, none⟩ = (w.alloc (.cells #[.int .i64 l0, .int .i64 l1] 29)).cell? ⟨w.heap.size, i, none⟩ := fun i => Below.cell (p := ⟨w.heap.size, i, none⟩) hk (by show w.heap.size < _; rw [World.size_alloc]; omega)
    rw [e, e]
    exact ⟨by simp [go_sem], by simp [go_sem]⟩
  have kw := hide ((Keep.refl w).alloc (.cells #[.int .i64 l0, .int .i64 l1] 29))
  have ws : wrap64 (s + 1) = s + 1 := wrap_in (by omega)
  have wg : wrap64 (g + 1) = g + 1 := wrap_in (by omega)
  have wl : wrap64 (l0 + 1) = l0 + 1 := wrap_in (by omega)
  go_enter Try.func5, Try.ntmps5
  go_wp2_with fail
  (refine ((unhide TA) _).mono ?_; rintro e u1 ⟨rfl, k⟩; obtain ⟨d0, d1⟩ := (unhide CB) _ k; replace k := hide k)
  go_wp2_with fail
  (refine ((unhide TB) _).mono ?_; rintro e u2 ⟨rfl, k2⟩; replace k := hide ((unhide k).trans k2); clear k2 d0 d1; obtain ⟨d0, d1⟩ := (unhide CB) _ (unhide k))
  go_wp2_with fail
  (refine ((unhide TC) _).mono ?_; rintro e u3 ⟨rfl, k2⟩; replace k := hide ((unhide k).trans k2); clear k2 d0 d1; obtain ⟨d0, d1⟩ := (unhide CB) _ (unhide k))
  go_wp2_with fail
  (refine ((unhide TD) _).mono ?_; rintro e u4 ⟨rfl, k2⟩; replace k := hide ((unhide k).trans k2); clear k2 d0 d1; obtain ⟨d0, d1⟩ := (unhide CB) _ (unhide k))
  go_wp2_with fail
  (refine ((unhide TE) _).mono ?_; rintro e u5 ⟨rfl, k2⟩; replace k := hide ((unhide k).trans k2); clear k2 d0 d1; obtain ⟨d0, d1⟩ := (unhide CB) _ (unhide k))
  go_wp2_with fail
  (refine ((unhide TF) _).mono ?_; rintro e u6 ⟨rfl, k2⟩; replace k := hide ((unhide k).trans k2); clear k2 d0 d1; obtain ⟨d0, d1⟩ := (unhide CB) _ (unhide k))
  go_wp2_with fail
  (refine ((unhide TG) _).mono ?_; rintro e u7 ⟨rfl, k2⟩; replace k := hide ((unhide k).trans k2); clear k2 d0 d1; obtain ⟨d0, d1⟩ := (unhide CB) _ (unhide k))
  go_wp2_with fail
  (refine ((unhide TH) _).mono ?_; rintro e u8 ⟨rfl, k2⟩; replace k := hide ((unhide k).trans k2); clear k2 d0 d1; obtain ⟨d0, d1⟩ := (unhide CB) _ (unhide k))
  go_wp2_with fail
  (refine ((unhide TI) _).mono ?_; rintro e u9 ⟨rfl, k2⟩; replace k := hide ((unhide k).trans k2); clear k2 d0 d1; obtain ⟨d0, d1⟩ := (unhide CB) _ (unhide k))
  go_wp2_with fail
  (refine ((unhide AW) _).mono ?_; rintro e u10 ⟨rfl, k2⟩)
  go_wp2_with fail
  go_ret
  exact ⟨rfl, (unhide kw).trans ((unhide k).trans k2)⟩
set_option maxHeartbeats 4000000 in
theorem off (s g l0 l1 : Int) (w : World)
    (hd : s < 1 ∨ (¬ s < 1 ∧ 10000 ≤ s) ∨ (¬ s < 1 ∧ ¬ 10000 ≤ s ∧ g < -200) ∨ (¬ s < 1 ∧ ¬ 10000 ≤ s ∧ ¬ g < -200 ∧ 200 ≤ g) ∨ (¬ s < 1 ∧ ¬ 10000 ≤ s ∧ ¬ g < -200 ∧ ¬ 200 ≤ g ∧ l0 < 1) ∨ (¬ s < 1 ∧ ¬ 10000 ≤ s ∧ ¬ g < -200 ∧ ¬ 200 ≤ g ∧ ¬ l0 < 1 ∧ 100000 ≤ l0)
      ∨ (¬ s < 1 ∧ ¬ 10000 ≤ s ∧ ¬ g < -200 ∧ ¬ 200 ≤ g ∧ ¬ l0 < 1 ∧ ¬ 100000 ≤ l0 ∧ l1 < 0) ∨ (¬ s < 1 ∧ ¬ 10000 ≤ s ∧ ¬ g < -200 ∧ ¬ 200 ≤ g ∧ ¬ l0 < 1 ∧ ¬ 100000 ≤ l0 ∧ ¬ l1 < 0 ∧ 100000 < l1))
    (AW : Hid (∀ w, Calls Try.prog 12 #[] w fun e w' => e = .returned (.bool true) ∧ Keep w w')) :
    Calls Try.prog 5 #[.int .i64 s, .int .i64 g, .agg #[.int .i64 l0, .int .i64 l1]] w fun e w' => e = .returned (.bool true) ∧ Below w.heap.size w w' := by
  have kw := hide ((Keep.refl w).alloc (.cells #[.int .i64 l0, .int .i64 l1] 29))
  go_enter Try.func5, Try.ntmps5
  rcases hd with h1 | ⟨h1, h2⟩ | ⟨h1, h2, h3⟩ | ⟨h1, h2, h3, h4⟩ | ⟨h1, h2, h3, h4, h5⟩ | ⟨h1, h2, h3, h4, h5, h6⟩ | ⟨h1, h2, h3, h4, h5, h6, h7⟩ | ⟨h1, h2, h3, h4, h5, h6, h7, h8⟩
  all_goals
    go_wp2_with fail
    (refine ((unhide AW) _).mono ?_; rintro e u10 ⟨rfl, k2⟩)
    go_wp2_with fail
    go_ret
    exact ⟨rfl, (unhide kw).trans k2⟩
theorem walk (s g l0 l1 : Int) (w : World) (w0 : (Lit.int .i64 s).wf = true) (w1 : (Lit.int .i64 g).wf = true) (v0 : (Lit.int .i64 l0).wf = true) (v1 : (Lit.int .i64 l1).wf = true) :
    Calls Try.prog 5 #[.int .i64 s, .int .i64 g, .agg #[.int .i64 l0, .int .i64 l1]] w fun e w' => e = .returned (.bool true) ∧ Below w.heap.size w w' := by
  by_cases h : 1 ≤ s ∧ s < 10000 ∧ -200 ≤ g ∧ g < 200 ∧ 1 ≤ l0 ∧ l0 < 100000 ∧ 0 ≤ l1 ∧ l1 ≤ 100000
  · obtain ⟨c1, c2, c3, c4, c5, c6, c7, c8⟩ := h
    have y1 : yN s g = 10 + up (10000 * s) (610000 + 1962 * g) := by unfold yN; rw [if_pos (by simp [yK]; omega)]
    have y2 : yN (s + 1) g = 10 + up (10000 * (s + 1)) (610000 + 1962 * g) := by unfold yN; rw [if_pos (by simp [yK]; omega)]
    have y3 : yN s (g + 1) = 10 + up (10000 * s) (610000 + 1962 * (g + 1)) := by unfold yN; rw [if_pos (by simp [yK]; omega)]
    have r1 : rN l0 l1 s = up (10 * (l0 + l1)) s := by unfold rN; rw [if_pos (by simp [rK]; omega)]
    have r2 : rN l0 l1 (s + 1) = up (10 * (l0 + l1)) (s + 1) := by unfold rN; rw [if_pos (by simp [rK]; omega)]
    have r3 : rN (l0 + 1) l1 s = up (10 * (l0 + 1 + l1)) s := by unfold rN; rw [if_pos (by simp [rK]; omega)]
    have f1 : fN l0 s = up (10 * l0) s := by unfold fN; rw [if_pos (by simp [fK]; omega)]
    have f2 : fN (l0 + 1) s = up (10 * (l0 + 1)) s := by unfold fN; rw [if_pos (by simp [fK]; omega)]
    have f3 : fN l0 (s + 1) = up (10 * l0) (s + 1) := by unfold fN; rw [if_pos (by simp [fK]; omega)]
    refine core s g l0 l1 _ _ _ _ _ _ _ _ _ _ _ _ _ _ _ _ _ _ w (by omega) (by omega) (by omega) (by omega) (by omega) (by omega) (by omega) (by omega) ?_ ?_ ?_ ?_ ?_ ?_ (hide (yellow_any s g)) (hide (yellow_any _ _)) (hide (yellow_any _ _)) (hide (red_any _ _ _)) (hide (red_any _ _ _)) (hide (red_any _ _ _)) (hide (flash_any _ _)) (hide (flash_any _ _)) (hide (flash_any _ _)) (hide awake_any)
    · rw [y1, y2]; have := up_mono (n := 10000 * s) (m := 10000 * (s + 1)) (d := 610000 + 1962 * g) (by omega) (by omega); omega
    · rw [y1, y3]; have := up_anti (n := 10000 * s) (d := 610000 + 1962 * g) (e := 610000 + 1962 * (g + 1)) (by omega) (by omega) (by omega); omega
    · rw [r1, r2]; exact up_anti (by omega) (by omega) (by omega)
    · rw [r1, r3]; exact up_mono (by omega) (by omega)
    · rw [f1, f2]; exact up_mono (by omega) (by omega)
    · rw [f1, f3]; exact up_anti (by omega) (by omega) (by omega)
  · exact off s g l0 l1 w (by omega) (hide awake_any)
theorem laidOut : laidOutB Try.prog = true := by kernel_rfl
theorem own : ownKnob Try.prog.godebug = none := by kernel_rfl
set_option maxHeartbeats 400000 in
set_option maxRecDepth 100000 in
theorem lifted (os : Os) (started : os.Started) (H : Type) (enc : TypeId × Value → H) :
    ReturnsInHanded {} Try.checked os 5 .any (Rows.clearGrowsSpec.pre6 enc Try.prog Try.f5 Rows.clearGrowsRow.domain false) (Rows.clearGrowsSpec.post enc Try.prog Try.f5 false true false false) := by
  refine returnsInHanded_of_change (C := Try.checked) own started (by kernel_rfl) Try.func5
    (ChangeSpec.witness6 (enc := enc) (C := Try.checked) false ⟨#[], #[.int .i64 0, .int .i64 0, .agg #[.int .i64 0, .int .i64 0]], []⟩ 8 (by kernel_rfl) (by kernel_rfl) (by kernel_rfl) (by kernel_rfl)) ?_
  intro W base args ds gs before hval0 hW hcnd _
  have hval : ∀ (j : Nat) t v, Try.f5.params[j]? = some t → args[j]? = some v → Value.okWide Try.prog W .any base t v := hval0
  have hW' := hW
  obtain ⟨p, q, hA0, hV, rfl, hfz, hnd⟩ := hW
  have hA : DataW.TrodAll enc Try.prog W 0 (fun _ => true) true Try.f5.params.toList args.toList ds p := hA0
  rw [Try.params5] at hA hval
  obtain ⟨v0, vs0, d0, ds0, p0, q0, hargs, rfl, rfl, h0, r0⟩ := trodAll_cons hA
  obtain ⟨v1, vs1, d1, ds1, p1, q1, rfl, rfl, rfl, h1, r1⟩ := trodAll_cons r0
  obtain ⟨v2, vs2, d2, ds2, p2, q2, rfl, rfl, rfl, h2, r2⟩ := trodAll_cons r1
  obtain ⟨rfl, rfl, rfl⟩ := trodAll_nil r2
  obtain rfl : args = #[v0, v1, v2] := by cases args; simp_all
  obtain ⟨rfl, rfl⟩ := trodVars_none hV
  obtain ⟨a0, rfl, rfl, rfl, w0⟩ := open_int Try.underlying2 (hval 0 2 v0 rfl rfl) h0
  obtain ⟨a1, rfl, rfl, rfl, w1⟩ := open_int Try.underlying2 (hval 1 2 v1 rfl rfl) h1
  have k2 := h2
  have lt2 : ∀ x ∈ p2, x.block < W.heap.size := by obtain ⟨m, hm⟩ := k2; exact DataW.trod_lt m _ _ _ hm
  obtain ⟨a20, a21, rfl, w20, w21⟩ := open_num2 Try.underlying29 Try.underlying2 (by kernel_rfl) (by kernel_rfl) (hval 2 29 v2 rfl rfl) h2
  clear h2
  clear hA0 hval0
  refine (walk a0 a1 a20 a21 W w0 w1 w20 w21).mono fun e W' ⟨he, bel⟩ => ?_
  subst he
  exact ⟨_, rfl, _, _, _, [], _, [], hW', trodAll_mk1 (shut_bool Try.underlying4 _), (trodAll_cons_mk (shut_int Try.underlying2 w0) (trodAll_cons_mk (shut_int Try.underlying2 w1) (trodAll_cons_mk (Below.trod laidOut (by kernel_rfl) (of_decide_eq_true (by kernel_rfl)) k2 bel lt2) trodAll_mk0))), rfl, bel.frame _, fun h => by cases h⟩
theorem over : Rows.clearGrowsRow.holds Try.pinned (OpenSpec.ofChange Rows.clearGrowsSpec) :=
  OpenClaim.holds_of_wide 5 Try.f5 rfl rfl rfl rfl rfl rfl rfl ⟨rfl, rfl, rfl, rfl, rfl⟩ rfl rfl rfl rfl rfl (by kernel_rfl) Try.func5 (by kernel_rfl)
    (of_decide_eq_true (by kernel_rfl)) (by unfold Func.isWrapper; first | (rw [if_pos (by decide +kernel)]; kernel_rfl) | (rw [if_neg (by decide +kernel)]; exact ⟨rfl, rfl⟩))
    (fun os started H enc _ => lifted os started H enc)

end Go.Proofs.Ytfholjcncnbocaa.cgrows
namespace Go.Proofs.Ytfholjcncnbocaa
theorem ClearGrows_holds : Rows.ClearGrowsSaid := cgrows.over
end Go.Proofs.Ytfholjcncnbocaa
