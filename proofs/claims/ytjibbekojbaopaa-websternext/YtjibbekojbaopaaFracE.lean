/- Package frac: sum, Add, Sub: what they hand back. -/
import Derived.Test.YtjibbekojbaopaaFracS
import Derived.Test.YtjibbekojbaopaaFracV
import Derived.Test.YtjibbekojbaopaaWholeQ
namespace Go.Proofs.Ytjibbekojbaopaa
open Go.RowKit
set_option linter.unusedVariables false
set_option maxRecDepth 10000
set_option maxHeartbeats 1000000 in
theorem sum_sub (n d n2 d2 : Int) (b b2 : Bool) (x y x2 y2 X Y Z : Int) (w : World) (Tk : Int → Int → Bool → Int → Int → Prop) (K1 : Tk n d b x y) (K2 : Tk n2 d2 b2 x2 y2)
    (T1 : Hid (∀ (n d : Int) (b : Bool) (x y : Int), Tk n d b x y → ∀ w, Calls Try.prog 49 #[.agg #[.int .i64 n, .int .i64 d]] w fun e w' => e = .returned (.agg #[.bool b, .int .u64 x, .int .u64 y]) ∧ Keep w w'))
    (T2 : Hid (∀ w, Calls Try.prog 48 #[.agg #[.bool b2, .int .u64 x2, .int .u64 y2]] w fun e w' => e = .returned (.agg #[.bool (!b2), .int .u64 x2, .int .u64 y2]) ∧ Keep w w'))
    (T3 : Hid (∀ w, Calls Try.prog 68 #[.agg #[.bool b, .int .u64 x, .int .u64 y], .agg #[.bool (!b2), .int .u64 x2, .int .u64 y2]] w fun e w' => e = .returned (.tuple #[.agg #[.int .i64 X, .int .i64 Y], .int .i64 Z]) ∧ Keep w w')) :
    Calls Try.prog 47 #[.agg #[.int .i64 n, .int .i64 d], .agg #[.int .i64 n2, .int .i64 d2], .func (.func 48) #[] #[]] w fun e w' => e = .returned (.tuple #[.agg #[.int .i64 X, .int .i64 Y], .int .i64 Z]) ∧ Keep w w' := by
  go_enter Try.func47, Try.ntmps47
  go_wp2_with fail
  go_region_held3 (fun w' => w'.cell? ⟨w.heap.size, 0, none⟩ = some (.int .i64 n) ∧ w'.cell? ⟨w.heap.size, 1, none⟩ = some (.int .i64 d) ∧ w'.cell? ⟨w.heap.size + 1, 0, none⟩ = some (.int .i64 n2) ∧ w'.cell? ⟨w.heap.size + 1, 1, none⟩ = some (.int .i64 d2)) (simp [go_sem]) (first | (go_at_call 49; refine ((uq T1) _ _ _ _ _ (by assumption) _).mono ?_; rintro e w2 ⟨rfl, hk⟩; obtain ⟨o1, k1, rfl⟩ := hk.ext; clear hk) | (go_at_call 48; refine ((uq T2) _).mono ?_; rintro e w2 ⟨rfl, hk⟩; obtain ⟨o2, k2, rfl⟩ := hk.ext; clear hk) | (go_at_call 68; refine ((uq T3) _).mono ?_; rintro e w2 ⟨rfl, hk⟩; obtain ⟨o3, k3, rfl⟩ := hk.ext; clear hk))
  all_goals go_wp2_with fail
  all_goals exact bodyPost_ret (v := .tuple #[.agg #[.int .i64 X, .int .i64 Y], .int .i64 Z]) (by simp [results, Try.results47, go_sem]) rfl ⟨rfl, by repeat (first | apply keep_ext | apply Keep.alloc | apply Keep.drew | (refine keep_set _ _ _ (by omega) ?_) | assumption | exact Keep.refl _)⟩
set_option maxHeartbeats 400000 in
theorem sub_core (n d n2 d2 X Y Z : Int) (w : World) (T : Hid (∀ w, Calls Try.prog 47 #[.agg #[.int .i64 n, .int .i64 d], .agg #[.int .i64 n2, .int .i64 d2], .func (.func 48) #[] #[]] w fun e w' => e = .returned (.tuple #[.agg #[.int .i64 X, .int .i64 Y], .int .i64 Z]) ∧ Keep w w')) :
    Calls Try.prog 23 #[.agg #[.int .i64 n, .int .i64 d], .agg #[.int .i64 n2, .int .i64 d2]] w fun e w' => e = .returned (.tuple #[.agg #[.int .i64 X, .int .i64 Y], .int .i64 Z]) ∧ Keep w w' := by
  go_enter Try.func23, Try.ntmps23
  go_wp2_with fail
  (refine ((uq T) _).mono ?_; rintro e w2 ⟨rfl, hk⟩; obtain ⟨o1, k1, rfl⟩ := hk.ext; clear hk)
  go_wp2_with fail
  exact bodyPost_ret (v := .tuple #[.agg #[.int .i64 X, .int .i64 Y], .int .i64 Z]) (by simp [results, Try.results23, go_sem]) rfl ⟨rfl, by repeat (first | apply keep_ext | apply Keep.alloc | apply Keep.drew | (refine keep_set _ _ _ (by omega) ?_) | assumption | exact Keep.refl _)⟩

theorem cd_nat (n d : Int) (w : World) (h1 : -9223372036854775808 ≤ n) (h2 : n ≤ 9223372036854775807) (h3 : -9223372036854775808 ≤ d) (h4 : d ≤ 9223372036854775807) :
    ∃ u v : Nat, (u : Int) = (cn n d).natAbs ∧ (v : Int) = cd n d ∧ u ≤ 9223372036854775808 ∧ v ≤ 9223372036854775808 ∧ 0 < v ∧ Nat.gcd u v = 1 ∧ sgn (decide (cn n d < 0)) u = cn n d := by
  obtain ⟨r1, r2, r3, r4, r5⟩ := rt_counted n d h1 h2 h4
  refine ⟨(cn n d).natAbs, (cd n d).natAbs, rfl, by omega, by omega, by omega, by omega, r2, ?_⟩
  unfold sgn
  by_cases h : cn n d < 0
  · simp only [h, decide_true, if_true]; omega
  · simp only [h, decide_false, Bool.false_eq_true, if_false]; omega
theorem sgn_not (b : Bool) (u : Int) : sgn (!b) u = -sgn b u := by cases b <;> simp [sgn]
theorem fsub_any (n d n2 d2 : Int) (w : World) (h1 : -9223372036854775808 ≤ n) (h2 : n ≤ 9223372036854775807) (h3 : -9223372036854775808 ≤ d) (h4 : d ≤ 9223372036854775807) (k1 : -9223372036854775808 ≤ n2) (k2 : n2 ≤ 9223372036854775807) (k3 : -9223372036854775808 ≤ d2) (k4 : d2 ≤ 9223372036854775807) :
    Calls Try.prog 23 #[.agg #[.int .i64 n, .int .i64 d], .agg #[.int .i64 n2, .int .i64 d2]] w fun e w' => e = .returned (fv (rn (cn n d * cd n2 d2 + -cn n2 d2 * cd n d) (cd n d * cd n2 d2)) (rd (cn n d * cd n2 d2 + -cn n2 d2 * cd n d) (cd n d * cd n2 d2))) ∧ Keep w w' := by
  obtain ⟨u, v, e1, e2, u1, v1, v0, g, s⟩ := cd_nat n d w h1 h2 h3 h4
  obtain ⟨u', v', e1', e2', u1', v1', v0', g', s'⟩ := cd_nat n2 d2 w k1 k2 k3 k4
  have A := fun w => take_any n d w h1 h2 h3 h4
  have B := fun w => take_any n2 d2 w k1 k2 k3 k4
  rw [← e1, ← e2] at A
  rw [← e1', ← e2'] at B
  have P := fun w => fplus_any (decide (cn n d < 0)) (!decide (cn n2 d2 < 0)) u v u' v' w u1 v1 u1' v1' v0 v0' g g'
  rw [sgn_not, s, s', e2, e2'] at P
  rw [e2] at A
  rw [e2'] at B
  exact sub_core n d n2 d2 _ _ _ w (hide fun w => sum_sub n d n2 d2 _ _ _ _ _ _ _ _ _ w (fun n d b x y => ∀ w, Calls Try.prog 49 #[.agg #[.int .i64 n, .int .i64 d]] w fun e w' => e = .returned (.agg #[.bool b, .int .u64 x, .int .u64 y]) ∧ Keep w w') A B (hide fun n d b x y h => h) (hide fun w => fopposite_any _ _ _ w) (hide P))
end Go.Proofs.Ytjibbekojbaopaa

namespace Go.Proofs.Ytjibbekojbaopaa
open Go.RowKit
set_option linter.unusedVariables false
set_option maxRecDepth 10000
set_option maxHeartbeats 1000000 in
theorem cmp_core (n d n2 d2 x y x2 y2 v : Int) (w : World) (Cn : Int → Int → Int → Int → Prop) (K1 : Cn n d x y) (K2 : Cn n2 d2 x2 y2)
    (T1 : Hid (∀ (n d x y : Int), Cn n d x y → ∀ w, Calls Try.prog 45 #[.agg #[.int .i64 n, .int .i64 d]] w fun e w' => e = .returned (.agg #[.int .i64 x, .int .i64 y]) ∧ Keep w w'))
    (T2 : Hid (∀ w, Calls Try.prog 46 #[.int .i64 x, .int .i64 y2, .int .i64 x2, .int .i64 y] w fun e w' => e = .returned (.int .i64 v) ∧ Keep w w')) :
    Calls Try.prog 22 #[.agg #[.int .i64 n, .int .i64 d], .agg #[.int .i64 n2, .int .i64 d2]] w fun e w' => e = .returned (.int .i64 v) ∧ Keep w w' := by
  go_enter Try.func22, Try.ntmps22
  go_upto_region 1 with fail
  go_cut [] (fun wc => Keep ((w.alloc (.cells #[.int .i64 x, .int .i64 y] 23)).alloc (.cells #[.int .i64 x2, .int .i64 y2] 23)) wc)
  case first =>
    go_region_with (go_at_call 45; refine ((uq T1) _ _ _ _ (by assumption) _).mono ?_; rintro e w2 ⟨rfl, hk⟩; obtain ⟨o1, k1, rfl⟩ := hk.ext; clear hk)
    all_goals
      go_wp2_with fail
      go_meet
      exact by repeat (first | apply keep_ext | apply Keep.drew | exact Keep.refl _)
  case rest =>
    obtain ⟨o2, k2, rfl⟩ := hcut.ext
    clear hcut
    go_wp2_with fail
    (refine ((uq T2) _).mono ?_; rintro e w2 ⟨rfl, hk⟩; obtain ⟨o3, k3, rfl⟩ := hk.ext; clear hk)
    go_wp2_with fail
    go_ret
    exact ⟨rfl, by repeat (first | apply keep_ext | apply Keep.alloc | apply Keep.drew | (refine keep_set _ _ _ (by omega) ?_) | assumption | exact Keep.refl _)⟩
theorem fcmp_any (n d n2 d2 : Int) (w : World) (h1 : -9223372036854775808 ≤ n) (h2 : n ≤ 9223372036854775807) (h3 : -9223372036854775808 ≤ d) (h4 : d ≤ 9223372036854775807) (k1 : -9223372036854775808 ≤ n2) (k2 : n2 ≤ 9223372036854775807) (k3 : -9223372036854775808 ≤ d2) (k4 : d2 ≤ 9223372036854775807) :
    Calls Try.prog 22 #[.agg #[.int .i64 n, .int .i64 d], .agg #[.int .i64 n2, .int .i64 d2]] w fun e w' => e = .returned (.int .i64 (cm (cn n d * cd n2 d2) (cn n2 d2 * cd n d))) ∧ Keep w w' := by
  obtain ⟨r1, r2, r3, r4, r5⟩ := rt_counted n d h1 h2 h4
  obtain ⟨s1, s2, s3, s4, s5⟩ := rt_counted n2 d2 k1 k2 k4
  exact cmp_core n d n2 d2 _ _ _ _ _ w (fun n d x y => ∀ w, Calls Try.prog 45 #[.agg #[.int .i64 n, .int .i64 d]] w fun e w' => e = .returned (.agg #[.int .i64 x, .int .i64 y]) ∧ Keep w w')
    (fun w => counted_any n d w h1 h2 h3 h4) (fun w => counted_any n2 d2 w k1 k2 k3 k4) (hide fun n d x y h => h) (hide fun w => compare_any _ _ _ _ w r3 r4 (by omega) s5 s3 s4 (by omega) r5)
set_option maxHeartbeats 400000 in
theorem fceil_core (n d x y v e0 : Int) (w : World) (T1 : Hid (∀ w, Calls Try.prog 45 #[.agg #[.int .i64 n, .int .i64 d]] w fun e w' => e = .returned (.agg #[.int .i64 x, .int .i64 y]) ∧ Keep w w'))
    (T2 : Hid (∀ w, Calls Try.prog 31 #[.int .i64 x, .int .i64 y] w fun e w' => e = .returned (.tuple #[.int .i64 v, .int .i64 e0]) ∧ w' = w)) :
    Calls Try.prog 26 #[.agg #[.int .i64 n, .int .i64 d]] w fun e w' => e = .returned (.int .i64 v) ∧ Keep w w' := by
  go_enter Try.func26, Try.ntmps26
  go_wp2_with fail
  (refine ((uq T1) _).mono ?_; rintro e w2 ⟨rfl, hk⟩; obtain ⟨o1, k1, rfl⟩ := hk.ext; clear hk)
  go_wp2_with fail
  refine ((uq T2) _).mono ?_
  rintro e w2 ⟨rfl, rfl⟩
  go_wp2_with fail
  go_ret
  exact ⟨rfl, by repeat (first | apply keep_ext | apply Keep.alloc | apply Keep.drew | (refine keep_set _ _ _ (by omega) ?_) | assumption | exact Keep.refl _)⟩
theorem fceil_any (n d : Int) (w : World) (h1 : -9223372036854775808 ≤ n) (h2 : n ≤ 9223372036854775807) (h3 : -9223372036854775808 ≤ d) (h4 : d ≤ 9223372036854775807) :
    Calls Try.prog 26 #[.agg #[.int .i64 n, .int .i64 d]] w fun e w' => e = .returned (.int .i64 (ceA (cn n d) (cd n d))) ∧ Keep w w' := by
  obtain ⟨r1, r2, r3, r4, r5⟩ := rt_counted n d h1 h2 h4
  exact fceil_core n d _ _ _ _ w (hide fun w => counted_any n d w h1 h2 h3 h4) (hide fun w => ceil_any _ _ w r3 r4 (by omega) r5)

end Go.Proofs.Ytjibbekojbaopaa
