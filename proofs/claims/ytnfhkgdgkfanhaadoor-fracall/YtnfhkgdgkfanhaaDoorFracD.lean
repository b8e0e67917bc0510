/- Package frac: sum, Add, Sub: what they hand back. -/
import Derived.Test.YtnfhkgdgkfanhaaDoorFracS
namespace Go.Proofs.YtnfhkgdgkfanhaaDoor
open Go.RowKit
set_option linter.unusedVariables false
set_option maxRecDepth 10000
set_option maxHeartbeats 1000000 in
theorem sum_add (n d n2 d2 : Int) (b b2 : Bool) (x y x2 y2 X Y Z : Int) (w : World) (Tk : Int → Int → Bool → Int → Int → Prop) (K1 : Tk n d b x y) (K2 : Tk n2 d2 b2 x2 y2)
    (T1 : Hid (∀ (n d : Int) (b : Bool) (x y : Int), Tk n d b x y → ∀ w, Calls Tryd.prog 54 #[.agg #[.int .i64 n, .int .i64 d]] w fun e w' => e = .returned (.agg #[.bool b, .int .u64 x, .int .u64 y]) ∧ Keep w w'))
    (T2 : Hid (∀ w, Calls Tryd.prog 41 #[.agg #[.bool b2, .int .u64 x2, .int .u64 y2]] w fun e w' => e = .returned (.agg #[.bool b2, .int .u64 x2, .int .u64 y2]) ∧ Keep w w'))
    (T3 : Hid (∀ w, Calls Tryd.prog 68 #[.agg #[.bool b, .int .u64 x, .int .u64 y], .agg #[.bool b2, .int .u64 x2, .int .u64 y2]] w fun e w' => e = .returned (.tuple #[.agg #[.int .i64 X, .int .i64 Y], .int .i64 Z]) ∧ Keep w w')) :
    Calls Tryd.prog 40 #[.agg #[.int .i64 n, .int .i64 d], .agg #[.int .i64 n2, .int .i64 d2], .func (.func 41) #[] #[]] w fun e w' => e = .returned (.tuple #[.agg #[.int .i64 X, .int .i64 Y], .int .i64 Z]) ∧ Keep w w' := by
  go_enter Tryd.func40, Tryd.ntmps40
  go_wp2_with fail
  go_region_held3 (fun w' => w'.cell? ⟨w.heap.size, 0, none⟩ = some (.int .i64 n) ∧ w'.cell? ⟨w.heap.size, 1, none⟩ = some (.int .i64 d) ∧ w'.cell? ⟨w.heap.size + 1, 0, none⟩ = some (.int .i64 n2) ∧ w'.cell? ⟨w.heap.size + 1, 1, none⟩ = some (.int .i64 d2)) (simp [go_sem]) (first | (go_at_call 54; refine ((unhide T1) _ _ _ _ _ (by assumption) _).mono ?_; rintro e w2 ⟨rfl, hk⟩; obtain ⟨o1, k1, rfl⟩ := hk.ext; clear hk) | (go_at_call 41; refine ((unhide T2) _).mono ?_; rintro e w2 ⟨rfl, hk⟩; obtain ⟨o2, k2, rfl⟩ := hk.ext; clear hk) | (go_at_call 68; refine ((unhide T3) _).mono ?_; rintro e w2 ⟨rfl, hk⟩; obtain ⟨o3, k3, rfl⟩ := hk.ext; clear hk))
  all_goals go_wp2_with fail
  all_goals exact bodyPost_ret (v := .tuple #[.agg #[.int .i64 X, .int .i64 Y], .int .i64 Z]) (by simp [results, Tryd.results40, go_sem]) rfl ⟨rfl, by repeat (first | apply keep_ext | apply Keep.alloc | apply Keep.drew | (refine keep_set _ _ _ (by omega) ?_) | assumption | exact Keep.refl _)⟩
set_option maxHeartbeats 1000000 in
theorem sum_sub (n d n2 d2 : Int) (b b2 : Bool) (x y x2 y2 X Y Z : Int) (w : World) (Tk : Int → Int → Bool → Int → Int → Prop) (K1 : Tk n d b x y) (K2 : Tk n2 d2 b2 x2 y2)
    (T1 : Hid (∀ (n d : Int) (b : Bool) (x y : Int), Tk n d b x y → ∀ w, Calls Tryd.prog 54 #[.agg #[.int .i64 n, .int .i64 d]] w fun e w' => e = .returned (.agg #[.bool b, .int .u64 x, .int .u64 y]) ∧ Keep w w'))
    (T2 : Hid (∀ w, Calls Tryd.prog 50 #[.agg #[.bool b2, .int .u64 x2, .int .u64 y2]] w fun e w' => e = .returned (.agg #[.bool (!b2), .int .u64 x2, .int .u64 y2]) ∧ Keep w w'))
    (T3 : Hid (∀ w, Calls Tryd.prog 68 #[.agg #[.bool b, .int .u64 x, .int .u64 y], .agg #[.bool (!b2), .int .u64 x2, .int .u64 y2]] w fun e w' => e = .returned (.tuple #[.agg #[.int .i64 X, .int .i64 Y], .int .i64 Z]) ∧ Keep w w')) :
    Calls Tryd.prog 40 #[.agg #[.int .i64 n, .int .i64 d], .agg #[.int .i64 n2, .int .i64 d2], .func (.func 50) #[] #[]] w fun e w' => e = .returned (.tuple #[.agg #[.int .i64 X, .int .i64 Y], .int .i64 Z]) ∧ Keep w w' := by
  go_enter Tryd.func40, Tryd.ntmps40
  go_wp2_with fail
  go_region_held3 (fun w' => w'.cell? ⟨w.heap.size, 0, none⟩ = some (.int .i64 n) ∧ w'.cell? ⟨w.heap.size, 1, none⟩ = some (.int .i64 d) ∧ w'.cell? ⟨w.heap.size + 1, 0, none⟩ = some (.int .i64 n2) ∧ w'.cell? ⟨w.heap.size + 1, 1, none⟩ = some (.int .i64 d2)) (simp [go_sem]) (first | (go_at_call 54; refine ((unhide T1) _ _ _ _ _ (by assumption) _).mono ?_; rintro e w2 ⟨rfl, hk⟩; obtain ⟨o1, k1, rfl⟩ := hk.ext; clear hk) | (go_at_call 50; refine ((unhide T2) _).mono ?_; rintro e w2 ⟨rfl, hk⟩; obtain ⟨o2, k2, rfl⟩ := hk.ext; clear hk) | (go_at_call 68; refine ((unhide T3) _).mono ?_; rintro e w2 ⟨rfl, hk⟩; obtain ⟨o3, k3, rfl⟩ := hk.ext; clear hk))
  all_goals go_wp2_with fail
  all_goals exact bodyPost_ret (v := .tuple #[.agg #[.int .i64 X, .int .i64 Y], .int .i64 Z]) (by simp [results, Tryd.results40, go_sem]) rfl ⟨rfl, by repeat (first | apply keep_ext | apply Keep.alloc | apply Keep.drew | (refine keep_set _ _ _ (by omega) ?_) | assumption | exact Keep.refl _)⟩
set_option maxHeartbeats 400000 in
theorem add_core (n d n2 d2 X Y Z : Int) (w : World) (T : Hid (∀ w, Calls Tryd.prog 40 #[.agg #[.int .i64 n, .int .i64 d], .agg #[.int .i64 n2, .int .i64 d2], .func (.func 41) #[] #[]] w fun e w' => e = .returned (.tuple #[.agg #[.int .i64 X, .int .i64 Y], .int .i64 Z]) ∧ Keep w w')) :
    Calls Tryd.prog 15 #[.agg #[.int .i64 n, .int .i64 d], .agg #[.int .i64 n2, .int .i64 d2]] w fun e w' => e = .returned (.tuple #[.agg #[.int .i64 X, .int .i64 Y], .int .i64 Z]) ∧ Keep w w' := by
  go_enter Tryd.func15, Tryd.ntmps15
  go_wp2_with fail
  (refine ((unhide T) _).mono ?_; rintro e w2 ⟨rfl, hk⟩; obtain ⟨o1, k1, rfl⟩ := hk.ext; clear hk)
  go_wp2_with fail
  exact bodyPost_ret (v := .tuple #[.agg #[.int .i64 X, .int .i64 Y], .int .i64 Z]) (by simp [results, Tryd.results15, go_sem]) rfl ⟨rfl, by repeat (first | apply keep_ext | apply Keep.alloc | apply Keep.drew | (refine keep_set _ _ _ (by omega) ?_) | assumption | exact Keep.refl _)⟩
set_option maxHeartbeats 400000 in
theorem sub_core (n d n2 d2 X Y Z : Int) (w : World) (T : Hid (∀ w, Calls Tryd.prog 40 #[.agg #[.int .i64 n, .int .i64 d], .agg #[.int .i64 n2, .int .i64 d2], .func (.func 50) #[] #[]] w fun e w' => e = .returned (.tuple #[.agg #[.int .i64 X, .int .i64 Y], .int .i64 Z]) ∧ Keep w w')) :
    Calls Tryd.prog 17 #[.agg #[.int .i64 n, .int .i64 d], .agg #[.int .i64 n2, .int .i64 d2]] w fun e w' => e = .returned (.tuple #[.agg #[.int .i64 X, .int .i64 Y], .int .i64 Z]) ∧ Keep w w' := by
  go_enter Tryd.func17, Tryd.ntmps17
  go_wp2_with fail
  (refine ((unhide T) _).mono ?_; rintro e w2 ⟨rfl, hk⟩; obtain ⟨o1, k1, rfl⟩ := hk.ext; clear hk)
  go_wp2_with fail
  exact bodyPost_ret (v := .tuple #[.agg #[.int .i64 X, .int .i64 Y], .int .i64 Z]) (by simp [results, Tryd.results17, go_sem]) rfl ⟨rfl, by repeat (first | apply keep_ext | apply Keep.alloc | apply Keep.drew | (refine keep_set _ _ _ (by omega) ?_) | assumption | exact Keep.refl _)⟩

theorem cd_nat (n d : Int) (w : World) (h1 : -9223372036854775808 ≤ n) (h2 : n ≤ 9223372036854775807) (h3 : -9223372036854775808 ≤ d) (h4 : d ≤ 9223372036854775807) :
    ∃ u v : Nat, (u : Int) = (cn n d).natAbs ∧ (v : Int) = cd n d ∧ u ≤ 9223372036854775808 ∧ v ≤ 9223372036854775808 ∧ 0 < v ∧ Nat.gcd u v = 1 ∧ sgn (decide (cn n d < 0)) u = cn n d := by
  obtain ⟨r1, r2, r3, r4, r5⟩ := rt_counted n d h1 h2 h4
  refine ⟨(cn n d).natAbs, (cd n d).natAbs, rfl, by omega, by omega, by omega, by omega, r2, ?_⟩
  unfold sgn
  by_cases h : cn n d < 0
  · simp only [h, decide_true, if_true]; omega
  · simp only [h, decide_false, Bool.false_eq_true, if_false]; omega
theorem sgn_not (b : Bool) (u : Int) : sgn (!b) u = -sgn b u := by cases b <;> simp [sgn]
theorem fadd_any (n d n2 d2 : Int) (w : World) (h1 : -9223372036854775808 ≤ n) (h2 : n ≤ 9223372036854775807) (h3 : -9223372036854775808 ≤ d) (h4 : d ≤ 9223372036854775807) (k1 : -9223372036854775808 ≤ n2) (k2 : n2 ≤ 9223372036854775807) (k3 : -9223372036854775808 ≤ d2) (k4 : d2 ≤ 9223372036854775807) :
    Calls Tryd.prog 15 #[.agg #[.int .i64 n, .int .i64 d], .agg #[.int .i64 n2, .int .i64 d2]] w fun e w' => e = .returned (fv (rn (cn n d * cd n2 d2 + cn n2 d2 * cd n d) (cd n d * cd n2 d2)) (rd (cn n d * cd n2 d2 + cn n2 d2 * cd n d) (cd n d * cd n2 d2))) ∧ Keep w w' := by
  obtain ⟨u, v, e1, e2, u1, v1, v0, g, s⟩ := cd_nat n d w h1 h2 h3 h4
  obtain ⟨u', v', e1', e2', u1', v1', v0', g', s'⟩ := cd_nat n2 d2 w k1 k2 k3 k4
  have A := fun w => take_any n d w h1 h2 h3 h4
  have B := fun w => take_any n2 d2 w k1 k2 k3 k4
  rw [← e1, ← e2] at A
  rw [← e1', ← e2'] at B
  have P := fun w => fplus_any (decide (cn n d < 0)) (decide (cn n2 d2 < 0)) u v u' v' w u1 v1 u1' v1' v0 v0' g g'
  rw [s, s', e2, e2'] at P
  rw [e2] at A
  rw [e2'] at B
  exact add_core n d n2 d2 _ _ _ w (hide fun w => sum_add n d n2 d2 _ _ _ _ _ _ _ _ _ w (fun n d b x y => ∀ w, Calls Tryd.prog 54 #[.agg #[.int .i64 n, .int .i64 d]] w fun e w' => e = .returned (.agg #[.bool b, .int .u64 x, .int .u64 y]) ∧ Keep w w') A B (hide fun n d b x y h => h) (hide fun w => itself_any _ _ _ w) (hide P))
theorem fsub_any (n d n2 d2 : Int) (w : World) (h1 : -9223372036854775808 ≤ n) (h2 : n ≤ 9223372036854775807) (h3 : -9223372036854775808 ≤ d) (h4 : d ≤ 9223372036854775807) (k1 : -9223372036854775808 ≤ n2) (k2 : n2 ≤ 9223372036854775807) (k3 : -9223372036854775808 ≤ d2) (k4 : d2 ≤ 9223372036854775807) :
    Calls Tryd.prog 17 #[.agg #[.int .i64 n, .int .i64 d], .agg #[.int .i64 n2, .int .i64 d2]] w fun e w' => e = .returned (fv (rn (cn n d * cd n2 d2 + -cn n2 d2 * cd n d) (cd n d * cd n2 d2)) (rd (cn n d * cd n2 d2 + -cn n2 d2 * cd n d) (cd n d * cd n2 d2))) ∧ Keep w w' := by
  obtain ⟨u, v, e1, e2, u1, v1, v0, g, s⟩ := cd_nat n d w h1 h2 h3 h4
  obtain ⟨u', v', e1', e2', u1', v1', v0', g', s'⟩ := cd_nat n2 d2 w k1 k2 k3 k4
  have A := fun w => take_any n d w h1 h2 h3 h4
  have B := fun w => take_any n2 d2 w k1 k2 k3 k4
  rw [← e1, ← e2] at A
  rw [← e1', ← e2'] at B
  have P := fun w => fplus_any (decide (cn n d < 0)) (!decide (cn n2 d2 < 0)) u v u' v' w u1 v1 u1' v1' v0 v0' g g'
  rw [sgn_not, s, s', e2, e2'] at P
  rw [e2] at A
  rw [e2'] at B
  exact sub_core n d n2 d2 _ _ _ w (hide fun w => sum_sub n d n2 d2 _ _ _ _ _ _ _ _ _ w (fun n d b x y => ∀ w, Calls Tryd.prog 54 #[.agg #[.int .i64 n, .int .i64 d]] w fun e w' => e = .returned (.agg #[.bool b, .int .u64 x, .int .u64 y]) ∧ Keep w w') A B (hide fun n d b x y h => h) (hide fun w => fopposite_any _ _ _ w) (hide P))
end Go.Proofs.YtnfhkgdgkfanhaaDoor
