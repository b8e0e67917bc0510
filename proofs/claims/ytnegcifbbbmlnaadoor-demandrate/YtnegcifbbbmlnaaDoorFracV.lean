/- Package frac: Mul, Div, Of: what they hand back. -/
import Derived.Test.YtnegcifbbbmlnaaDoorFracT
import Derived.Test.YtnegcifbbbmlnaaDoorFracP0
namespace Go.Proofs.YtnegcifbbbmlnaaDoor
open Go.RowKit
set_option linter.unusedVariables false
set_option maxRecDepth 10000
theorem cd_nat' (n d : Int) (h1 : -9223372036854775808 ≤ n) (h2 : n ≤ 9223372036854775807) (h3 : -9223372036854775808 ≤ d) (h4 : d ≤ 9223372036854775807) :
    ∃ u v : Nat, (u : Int) = (cn n d).natAbs ∧ (v : Int) = cd n d ∧ u ≤ 9223372036854775808 ∧ v ≤ 9223372036854775808 ∧ 0 < v ∧ Nat.gcd u v = 1 ∧ sgn (decide (cn n d < 0)) u = cn n d := by
  obtain ⟨r1, r2, r3, r4, r5⟩ := rt_counted n d h1 h2 h4
  refine ⟨(cn n d).natAbs, (cd n d).natAbs, rfl, by omega, by omega, by omega, by omega, r2, ?_⟩
  unfold sgn
  by_cases h : cn n d < 0
  · simp only [h, decide_true, if_true]; omega
  · simp only [h, decide_false, Bool.false_eq_true, if_false]; omega
theorem sgn_mul (b c : Bool) (u v : Int) : sgn (!(b == c)) (u * v) = sgn b u * sgn c v := by cases b <;> cases c <;> simp [sgn, Int.neg_mul, Int.mul_neg]
set_option maxHeartbeats 1000000 in
theorem mul_core (n d n2 d2 : Int) (b b2 : Bool) (x y x2 y2 X Y Z : Int) (w : World) (Tk : Int → Int → Bool → Int → Int → Prop) (K1 : Tk n d b x y) (K2 : Tk n2 d2 b2 x2 y2)
    (T1 : Hid (∀ (n d : Int) (b : Bool) (x y : Int), Tk n d b x y → ∀ w, Calls Tryd.prog 47 #[.agg #[.int .i64 n, .int .i64 d]] w fun e w' => e = .returned (.agg #[.bool b, .int .u64 x, .int .u64 y]) ∧ Keep w w'))
    (T3 : Hid (∀ w, Calls Tryd.prog 48 #[.agg #[.bool b, .int .u64 x, .int .u64 y], .agg #[.bool b2, .int .u64 x2, .int .u64 y2]] w fun e w' => e = .returned (.tuple #[.agg #[.int .i64 X, .int .i64 Y], .int .i64 Z]) ∧ Keep w w')) :
    Calls Tryd.prog 42 #[.agg #[.int .i64 n, .int .i64 d], .agg #[.int .i64 n2, .int .i64 d2]] w fun e w' => e = .returned (.tuple #[.agg #[.int .i64 X, .int .i64 Y], .int .i64 Z]) ∧ Keep w w' := by
  go_enter Tryd.func42, Tryd.ntmps42
  go_wp2_with fail
  go_region_held3 (fun w' => w'.cell? ⟨w.heap.size, 0, none⟩ = some (.int .i64 n) ∧ w'.cell? ⟨w.heap.size, 1, none⟩ = some (.int .i64 d) ∧ w'.cell? ⟨w.heap.size + 1, 0, none⟩ = some (.int .i64 n2) ∧ w'.cell? ⟨w.heap.size + 1, 1, none⟩ = some (.int .i64 d2)) (simp [go_sem]) (first | (go_at_call 47; refine ((unhide T1) _ _ _ _ _ (by assumption) _).mono ?_; rintro e w2 ⟨rfl, hk⟩; obtain ⟨o1, k1, rfl⟩ := hk.ext; clear hk) | (go_at_call 48; refine ((unhide T3) _).mono ?_; rintro e w2 ⟨rfl, hk⟩; obtain ⟨o3, k3, rfl⟩ := hk.ext; clear hk))
  all_goals go_wp2_with fail
  all_goals exact bodyPost_ret (v := .tuple #[.agg #[.int .i64 X, .int .i64 Y], .int .i64 Z]) (by simp [results, Tryd.results42, go_sem]) rfl ⟨rfl, by repeat (first | apply keep_ext | apply Keep.alloc | apply Keep.drew | exact Keep.refl _)⟩
theorem fmul_any (n d n2 d2 : Int) (w : World) (h1 : -9223372036854775808 ≤ n) (h2 : n ≤ 9223372036854775807) (h3 : -9223372036854775808 ≤ d) (h4 : d ≤ 9223372036854775807) (k1 : -9223372036854775808 ≤ n2) (k2 : n2 ≤ 9223372036854775807) (k3 : -9223372036854775808 ≤ d2) (k4 : d2 ≤ 9223372036854775807) :
    Calls Tryd.prog 42 #[.agg #[.int .i64 n, .int .i64 d], .agg #[.int .i64 n2, .int .i64 d2]] w fun e w' => e = .returned (fv (rn (cn n d * cn n2 d2) (cd n d * cd n2 d2)) (rd (cn n d * cn n2 d2) (cd n d * cd n2 d2))) ∧ Keep w w' := by
  obtain ⟨u, v, e1, e2, u1, v1, v0, g, s⟩ := cd_nat' n d h1 h2 h3 h4
  obtain ⟨u', v', e1', e2', u1', v1', v0', g', s'⟩ := cd_nat' n2 d2 k1 k2 k3 k4
  have A := fun w => take_any n d w h1 h2 h3 h4
  have B := fun w => take_any n2 d2 w k1 k2 k3 k4
  rw [← e1, ← e2] at A
  rw [← e1', ← e2'] at B
  have P := fun w => ftimes_any (decide (cn n d < 0)) (decide (cn n2 d2 < 0)) u v u' v' w u1 v1 u1' v1' v0 v0' g g'
  rw [sgn_mul, s, s', e2, e2'] at P
  rw [e2] at A
  rw [e2'] at B
  exact mul_core n d n2 d2 _ _ _ _ _ _ _ _ _ w (fun n d b x y => ∀ w, Calls Tryd.prog 47 #[.agg #[.int .i64 n, .int .i64 d]] w fun e w' => e = .returned (.agg #[.bool b, .int .u64 x, .int .u64 y]) ∧ Keep w w') A B (hide fun n d b x y h => h) (hide P)
set_option maxHeartbeats 1000000 in
theorem div_zero (n d n2 d2 : Int) (b2 : Bool) (y2 : Int) (w : World) 
    (T1 : Hid (∀ w, Calls Tryd.prog 47 #[.agg #[.int .i64 n2, .int .i64 d2]] w fun e w' => e = .returned (.agg #[.bool b2, .int .u64 0, .int .u64 y2]) ∧ Keep w w')) :
    Calls Tryd.prog 21 #[.agg #[.int .i64 n, .int .i64 d], .agg #[.int .i64 n2, .int .i64 d2]] w fun e w' => e = .returned (.tuple #[.agg #[.int .i64 0, .int .i64 0], .int .i64 3]) ∧ Keep w w' := by
  go_enter Tryd.func21, Tryd.ntmps21
  go_wp2_with fail
  (refine ((unhide T1) _).mono ?_; rintro e w2 ⟨rfl, hk⟩; obtain ⟨o1, k1, rfl⟩ := hk.ext; clear hk)
  go_wp2_with fail
  exact bodyPost_ret (v := .tuple #[.agg #[.int .i64 0, .int .i64 0], .int .i64 3]) (by simp [results, Tryd.results21, go_sem]) rfl ⟨rfl, by repeat (first | apply keep_ext | apply Keep.alloc | apply Keep.drew | exact Keep.refl _)⟩
set_option maxHeartbeats 2000000 in
theorem div_core (n d n2 d2 : Int) (b b2 : Bool) (x y x2 y2 X Y Z : Int) (w : World) (hx : ¬ x2 = 0) (Tk : Int → Int → Bool → Int → Int → Prop) (K1 : Tk n d b x y) (K2 : Tk n2 d2 b2 x2 y2)
    (T1 : Hid (∀ (n d : Int) (b : Bool) (x y : Int), Tk n d b x y → ∀ w, Calls Tryd.prog 47 #[.agg #[.int .i64 n, .int .i64 d]] w fun e w' => e = .returned (.agg #[.bool b, .int .u64 x, .int .u64 y]) ∧ Keep w w'))
    (T2 : Hid (∀ w, Calls Tryd.prog 49 #[.agg #[.bool b2, .int .u64 x2, .int .u64 y2]] w fun e w' => e = .returned (.agg #[.bool b2, .int .u64 y2, .int .u64 x2]) ∧ Keep w w'))
    (T3 : Hid (∀ w, Calls Tryd.prog 48 #[.agg #[.bool b, .int .u64 x, .int .u64 y], .agg #[.bool b2, .int .u64 y2, .int .u64 x2]] w fun e w' => e = .returned (.tuple #[.agg #[.int .i64 X, .int .i64 Y], .int .i64 Z]) ∧ Keep w w')) :
    Calls Tryd.prog 21 #[.agg #[.int .i64 n, .int .i64 d], .agg #[.int .i64 n2, .int .i64 d2]] w fun e w' => e = .returned (.tuple #[.agg #[.int .i64 X, .int .i64 Y], .int .i64 Z]) ∧ Keep w w' := by
  have hx' : (x2 == 0) = false := by simpa using hx
  go_enter Tryd.func21, Tryd.ntmps21
  go_wp2_with fail
  (refine ((unhide T1) _ _ _ _ _ (by assumption) _).mono ?_; rintro e w2 ⟨rfl, hk⟩; obtain ⟨o9, k9, rfl⟩ := hk.ext; clear hk)
  go_wp2_with fail
  go_region_held3 (fun w' => w'.cell? ⟨w.heap.size, 0, none⟩ = some (.int .i64 n) ∧ w'.cell? ⟨w.heap.size, 1, none⟩ = some (.int .i64 d) ∧ w'.cell? ⟨w.heap.size + 1 + 1 + 1 + o9.size, 0, none⟩ = some (.bool b2) ∧ w'.cell? ⟨w.heap.size + 1 + 1 + 1 + o9.size, 1, none⟩ = some (.int .u64 x2) ∧ w'.cell? ⟨w.heap.size + 1 + 1 + 1 + o9.size, 2, none⟩ = some (.int .u64 y2)) (simp [go_sem]) (first | (go_at_call 47; refine ((unhide T1) _ _ _ _ _ (by assumption) _).mono ?_; rintro e w2 ⟨rfl, hk⟩; obtain ⟨o1, k1, rfl⟩ := hk.ext; clear hk) | (go_at_call 49; refine ((unhide T2) _).mono ?_; rintro e w2 ⟨rfl, hk⟩; obtain ⟨o2, k2, rfl⟩ := hk.ext; clear hk) | (go_at_call 48; refine ((unhide T3) _).mono ?_; rintro e w2 ⟨rfl, hk⟩; obtain ⟨o3, k3, rfl⟩ := hk.ext; clear hk))
  all_goals go_wp2_with fail
  all_goals exact bodyPost_ret (v := .tuple #[.agg #[.int .i64 X, .int .i64 Y], .int .i64 Z]) (by simp [results, Tryd.results21, go_sem]) rfl ⟨rfl, by repeat (first | apply keep_ext | apply Keep.alloc | apply Keep.drew | exact Keep.refl _)⟩
theorem fdiv_zero (n d n2 d2 : Int) (w : World) (h1 : -9223372036854775808 ≤ n) (h2 : n ≤ 9223372036854775807) (h3 : -9223372036854775808 ≤ d) (h4 : d ≤ 9223372036854775807) (k1 : -9223372036854775808 ≤ n2) (k2 : n2 ≤ 9223372036854775807) (k3 : -9223372036854775808 ≤ d2) (k4 : d2 ≤ 9223372036854775807) (hz : cn n2 d2 = 0) :
    Calls Tryd.prog 21 #[.agg #[.int .i64 n, .int .i64 d], .agg #[.int .i64 n2, .int .i64 d2]] w fun e w' => e = .returned (.tuple #[.agg #[.int .i64 0, .int .i64 0], .int .i64 3]) ∧ Keep w w' := by
  refine div_zero n d n2 d2 (decide (cn n2 d2 < 0)) (cd n2 d2) w (hide fun w => ?_)
  · have B := take_any n2 d2 w k1 k2 k3 k4
    rw [show ((cn n2 d2).natAbs : Int) = 0 by omega] at B
    exact B
theorem fdiv_any (n d n2 d2 : Int) (w : World) (h1 : -9223372036854775808 ≤ n) (h2 : n ≤ 9223372036854775807) (h3 : -9223372036854775808 ≤ d) (h4 : d ≤ 9223372036854775807) (k1 : -9223372036854775808 ≤ n2) (k2 : n2 ≤ 9223372036854775807) (k3 : -9223372036854775808 ≤ d2) (k4 : d2 ≤ 9223372036854775807) (hz : ¬ cn n2 d2 = 0) :
    Calls Tryd.prog 21 #[.agg #[.int .i64 n, .int .i64 d], .agg #[.int .i64 n2, .int .i64 d2]] w fun e w' => e = .returned (fv (rn (cn n d * sgn (decide (cn n2 d2 < 0)) (cd n2 d2)) (cd n d * ((cn n2 d2).natAbs : Int))) (rd (cn n d * sgn (decide (cn n2 d2 < 0)) (cd n2 d2)) (cd n d * ((cn n2 d2).natAbs : Int)))) ∧ Keep w w' := by
  obtain ⟨u, v, e1, e2, u1, v1, v0, g, s⟩ := cd_nat' n d h1 h2 h3 h4
  obtain ⟨u', v', e1', e2', u1', v1', v0', g', s'⟩ := cd_nat' n2 d2 k1 k2 k3 k4
  have A := fun w => take_any n d w h1 h2 h3 h4
  have B := fun w => take_any n2 d2 w k1 k2 k3 k4
  rw [← e1, ← e2] at A
  rw [← e1', ← e2'] at B
  have P := fun w => ftimes_any (decide (cn n d < 0)) (decide (cn n2 d2 < 0)) u v v' u' w u1 v1 v1' u1' v0 (by omega) g (by rw [Nat.gcd_comm]; exact g')
  rw [sgn_mul, s, e2, e2', e1'] at P
  rw [e2] at A
  rw [e2', e1'] at B
  exact div_core n d n2 d2 _ _ _ _ _ _ _ _ _ w (by omega) (fun n d b x y => ∀ w, Calls Tryd.prog 47 #[.agg #[.int .i64 n, .int .i64 d]] w fun e w' => e = .returned (.agg #[.bool b, .int .u64 x, .int .u64 y]) ∧ Keep w w') A B (hide fun n d b x y h => h) (hide fun w => turned_any _ _ _ w) (hide P)
set_option maxHeartbeats 400000 in
theorem of_core (n d X Y Z : Int) (w : World) (T : Hid (∀ w, Calls Tryd.prog 21 #[.agg #[.int .i64 n, .int .i64 1], .agg #[.int .i64 d, .int .i64 1]] w fun e w' => e = .returned (.tuple #[.agg #[.int .i64 X, .int .i64 Y], .int .i64 Z]) ∧ Keep w w')) :
    Calls Tryd.prog 63 #[.int .i64 n, .int .i64 d] w fun e w' => e = .returned (.tuple #[.agg #[.int .i64 X, .int .i64 Y], .int .i64 Z]) ∧ Keep w w' := by
  go_enter Tryd.func63, Tryd.ntmps63
  go_wp2_with fail
  (refine ((unhide T) _).mono ?_; rintro e w2 ⟨rfl, hk⟩; obtain ⟨o1, k1, rfl⟩ := hk.ext; clear hk)
  go_wp2_with fail
  exact bodyPost_ret (v := .tuple #[.agg #[.int .i64 X, .int .i64 Y], .int .i64 Z]) (by simp [results, Tryd.results63, go_sem]) rfl ⟨rfl, by repeat (first | apply keep_ext | apply Keep.alloc | apply Keep.drew | exact Keep.refl _)⟩
theorem fof_zero (n : Int) (w : World) (h1 : -9223372036854775808 ≤ n) (h2 : n ≤ 9223372036854775807) :
    Calls Tryd.prog 63 #[.int .i64 n, .int .i64 0] w fun e w' => e = .returned (.tuple #[.agg #[.int .i64 0, .int .i64 0], .int .i64 3]) ∧ Keep w w' :=
  of_core n 0 _ _ _ w (hide fun w => fdiv_zero n 1 0 1 w h1 h2 (by omega) (by omega) (by omega) (by omega) (by omega) (by omega) (by decide))
theorem fof_any (n d : Int) (w : World) (h1 : -9223372036854775808 ≤ n) (h2 : n ≤ 9223372036854775807) (h3 : -9223372036854775808 ≤ d) (h4 : d ≤ 9223372036854775807) (hz : ¬ d = 0) :
    Calls Tryd.prog 63 #[.int .i64 n, .int .i64 d] w fun e w' => e = .returned (fv (rn (sgn (decide (d < 0)) n) (d.natAbs : Int)) (rd (sgn (decide (d < 0)) n) (d.natAbs : Int))) ∧ Keep w w' := by
  have r1 : Rt n 1 := ⟨by omega, by simp, h1, h2, by omega⟩
  have r2 : Rt d 1 := ⟨by omega, by simp, h3, h4, by omega⟩
  have D := fun w => fdiv_any n 1 d 1 w h1 h2 (by omega) (by omega) h3 h4 (by omega) (by omega) (by rw [r2.cn]; exact hz)
  rw [r1.cn, r1.cd, r2.cn, r2.cd, show n * sgn (decide (d < 0)) 1 = sgn (decide (d < 0)) n by unfold sgn; split <;> omega, Int.one_mul] at D
  exact of_core n d _ _ _ w (hide D)
end Go.Proofs.YtnegcifbbbmlnaaDoor
