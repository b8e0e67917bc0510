/- The document's answer for fractions: products, quotients, sums and differences as plain numbers. -/
import Derived.Test.YtnegcifbbbmlnaaGreatDoorRefM
import Derived.Test.YtnegcifbbbmlnaaGreatDoorRefL
import Derived.Test.YtnegcifbbbmlnaaGreatDoorFracV
namespace Go.Proofs.YtnegcifbbbmlnaaGreatDoor
open Go.RowKit
set_option linter.unusedVariables false
set_option maxRecDepth 10000
theorem mul_small {a b : Int} (h1 : a.natAbs < 1073741824) (h2 : b.natAbs < 1073741824) : -1152921504606846976 ≤ a * b ∧ a * b ≤ 1152921504606846976 := by
  have e := Int.natAbs_mul a b
  have m : a.natAbs * b.natAbs ≤ 1073741824 * 1073741824 := Nat.mul_le_mul (by omega) (by omega)
  generalize a.natAbs * b.natAbs = u at e m
  omega
theorem pos_mul {a b : Int} (h1 : 1 ≤ a) (h2 : 1 ≤ b) : 1 ≤ a * b := by
  have := Int.mul_pos (show 0 < a by omega) (show 0 < b by omega)
  omega
theorem few_yes {n d n2 d2 : Int} (h : fewB n d n2 d2 = true) : n.natAbs < 1073741824 ∧ n2.natAbs < 1073741824 ∧ d < 1073741824 ∧ d2 < 1073741824 := by simpa [fewB] using h
/-- the frame of a law's two fractions: what they count as, and the contracts that hang on it -/
theorem sgn_abs (x : Int) : sgn (decide (x < 0)) (x.natAbs : Int) = x := by
  unfold sgn
  by_cases h : x < 0
  · simp only [h, decide_true, if_true]; omega
  · simp only [h, decide_false, Bool.false_eq_true, if_false]; omega
theorem rfmul_any (n d n2 d2 : Int) (w : World) (h1 : -9223372036854775808 ≤ n) (h2 : n ≤ 9223372036854775807) (h3 : -9223372036854775808 ≤ d) (h4 : d ≤ 9223372036854775807) (k1 : -9223372036854775808 ≤ n2) (k2 : n2 ≤ 9223372036854775807) (k3 : -9223372036854775808 ≤ d2) (k4 : d2 ≤ 9223372036854775807) :
    Calls Tryz.prog 26 #[.agg #[.int .i64 n, .int .i64 d], .agg #[.int .i64 n2, .int .i64 d2]] w fun e w' => e = .returned (fv (rn (cn n d * cn n2 d2) (cd n d * cd n2 d2)) (rd (cn n d * cn n2 d2) (cd n d * cd n2 d2))) ∧ Keep w w' := by
  obtain ⟨r1, r2, r3, r4, r5⟩ := rt_counted n d h1 h2 h4
  obtain ⟨q1, q2, q3, q4, q5⟩ := rt_counted n2 d2 k1 k2 k4
  have A := fun w => norm_any n d w h1 h2 h3 h4
  have B := fun w => norm_any n2 d2 w k1 k2 k3 k4
  have FW := fun w => few_any (cn n d) (cd n d) (cn n2 d2) (cd n2 d2) w r3 r4 q3 q4
  generalize cn n d = x at *
  generalize cd n d = y at *
  generalize cn n2 d2 = x2 at *
  generalize cd n2 d2 = y2 at *
  have hyy := pos_mul r1 q1
  by_cases hf : fewB x y x2 y2 = true
  · rw [hf] at FW
    obtain ⟨f1, f2, f3, f4⟩ := few_yes hf
    have m1 := mul_small f1 f2
    have m2 := mul_small (a := y) (b := y2) (by omega) (by omega)
    have O := fun w => r2of_any (x * x2) (y * y2) w (by omega) (by omega) (by omega) (by omega) (by omega)
    have e0 : decide (y * y2 < 0) = false := by simp; omega
    rw [e0, show sgn false (x * x2) = x * x2 by simp [sgn], show (((y * y2).natAbs : Nat) : Int) = y * y2 by omega] at O
    exact rmul2_few n d n2 d2 x y x2 y2 _ _ _ _ _ w (wrap_in (by omega)) (wrap_in (by omega)) (fun n d x y => ∀ w, Calls Tryz.prog 27 #[.agg #[.int .i64 n, .int .i64 d]] w fun e w' => e = .returned (.agg #[.int .i64 x, .int .i64 y]) ∧ Keep w w') A B (hide fun n d x y h => h) (hide FW) (hide O)
  · have hf' : fewB x y x2 y2 = false := by simpa using hf
    rw [hf'] at FW
    have s1 := fun w => rsize_any x w r3 r4
    have s2 := fun w => rsize_any x2 w q3 q4
    refine rmul2_big n d n2 d2 x y x2 y2 _ _ _ _ _ _ w rfl (hide hyy) (by omega) (by omega) (by omega) (by omega) r1 (by omega) q1 (by omega) (by rw [IntKind.wrap_u64]; omega) (by rw [IntKind.wrap_u64]; omega) (fun n d x y => ∀ w, Calls Tryz.prog 27 #[.agg #[.int .i64 n, .int .i64 d]] w fun e w' => e = .returned (.agg #[.int .i64 x, .int .i64 y]) ∧ Keep w w') A B (hide fun n d x y h => h) (hide FW)
      (fun n x => ∀ w, Calls Tryz.prog 31 #[.int .i64 n] w fun e w' => e = .returned (.int .u64 x) ∧ w' = w) s1 s2 (hide fun n x h => h) (hide ?_)
    have e : sgn (!(decide (x < 0) == decide (x2 < 0))) ((x.natAbs : Int) * x2.natAbs) = x * x2 := by rw [sgn_mul, sgn_abs, sgn_abs]
    unfold Low
    rw [e]
    exact ⟨rfl, rfl, rfl⟩
theorem rfdiv_zero (n d n2 d2 : Int) (w : World) (h1 : -9223372036854775808 ≤ n) (h2 : n ≤ 9223372036854775807) (h3 : -9223372036854775808 ≤ d) (h4 : d ≤ 9223372036854775807) (k1 : -9223372036854775808 ≤ n2) (k2 : n2 ≤ 9223372036854775807) (k3 : -9223372036854775808 ≤ d2) (k4 : d2 ≤ 9223372036854775807) (hz : cn n2 d2 = 0) :
    Calls Tryz.prog 16 #[.agg #[.int .i64 n, .int .i64 d], .agg #[.int .i64 n2, .int .i64 d2]] w fun e w' => e = .returned (.tuple #[.agg #[.int .i64 0, .int .i64 0], .int .i64 3]) ∧ Keep w w' := by
  have A := fun w => norm_any n d w h1 h2 h3 h4
  have B := fun w => norm_any n2 d2 w k1 k2 k3 k4
  rw [hz] at B
  exact rdiv2_zero n d n2 d2 _ _ _ w (fun n d x y => ∀ w, Calls Tryz.prog 27 #[.agg #[.int .i64 n, .int .i64 d]] w fun e w' => e = .returned (.agg #[.int .i64 x, .int .i64 y]) ∧ Keep w w') A B (hide fun n d x y h => h)
theorem rfdiv_any (n d n2 d2 : Int) (w : World) (h1 : -9223372036854775808 ≤ n) (h2 : n ≤ 9223372036854775807) (h3 : -9223372036854775808 ≤ d) (h4 : d ≤ 9223372036854775807) (k1 : -9223372036854775808 ≤ n2) (k2 : n2 ≤ 9223372036854775807) (k3 : -9223372036854775808 ≤ d2) (k4 : d2 ≤ 9223372036854775807) (hz : ¬ cn n2 d2 = 0) :
    Calls Tryz.prog 16 #[.agg #[.int .i64 n, .int .i64 d], .agg #[.int .i64 n2, .int .i64 d2]] w fun e w' => e = .returned (fv (rn (cn n d * sgn (decide (cn n2 d2 < 0)) (cd n2 d2)) (cd n d * ((cn n2 d2).natAbs : Int))) (rd (cn n d * sgn (decide (cn n2 d2 < 0)) (cd n2 d2)) (cd n d * ((cn n2 d2).natAbs : Int)))) ∧ Keep w w' := by
  obtain ⟨r1, r2, r3, r4, r5⟩ := rt_counted n d h1 h2 h4
  obtain ⟨q1, q2, q3, q4, q5⟩ := rt_counted n2 d2 k1 k2 k4
  have A := fun w => norm_any n d w h1 h2 h3 h4
  have B := fun w => norm_any n2 d2 w k1 k2 k3 k4
  have FW := fun w => few_any (cn n d) (cd n d) (cn n2 d2) (cd n2 d2) w r3 r4 q3 q4
  generalize cn n d = x at *
  generalize cd n d = y at *
  generalize cn n2 d2 = x2 at *
  generalize cd n2 d2 = y2 at *
  have hyu : 1 ≤ y * (x2.natAbs : Int) := pos_mul r1 (by omega)
  have hna : (((y * x2).natAbs : Nat) : Int) = y * (x2.natAbs : Int) := by rw [Int.natAbs_mul, Int.natCast_mul]; congr 1; omega
  by_cases hf : fewB x y x2 y2 = true
  · rw [hf] at FW
    obtain ⟨f1, f2, f3, f4⟩ := few_yes hf
    have m1 := mul_small (a := x) (b := y2) f1 (by omega)
    have m2 := mul_small (a := y) (b := x2) (by omega) f2
    have hd : decide (y * x2 < 0) = decide (x2 < 0) := by
      rw [decide_eq_decide]
      constructor
      · intro h
        rcases Int.lt_trichotomy x2 0 with g | g | g
        · exact g
        · omega
        · have := Int.mul_pos (show 0 < y by omega) g; omega
      · intro h
        have := Int.mul_neg_of_pos_of_neg (show 0 < y by omega) h; omega
    have O := fun w => r2of_any (x * y2) (y * x2) w (by omega) (by omega) (by omega) (by omega) (by omega)
    rw [hd, hna, show sgn (decide (x2 < 0)) (x * y2) = x * sgn (decide (x2 < 0)) y2 by unfold sgn; split <;> simp [Int.mul_neg]] at O
    exact rdiv2_few n d n2 d2 x y x2 y2 _ _ _ _ _ w hz (by simpa using hz) (wrap_in (by omega)) (wrap_in (by omega)) (fun n d x y => ∀ w, Calls Tryz.prog 27 #[.agg #[.int .i64 n, .int .i64 d]] w fun e w' => e = .returned (.agg #[.int .i64 x, .int .i64 y]) ∧ Keep w w') A B (hide fun n d x y h => h) (hide FW) (hide O)
  · have hf' : fewB x y x2 y2 = false := by simpa using hf
    rw [hf'] at FW
    have s1 := fun w => rsize_any x w r3 r4
    have s2 := fun w => rsize_any x2 w q3 q4
    refine rdiv2_big n d n2 d2 x y x2 y2 _ _ _ _ _ _ w hz (by simpa using hz) rfl (hide hyu) (by omega) (by omega) (by omega) (by omega) r1 (by omega) q1 (by omega) (by rw [IntKind.wrap_u64]; omega) (by rw [IntKind.wrap_u64]; omega) (fun n d x y => ∀ w, Calls Tryz.prog 27 #[.agg #[.int .i64 n, .int .i64 d]] w fun e w' => e = .returned (.agg #[.int .i64 x, .int .i64 y]) ∧ Keep w w') A B (hide fun n d x y h => h) (hide FW)
      (fun n x => ∀ w, Calls Tryz.prog 31 #[.int .i64 n] w fun e w' => e = .returned (.int .u64 x) ∧ w' = w) s1 s2 (hide fun n x h => h) (hide ?_)
    have e : sgn (!(decide (x < 0) == decide (x2 < 0))) ((x.natAbs : Int) * y2) = x * sgn (decide (x2 < 0)) y2 := by rw [sgn_mul, sgn_abs]
    unfold Low
    rw [e]
    exact ⟨rfl, rfl, rfl⟩
end Go.Proofs.YtnegcifbbbmlnaaGreatDoor
