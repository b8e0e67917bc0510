/- The document's answer for fractions: products, quotients, sums and differences as plain numbers. -/
import Derived.Test.YtjibbekojbaopaaRefM
import Derived.Test.YtjibbekojbaopaaRefN
import Derived.Test.YtjibbekojbaopaaFracV
namespace Go.Proofs.Ytjibbekojbaopaa
open Go.RowKit
set_option linter.unusedVariables false
set_option maxRecDepth 10000
theorem mul_small {a b : Int} (h1 : a.natAbs < 1073741824) (h2 : b.natAbs < 1073741824) : -1152921504606846976 ≤ a * b ∧ a * b ≤ 1152921504606846976 := by
  have e := Int.natAbs_mul a b
  have m : a.natAbs * b.natAbs ≤ 1073741824 * 1073741824 := Nat.mul_le_mul (by omega) (by omega)
  generalize a.natAbs * b.natAbs = u at e m
  omega
theorem pos_mul {a b : Int} (h1 : 1 ≤ a) (h2 : 1 ≤ b) : 1 ≤ a * b := by
  have := Int.mul_pos (show 0 < a by omega) (show 0 < b by omega)
  omega
theorem few_yes {n d n2 d2 : Int} (h : fewB n d n2 d2 = true) : n.natAbs < 1073741824 ∧ n2.natAbs < 1073741824 ∧ d < 1073741824 ∧ d2 < 1073741824 := by simpa [fewB] using h
/-- the frame of a law's two fractions: what they count as, and the contracts that hang on it -/
theorem sgn_abs (x : Int) : sgn (decide (x < 0)) (x.natAbs : Int) = x := by
  unfold sgn
  by_cases h : x < 0
  · simp only [h, decide_true, if_true]; omega
  · simp only [h, decide_false, Bool.false_eq_true, if_false]; omega
theorem rfmul_any (n d n2 d2 : Int) (w : World) (h1 : -9223372036854775808 ≤ n) (h2 : n ≤ 9223372036854775807) (h3 : -9223372036854775808 ≤ d) (h4 : d ≤ 9223372036854775807) (k1 : -9223372036854775808 ≤ n2) (k2 : n2 ≤ 9223372036854775807) (k3 : -9223372036854775808 ≤ d2) (k4 : d2 ≤ 9223372036854775807) :
    Calls Try.prog 18 #[.agg #[.int .i64 n, .int .i64 d], .agg #[.int .i64 n2, .int .i64 d2]] w fun e w' => e = .returned (fv (rn (cn n d * cn n2 d2) (cd n d * cd n2 d2)) (rd (cn n d * cn n2 d2) (cd n d * cd n2 d2))) ∧ Keep w w' := by
  obtain ⟨r1, r2, r3, r4, r5⟩ := rt_counted n d h1 h2 h4
  obtain ⟨q1, q2, q3, q4, q5⟩ := rt_counted n2 d2 k1 k2 k4
  have A := fun w => norm_any n d w h1 h2 h3 h4
  have B := fun w => norm_any n2 d2 w k1 k2 k3 k4
  have FW := fun w => few_any (cn n d) (cd n d) (cn n2 d2) (cd n2 d2) w r3 r4 q3 q4
  generalize cn n d = x at *
  generalize cd n d = y at *
  generalize cn n2 d2 = x2 at *
  generalize cd n2 d2 = y2 at *
  have hyy := pos_mul r1 q1
  by_cases hf : fewB x y x2 y2 = true
  · rw [hf] at FW
    obtain ⟨f1, f2, f3, f4⟩ := few_yes hf
    have m1 := mul_small f1 f2
    have m2 := mul_small (a := y) (b := y2) (by omega) (by omega)
    have O := fun w => r2of_any (x * x2) (y * y2) w (by omega) (by omega) (by omega) (by omega) (by omega)
    have e0 : decide (y * y2 < 0) = false := by simp; omega
    rw [e0, show sgn false (x * x2) = x * x2 by simp [sgn], show (((y * y2).natAbs : Nat) : Int) = y * y2 by omega] at O
    exact rmul2_few n d n2 d2 x y x2 y2 _ _ _ _ _ w (wrap_in (by omega)) (wrap_in (by omega)) (fun n d x y => ∀ w, Calls Try.prog 38 #[.agg #[.int .i64 n, .int .i64 d]] w fun e w' => e = .returned (.agg #[.int .i64 x, .int .i64 y]) ∧ Keep w w') A B (hide fun n d x y h => h) (hide FW) (hide O)
  · have hf' : fewB x y x2 y2 = false := by simpa using hf
    rw [hf'] at FW
    have s1 := fun w => rsize_any x w r3 r4
    have s2 := fun w => rsize_any x2 w q3 q4
    refine rmul2_big n d n2 d2 x y x2 y2 _ _ _ _ _ _ w rfl (hide hyy) (by omega) (by omega) (by omega) (by omega) r1 (by omega) q1 (by omega) (by rw [IntKind.wrap_u64]; omega) (by rw [IntKind.wrap_u64]; omega) (fun n d x y => ∀ w, Calls Try.prog 38 #[.agg #[.int .i64 n, .int .i64 d]] w fun e w' => e = .returned (.agg #[.int .i64 x, .int .i64 y]) ∧ Keep w w') A B (hide fun n d x y h => h) (hide FW)
      (fun n x => ∀ w, Calls Try.prog 35 #[.int .i64 n] w fun e w' => e = .returned (.int .u64 x) ∧ w' = w) s1 s2 (hide fun n x h => h) (hide ?_)
    have e : sgn (!(decide (x < 0) == decide (x2 < 0))) ((x.natAbs : Int) * x2.natAbs) = x * x2 := by rw [sgn_mul, sgn_abs, sgn_abs]
    unfold Low
    rw [e]
    exact ⟨rfl, rfl, rfl⟩
theorem rfdiv_any (n d n2 d2 : Int) (w : World) (h1 : -9223372036854775808 ≤ n) (h2 : n ≤ 9223372036854775807) (h3 : -9223372036854775808 ≤ d) (h4 : d ≤ 9223372036854775807) (k1 : -9223372036854775808 ≤ n2) (k2 : n2 ≤ 9223372036854775807) (k3 : -9223372036854775808 ≤ d2) (k4 : d2 ≤ 9223372036854775807) (hz : ¬ cn n2 d2 = 0) :
    Calls Try.prog 29 #[.agg #[.int .i64 n, .int .i64 d], .agg #[.int .i64 n2, .int .i64 d2]] w fun e w' => e = .returned (fv (rn (cn n d * sgn (decide (cn n2 d2 < 0)) (cd n2 d2)) (cd n d * ((cn n2 d2).natAbs : Int))) (rd (cn n d * sgn (decide (cn n2 d2 < 0)) (cd n2 d2)) (cd n d * ((cn n2 d2).natAbs : Int)))) ∧ Keep w w' := by
  obtain ⟨r1, r2, r3, r4, r5⟩ := rt_counted n d h1 h2 h4
  obtain ⟨q1, q2, q3, q4, q5⟩ := rt_counted n2 d2 k1 k2 k4
  have A := fun w => norm_any n d w h1 h2 h3 h4
  have B := fun w => norm_any n2 d2 w k1 k2 k3 k4
  have FW := fun w => few_any (cn n d) (cd n d) (cn n2 d2) (cd n2 d2) w r3 r4 q3 q4
  generalize cn n d = x at *
  generalize cd n d = y at *
  generalize cn n2 d2 = x2 at *
  generalize cd n2 d2 = y2 at *
  have hyu : 1 ≤ y * (x2.natAbs : Int) := pos_mul r1 (by omega)
  have hna : (((y * x2).natAbs : Nat) : Int) = y * (x2.natAbs : Int) := by rw [Int.natAbs_mul, Int.natCast_mul]; congr 1; omega
  by_cases hf : fewB x y x2 y2 = true
  · rw [hf] at FW
    obtain ⟨f1, f2, f3, f4⟩ := few_yes hf
    have m1 := mul_small (a := x) (b := y2) f1 (by omega)
    have m2 := mul_small (a := y) (b := x2) (by omega) f2
    have hd : decide (y * x2 < 0) = decide (x2 < 0) := by
      rw [decide_eq_decide]
      constructor
      · intro h
        rcases Int.lt_trichotomy x2 0 with g | g | g
        · exact g
        · omega
        · have := Int.mul_pos (show 0 < y by omega) g; omega
      · intro h
        have := Int.mul_neg_of_pos_of_neg (show 0 < y by omega) h; omega
    have O := fun w => r2of_any (x * y2) (y * x2) w (by omega) (by omega) (by omega) (by omega) (by omega)
    rw [hd, hna, show sgn (decide (x2 < 0)) (x * y2) = x * sgn (decide (x2 < 0)) y2 by unfold sgn; split <;> simp [Int.mul_neg]] at O
    exact rdiv2_few n d n2 d2 x y x2 y2 _ _ _ _ _ w hz (by simpa using hz) (wrap_in (by omega)) (wrap_in (by omega)) (fun n d x y => ∀ w, Calls Try.prog 38 #[.agg #[.int .i64 n, .int .i64 d]] w fun e w' => e = .returned (.agg #[.int .i64 x, .int .i64 y]) ∧ Keep w w') A B (hide fun n d x y h => h) (hide FW) (hide O)
  · have hf' : fewB x y x2 y2 = false := by simpa using hf
    rw [hf'] at FW
    have s1 := fun w => rsize_any x w r3 r4
    have s2 := fun w => rsize_any x2 w q3 q4
    refine rdiv2_big n d n2 d2 x y x2 y2 _ _ _ _ _ _ w hz (by simpa using hz) rfl (hide hyu) (by omega) (by omega) (by omega) (by omega) r1 (by omega) q1 (by omega) (by rw [IntKind.wrap_u64]; omega) (by rw [IntKind.wrap_u64]; omega) (fun n d x y => ∀ w, Calls Try.prog 38 #[.agg #[.int .i64 n, .int .i64 d]] w fun e w' => e = .returned (.agg #[.int .i64 x, .int .i64 y]) ∧ Keep w w') A B (hide fun n d x y h => h) (hide FW)
      (fun n x => ∀ w, Calls Try.prog 35 #[.int .i64 n] w fun e w' => e = .returned (.int .u64 x) ∧ w' = w) s1 s2 (hide fun n x h => h) (hide ?_)
    have e : sgn (!(decide (x < 0) == decide (x2 < 0))) ((x.natAbs : Int) * y2) = x * sgn (decide (x2 < 0)) y2 := by rw [sgn_mul, sgn_abs]
    unfold Low
    rw [e]
    exact ⟨rfl, rfl, rfl⟩
theorem low_of {N D M : Int} {b : Bool} (h : sgn b N = M) : Low N D b (pN (rn M D) (rd M D)) (pD (rn M D) (rd M D)) (pE (rn M D) (rd M D)) := by
  unfold Low
  rw [h]
  exact ⟨rfl, rfl, rfl⟩
theorem add_same {x y x2 y2 : Int} {b : Bool} (h1 : decide (x < 0) = b) (h2 : decide (x2 < 0) = b) : sgn b ((x.natAbs : Int) * y2 + (x2.natAbs : Int) * y) = x * y2 + x2 * y := by
  have e1 := sgn_abs x
  have e2 := sgn_abs x2
  rw [h1] at e1
  rw [h2] at e2
  conv => rhs; rw [← e1, ← e2]
  unfold sgn
  cases b
  · rfl
  · simp only [if_true, Int.neg_mul]; omega
theorem add_diff {x y x2 y2 : Int} {b b2 : Bool} (h1 : decide (x < 0) = b) (h2 : decide (x2 < 0) = b2) (h : (b == b2) = false) : sgn b ((x.natAbs : Int) * y2 - (x2.natAbs : Int) * y) = x * y2 + x2 * y ∧ sgn b2 ((x2.natAbs : Int) * y - (x.natAbs : Int) * y2) = x * y2 + x2 * y := by
  have e1 := sgn_abs x
  have e2 := sgn_abs x2
  rw [h1] at e1
  rw [h2] at e2
  have e3 : x * y2 + x2 * y = sgn b (x.natAbs : Int) * y2 + sgn b2 (x2.natAbs : Int) * y := by rw [e1, e2]
  rw [e3]
  unfold sgn
  cases b <;> cases b2 <;> simp at h <;> simp only [if_true, Bool.false_eq_true, if_false, Int.neg_mul] <;> constructor <;> omega
theorem rfadd_any (n d n2 d2 : Int) (w : World) (h1 : -9223372036854775808 ≤ n) (h2 : n ≤ 9223372036854775807) (h3 : -9223372036854775808 ≤ d) (h4 : d ≤ 9223372036854775807) (k1 : -9223372036854775808 ≤ n2) (k2 : n2 ≤ 9223372036854775807) (k3 : -9223372036854775808 ≤ d2) (k4 : d2 ≤ 9223372036854775807) :
    Calls Try.prog 53 #[.agg #[.int .i64 n, .int .i64 d], .agg #[.int .i64 n2, .int .i64 d2]] w fun e w' => e = .returned (fv (rn (cn n d * cd n2 d2 + cn n2 d2 * cd n d) (cd n d * cd n2 d2)) (rd (cn n d * cd n2 d2 + cn n2 d2 * cd n d) (cd n d * cd n2 d2))) ∧ Keep w w' := by
  obtain ⟨r1, r2, r3, r4, r5⟩ := rt_counted n d h1 h2 h4
  obtain ⟨q1, q2, q3, q4, q5⟩ := rt_counted n2 d2 k1 k2 k4
  have A := fun w => norm_any n d w h1 h2 h3 h4
  have B := fun w => norm_any n2 d2 w k1 k2 k3 k4
  have FW := fun w => few_any (cn n d) (cd n d) (cn n2 d2) (cd n2 d2) w r3 r4 q3 q4
  generalize cn n d = x at *
  generalize cd n d = y at *
  generalize cn n2 d2 = x2 at *
  generalize cd n2 d2 = y2 at *
  have hyy := pos_mul r1 q1
  by_cases hf : fewB x y x2 y2 = true
  · rw [hf] at FW
    obtain ⟨f1, f2, f3, f4⟩ := few_yes hf
    have m1 := mul_small (a := x) (b := y2) f1 (by omega)
    have m2 := mul_small (a := x2) (b := y) f2 (by omega)
    have m3 := mul_small (a := y) (b := y2) (by omega) (by omega)
    have O := fun w => r2of_any (x * y2 + x2 * y) (y * y2) w (by omega) (by omega) (by omega) (by omega) (by omega)
    have e0 : decide (y * y2 < 0) = false := by simp; omega
    rw [e0, show sgn false (x * y2 + x2 * y) = x * y2 + x2 * y by simp [sgn], show (((y * y2).natAbs : Nat) : Int) = y * y2 by omega] at O
    exact radd2_few n d n2 d2 x y x2 y2 _ _ _ _ _ _ _ w (wrap_in (by omega)) (wrap_in (by omega)) (wrap_in (by omega)) (wrap_in (by omega)) (fun n d x y => ∀ w, Calls Try.prog 38 #[.agg #[.int .i64 n, .int .i64 d]] w fun e w' => e = .returned (.agg #[.int .i64 x, .int .i64 y]) ∧ Keep w w') A B (hide fun n d x y h => h) (hide FW) (hide O)
  · have hf' : fewB x y x2 y2 = false := by simpa using hf
    rw [hf'] at FW
    have s1 := fun w => rsize_any x w r3 r4
    have s2 := fun w => rsize_any x2 w q3 q4
    obtain ⟨b, hb⟩ : ∃ b, decide (x < 0) = b := ⟨_, rfl⟩
    obtain ⟨b2, hb2⟩ : ∃ b2, decide (x2 < 0) = b2 := ⟨_, rfl⟩
    by_cases hs : (b == b2) = true
    · have hbb : b = b2 := by simpa using hs
      exact radd2_same n d n2 d2 x y x2 y2 _ _ _ _ _ b b2 w hb hb2 hs (hide hyy) (by omega) (by omega) (by omega) (by omega) r1 (by omega) q1 (by omega) (by rw [IntKind.wrap_u64]; omega) (by rw [IntKind.wrap_u64]; omega) (fun n d x y => ∀ w, Calls Try.prog 38 #[.agg #[.int .i64 n, .int .i64 d]] w fun e w' => e = .returned (.agg #[.int .i64 x, .int .i64 y]) ∧ Keep w w') A B (hide fun n d x y h => h) (hide FW)
        (fun n x => ∀ w, Calls Try.prog 35 #[.int .i64 n] w fun e w' => e = .returned (.int .u64 x) ∧ w' = w) s1 s2 (hide fun n x h => h) (hide (low_of (add_same hb (by rw [hbb]; exact hb2))))
    · have hs' : (b == b2) = false := by simpa using hs
      obtain ⟨g1, g2⟩ := add_diff (y := y) (y2 := y2) hb hb2 hs'
      by_cases hge : (x2.natAbs : Int) * y ≤ (x.natAbs : Int) * y2
      · exact radd2_ge n d n2 d2 x y x2 y2 _ _ _ _ _ b b2 w hb hb2 hs' (hide hge) (hide hyy) (by omega) (by omega) (by omega) (by omega) r1 (by omega) q1 (by omega) (by rw [IntKind.wrap_u64]; omega) (by rw [IntKind.wrap_u64]; omega) (fun n d x y => ∀ w, Calls Try.prog 38 #[.agg #[.int .i64 n, .int .i64 d]] w fun e w' => e = .returned (.agg #[.int .i64 x, .int .i64 y]) ∧ Keep w w') A B (hide fun n d x y h => h) (hide FW)
          (fun n x => ∀ w, Calls Try.prog 35 #[.int .i64 n] w fun e w' => e = .returned (.int .u64 x) ∧ w' = w) s1 s2 (hide fun n x h => h) (hide (low_of g1))
      · exact radd2_lt n d n2 d2 x y x2 y2 _ _ _ _ _ b b2 w hb hb2 hs' (hide (Int.not_le.1 hge)) (hide hyy) (by omega) (by omega) (by omega) (by omega) r1 (by omega) q1 (by omega) (by rw [IntKind.wrap_u64]; omega) (by rw [IntKind.wrap_u64]; omega) (fun n d x y => ∀ w, Calls Try.prog 38 #[.agg #[.int .i64 n, .int .i64 d]] w fun e w' => e = .returned (.agg #[.int .i64 x, .int .i64 y]) ∧ Keep w w') A B (hide fun n d x y h => h) (hide FW)
          (fun n x => ∀ w, Calls Try.prog 35 #[.int .i64 n] w fun e w' => e = .returned (.int .u64 x) ∧ w' = w) s1 s2 (hide fun n x h => h) (hide (low_of g2))
theorem rtwa_any (x y y2 : Int) (w : World) (r1 : 1 ≤ y) (r3 : -9223372036854775808 ≤ x) (r4 : x ≤ 9223372036854775807) (r5 : y ≤ 9223372036854775807) (q1 : 1 ≤ y2) (q5 : y2 ≤ 9223372036854775807) :
    Calls Try.prog 54 #[.agg #[.int .i64 x, .int .i64 y], .agg #[.int .i64 4611686018427387904, .int .i64 y2]] w fun e w' => e = .returned (fv (rn (x * y2 + 9223372036854775808 * y) (y * y2)) (rd (x * y2 + 9223372036854775808 * y) (y * y2))) ∧ Keep w w' := by
  have hyy := pos_mul r1 q1
  have s1 := fun w => rsize_any x w r3 r4
  have e2 : 2 * (4611686018427387904 * y) = 9223372036854775808 * y := by omega
  by_cases hx : 0 ≤ x
  · have e : sgn false ((x.natAbs : Int) * y2 + 2 * (4611686018427387904 * y)) = x * y2 + 9223372036854775808 * y := by
      rw [e2, show ((x.natAbs : Nat) : Int) = x by omega]; simp [sgn]
    exact rtwa_same x y 4611686018427387904 y2 _ _ _ _ w hx (hide hyy) (by omega) (by omega) (by omega) (by omega) (by decide) r1 (by omega) q1 (by omega) (by rw [IntKind.wrap_u64]; omega) (by rw [IntKind.wrap_u64]; omega)
      (fun n x => ∀ w, Calls Try.prog 35 #[.int .i64 n] w fun e w' => e = .returned (.int .u64 x) ∧ w' = w) s1 (hide fun n x h => h) (hide (low_of e))
  · have ex : (x.natAbs : Int) * y2 = -(x * y2) := by rw [show ((x.natAbs : Nat) : Int) = -x by omega, Int.neg_mul]
    by_cases hge : 2 * (4611686018427387904 * y) ≤ (x.natAbs : Int) * y2
    · have e : sgn true ((x.natAbs : Int) * y2 - 2 * (4611686018427387904 * y)) = x * y2 + 9223372036854775808 * y := by
        rw [ex, e2]; simp [sgn]; omega
      exact rtwa_ge x y 4611686018427387904 y2 _ _ _ _ w (by omega) (by simp; omega) (hide hge) (hide hyy) (by omega) (by omega) (by omega) (by omega) (by decide) r1 (by omega) q1 (by omega) (by rw [IntKind.wrap_u64]; omega) (by rw [IntKind.wrap_u64]; omega)
        (fun n x => ∀ w, Calls Try.prog 35 #[.int .i64 n] w fun e w' => e = .returned (.int .u64 x) ∧ w' = w) s1 (hide fun n x h => h) (hide (low_of e))
    · have e : sgn false (2 * (4611686018427387904 * y) - (x.natAbs : Int) * y2) = x * y2 + 9223372036854775808 * y := by
        rw [ex, e2]; simp [sgn]; omega
      exact rtwa_lt x y 4611686018427387904 y2 _ _ _ _ w (by omega) (by simp; omega) (hide (Int.not_le.1 hge)) (hide hyy) (by omega) (by omega) (by omega) (by omega) (by decide) r1 (by omega) q1 (by omega) (by rw [IntKind.wrap_u64]; omega) (by rw [IntKind.wrap_u64]; omega)
        (fun n x => ∀ w, Calls Try.prog 35 #[.int .i64 n] w fun e w' => e = .returned (.int .u64 x) ∧ w' = w) s1 (hide fun n x h => h) (hide (low_of e))
theorem rfsub_any (n d n2 d2 : Int) (w : World) (h1 : -9223372036854775808 ≤ n) (h2 : n ≤ 9223372036854775807) (h3 : -9223372036854775808 ≤ d) (h4 : d ≤ 9223372036854775807) (k1 : -9223372036854775808 ≤ n2) (k2 : n2 ≤ 9223372036854775807) (k3 : -9223372036854775808 ≤ d2) (k4 : d2 ≤ 9223372036854775807) :
    Calls Try.prog 28 #[.agg #[.int .i64 n, .int .i64 d], .agg #[.int .i64 n2, .int .i64 d2]] w fun e w' => e = .returned (fv (rn (cn n d * cd n2 d2 + -cn n2 d2 * cd n d) (cd n d * cd n2 d2)) (rd (cn n d * cd n2 d2 + -cn n2 d2 * cd n d) (cd n d * cd n2 d2))) ∧ Keep w w' := by
  obtain ⟨q1, q2, q3, q4, q5⟩ := rt_counted n2 d2 k1 k2 k4
  have B := fun w => norm_any n2 d2 w k1 k2 k3 k4
  have A := fun w => norm_any n d w h1 h2 h3 h4
  by_cases hm : cn n2 d2 = -9223372036854775808
  · obtain ⟨r1, r2, r3, r4, r5⟩ := rt_counted n d h1 h2 h4
    rw [hm] at B q2 ⊢
    generalize cn n d = x at *
    generalize cd n d = y at *
    generalize cd n2 d2 = y2 at *
    have hodd : ¬ y2 % 2 = 0 := by
      intro h
      have a1 : (2 : Int) ∣ y2 := Int.dvd_of_emod_eq_zero h
      have a2 : (2 : Int) ∣ -9223372036854775808 := ⟨-4611686018427387904, by decide⟩
      have a3 := Int.dvd_coe_gcd a2 a1
      rw [q2] at a3
      exact absurd a3 (by decide)
    have htm : y2.tmod 2 = y2 % 2 := Int.tmod_eq_emod_of_nonneg (by omega)
    have T := fun w => rtwa_any x y y2 w r1 r3 r4 r5 q1 q5
    rw [show -(-9223372036854775808 : Int) = 9223372036854775808 by decide]
    exact rsub2_no n d n2 d2 x y y2 _ _ _ w (by rw [htm]; simpa using hodd) (by simpa using hodd) (fun n d x y => ∀ w, Calls Try.prog 38 #[.agg #[.int .i64 n, .int .i64 d]] w fun e w' => e = .returned (.agg #[.int .i64 x, .int .i64 y]) ∧ Keep w w') A B (hide fun n d x y h => h) (hide fun w => rminus_no y2 w) (hide T)
  · have hr : Rt (-cn n2 d2) (cd n2 d2) := ⟨q1, by rw [Int.neg_gcd]; exact q2, by omega, by omega, q5⟩
    have AD := fun w => rfadd_any n d (-cn n2 d2) (cd n2 d2) w h1 h2 h3 h4 (by omega) (by omega) (by omega) q5
    rw [hr.cn, hr.cd] at AD
    exact rsub2_yes n d n2 d2 _ _ _ _ _ _ w (hide B) (hide fun w => rminus_yes _ _ _ w (by simpa using hm) (wrap_in (by omega))) (hide AD)
end Go.Proofs.Ytjibbekojbaopaa
