/- The document's answer for fractions: products, quotients, sums and differences as plain numbers. -/
import Derived.Test.YtdgmndjofbdgeaaRefL
import Derived.Test.YtdgmndjofbdgeaaRefN
import Derived.Test.YtdgmndjofbdgeaaFracP2
import Derived.Test.YtdgmndjofbdgeaaFracC
import Derived.Test.YtdgmndjofbdgeaaAllW
import Derived.Test.YtdgmndjofbdgeaaLMath
namespace Go.Proofs.Ytdgmndjofbdgeaa
open Go.RowKit
set_option linter.unusedVariables false
set_option maxRecDepth 10000
theorem mul_small {a b : Int} (h1 : a.natAbs < 1073741824) (h2 : b.natAbs < 1073741824) : -1152921504606846976 ≤ a * b ∧ a * b ≤ 1152921504606846976 := by
  have e := Int.natAbs_mul a b
  have m : a.natAbs * b.natAbs ≤ 1073741824 * 1073741824 := Nat.mul_le_mul (by omega) (by omega)
  generalize a.natAbs * b.natAbs = u at e m
  omega
theorem pos_mul {a b : Int} (h1 : 1 ≤ a) (h2 : 1 ≤ b) : 1 ≤ a * b := by
  have := Int.mul_pos (show 0 < a by omega) (show 0 < b by omega)
  omega
theorem few_yes {n d n2 d2 : Int} (h : fewB n d n2 d2 = true) : n.natAbs < 1073741824 ∧ n2.natAbs < 1073741824 ∧ d < 1073741824 ∧ d2 < 1073741824 := by simpa [fewB] using h
/-- the frame of a law's two fractions: what they count as, and the contracts that hang on it -/
theorem sgn_abs (x : Int) : sgn (decide (x < 0)) (x.natAbs : Int) = x := by
  unfold sgn
  by_cases h : x < 0
  · simp only [h, decide_true, if_true]; omega
  · simp only [h, decide_false, Bool.false_eq_true, if_false]; omega
theorem low_of {N D M : Int} {b : Bool} (h : sgn b N = M) : Low N D b (pN (rn M D) (rd M D)) (pD (rn M D) (rd M D)) (pE (rn M D) (rd M D)) := by
  unfold Low
  rw [h]
  exact ⟨rfl, rfl, rfl⟩
theorem add_same {x y x2 y2 : Int} {b : Bool} (h1 : decide (x < 0) = b) (h2 : decide (x2 < 0) = b) : sgn b ((x.natAbs : Int) * y2 + (x2.natAbs : Int) * y) = x * y2 + x2 * y := by
  have e1 := sgn_abs x
  have e2 := sgn_abs x2
  rw [h1] at e1
  rw [h2] at e2
  conv => rhs; rw [← e1, ← e2]
  unfold sgn
  cases b
  · rfl
  · simp only [if_true, Int.neg_mul]; omega
theorem add_diff {x y x2 y2 : Int} {b b2 : Bool} (h1 : decide (x < 0) = b) (h2 : decide (x2 < 0) = b2) (h : (b == b2) = false) : sgn b ((x.natAbs : Int) * y2 - (x2.natAbs : Int) * y) = x * y2 + x2 * y ∧ sgn b2 ((x2.natAbs : Int) * y - (x.natAbs : Int) * y2) = x * y2 + x2 * y := by
  have e1 := sgn_abs x
  have e2 := sgn_abs x2
  rw [h1] at e1
  rw [h2] at e2
  have e3 : x * y2 + x2 * y = sgn b (x.natAbs : Int) * y2 + sgn b2 (x2.natAbs : Int) * y := by rw [e1, e2]
  rw [e3]
  unfold sgn
  cases b <;> cases b2 <;> simp at h <;> simp only [if_true, Bool.false_eq_true, if_false, Int.neg_mul] <;> constructor <;> omega
theorem rfadd_any (n d n2 d2 : Int) (w : World) (h1 : -9223372036854775808 ≤ n) (h2 : n ≤ 9223372036854775807) (h3 : -9223372036854775808 ≤ d) (h4 : d ≤ 9223372036854775807) (k1 : -9223372036854775808 ≤ n2) (k2 : n2 ≤ 9223372036854775807) (k3 : -9223372036854775808 ≤ d2) (k4 : d2 ≤ 9223372036854775807) :
    Calls Try.prog 17 #[.agg #[.int .i64 n, .int .i64 d], .agg #[.int .i64 n2, .int .i64 d2]] w fun e w' => e = .returned (fv (rn (cn n d * cd n2 d2 + cn n2 d2 * cd n d) (cd n d * cd n2 d2)) (rd (cn n d * cd n2 d2 + cn n2 d2 * cd n d) (cd n d * cd n2 d2))) ∧ Keep w w' := by
  obtain ⟨r1, r2, r3, r4, r5⟩ := rt_counted n d h1 h2 h4
  obtain ⟨q1, q2, q3, q4, q5⟩ := rt_counted n2 d2 k1 k2 k4
  have A := fun w => norm_any n d w h1 h2 h3 h4
  have B := fun w => norm_any n2 d2 w k1 k2 k3 k4
  have FW := fun w => few_any (cn n d) (cd n d) (cn n2 d2) (cd n2 d2) w r3 r4 q3 q4
  generalize cn n d = x at *
  generalize cd n d = y at *
  generalize cn n2 d2 = x2 at *
  generalize cd n2 d2 = y2 at *
  have hyy := pos_mul r1 q1
  by_cases hf : fewB x y x2 y2 = true
  · rw [hf] at FW
    obtain ⟨f1, f2, f3, f4⟩ := few_yes hf
    have m1 := mul_small (a := x) (b := y2) f1 (by omega)
    have m2 := mul_small (a := x2) (b := y) f2 (by omega)
    have m3 := mul_small (a := y) (b := y2) (by omega) (by omega)
    have O := fun w => r2of_any (x * y2 + x2 * y) (y * y2) w (by omega) (by omega) (by omega) (by omega) (by omega)
    have e0 : decide (y * y2 < 0) = false := by simp; omega
    rw [e0, show sgn false (x * y2 + x2 * y) = x * y2 + x2 * y by simp [sgn], show (((y * y2).natAbs : Nat) : Int) = y * y2 by omega] at O
    exact radd2_few n d n2 d2 x y x2 y2 _ _ _ _ _ _ _ w (wrap_in (by omega)) (wrap_in (by omega)) (wrap_in (by omega)) (wrap_in (by omega)) (fun n d x y => ∀ w, Calls Try.prog 30 #[.agg #[.int .i64 n, .int .i64 d]] w fun e w' => e = .returned (.agg #[.int .i64 x, .int .i64 y]) ∧ Keep w w') A B (hide fun n d x y h => h) (hide FW) (hide O)
  · have hf' : fewB x y x2 y2 = false := by simpa using hf
    rw [hf'] at FW
    have s1 := fun w => rsize_any x w r3 r4
    have s2 := fun w => rsize_any x2 w q3 q4
    obtain ⟨b, hb⟩ : ∃ b, decide (x < 0) = b := ⟨_, rfl⟩
    obtain ⟨b2, hb2⟩ : ∃ b2, decide (x2 < 0) = b2 := ⟨_, rfl⟩
    by_cases hs : (b == b2) = true
    · have hbb : b = b2 := by simpa using hs
      exact radd2_same n d n2 d2 x y x2 y2 _ _ _ _ _ b b2 w hb hb2 hs (hide hyy) (by omega) (by omega) (by omega) (by omega) r1 (by omega) q1 (by omega) (by rw [IntKind.wrap_u64]; omega) (by rw [IntKind.wrap_u64]; omega) (fun n d x y => ∀ w, Calls Try.prog 30 #[.agg #[.int .i64 n, .int .i64 d]] w fun e w' => e = .returned (.agg #[.int .i64 x, .int .i64 y]) ∧ Keep w w') A B (hide fun n d x y h => h) (hide FW)
        (fun n x => ∀ w, Calls Try.prog 36 #[.int .i64 n] w fun e w' => e = .returned (.int .u64 x) ∧ w' = w) s1 s2 (hide fun n x h => h) (hide (low_of (add_same hb (by rw [hbb]; exact hb2))))
    · have hs' : (b == b2) = false := by simpa using hs
      obtain ⟨g1, g2⟩ := add_diff (y := y) (y2 := y2) hb hb2 hs'
      by_cases hge : (x2.natAbs : Int) * y ≤ (x.natAbs : Int) * y2
      · exact radd2_ge n d n2 d2 x y x2 y2 _ _ _ _ _ b b2 w hb hb2 hs' (hide hge) (hide hyy) (by omega) (by omega) (by omega) (by omega) r1 (by omega) q1 (by omega) (by rw [IntKind.wrap_u64]; omega) (by rw [IntKind.wrap_u64]; omega) (fun n d x y => ∀ w, Calls Try.prog 30 #[.agg #[.int .i64 n, .int .i64 d]] w fun e w' => e = .returned (.agg #[.int .i64 x, .int .i64 y]) ∧ Keep w w') A B (hide fun n d x y h => h) (hide FW)
          (fun n x => ∀ w, Calls Try.prog 36 #[.int .i64 n] w fun e w' => e = .returned (.int .u64 x) ∧ w' = w) s1 s2 (hide fun n x h => h) (hide (low_of g1))
      · exact radd2_lt n d n2 d2 x y x2 y2 _ _ _ _ _ b b2 w hb hb2 hs' (hide (Int.not_le.1 hge)) (hide hyy) (by omega) (by omega) (by omega) (by omega) r1 (by omega) q1 (by omega) (by rw [IntKind.wrap_u64]; omega) (by rw [IntKind.wrap_u64]; omega) (fun n d x y => ∀ w, Calls Try.prog 30 #[.agg #[.int .i64 n, .int .i64 d]] w fun e w' => e = .returned (.agg #[.int .i64 x, .int .i64 y]) ∧ Keep w w') A B (hide fun n d x y h => h) (hide FW)
          (fun n x => ∀ w, Calls Try.prog 36 #[.int .i64 n] w fun e w' => e = .returned (.int .u64 x) ∧ w' = w) s1 s2 (hide fun n x h => h) (hide (low_of g2))
end Go.Proofs.Ytdgmndjofbdgeaa

namespace Go.Proofs.Ytdgmndjofbdgeaa
open Go.RowKit
attribute [local go_sem ↓] Go.wp_at_zero Go.wp_at_succ
set_option linter.unusedVariables false
set_option linter.unusedSimpArgs false
set_option maxRecDepth 10000
theorem Ft.keep {w wr wc : World} {B : Nat} {x y : Int} (h : Ft w wr B x y) (hk : Keep wr wc) : Ft w wc B x y := by
  obtain ⟨h1, h2, h3, h4, h5, h6, h7, h8, h9, h10, h11, h12⟩ := h
  have hs := Below.size hk
  refine ⟨h1.trans hk, by omega, h3, by omega, ?_, ?_, ?_, ?_, ?_, ?_, ?_, ?_⟩
  · rw [Below.cell (p := ⟨B, 0, none⟩) hk h4]; exact h5
  · rw [Below.cell (p := ⟨B, 1, none⟩) hk h4]; exact h6
  · rw [Below.frozen (p := ⟨B, 0, none⟩) hk h4]; exact h7
  · rw [Below.frozen (p := ⟨B, 1, none⟩) hk h4]; exact h8
  · rw [Below.cell (p := ⟨w.heap.size, 0, none⟩) hk h2]; exact h9
  · rw [Below.cell (p := ⟨w.heap.size, 1, none⟩) hk h2]; exact h10
  · rw [Below.frozen (p := ⟨w.heap.size, 0, none⟩) hk h2]; exact h11
  · rw [Below.frozen (p := ⟨w.heap.size, 1, none⟩) hk h2]; exact h12
theorem Ft.set {w wc : World} {B : Nat} {x y : Int} (h : Ft w wc B x y) (ax ay : Int) : Ft w ((wc.setCell ⟨B, 0, none⟩ (.int .i64 ax)).setCell ⟨B, 1, none⟩ (.int .i64 ay)) B ax ay := by
  obtain ⟨h1, h2, h3, h4, h5, h6, h7, h8, h9, h10, h11, h12⟩ := h
  have ne1 : ¬ B = w.heap.size := by omega
  have ne2 : ¬ w.heap.size = B := by omega
  refine ⟨keep_setB _ _ _ h3 (keep_setB _ _ _ h3 h1), ?_, h3, ?_, ?_, ?_, ?_, ?_, ?_, ?_, ?_, ?_⟩
  all_goals simp [go_sem, h2, h4, h5, h6, h7, h8, h9, h10, h11, h12, ne1, ne2]
end Go.Proofs.Ytdgmndjofbdgeaa
