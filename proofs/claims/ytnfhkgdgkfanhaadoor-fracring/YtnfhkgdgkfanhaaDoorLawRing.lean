/- Proved: for every three fractions, right or not, sums and products may be taken in any order, a product of a sum is the sum of products, and a sum less one part is the other, where all of them fit. -/
import Derived.Test.YtnfhkgdgkfanhaaDoorCards
import Derived.Test.YtnfhkgdgkfanhaaDoorTie
import Derived.Test.YtnfhkgdgkfanhaaDoorAwake2
import Derived.Test.YtnfhkgdgkfanhaaDoorRingA
import Derived.Test.YtnfhkgdgkfanhaaDoorRingB
import Derived.Test.YtnfhkgdgkfanhaaDoorRingC
import Derived.WalkKit
import Derived.ProofKit
import Derived.OpenShut
import Derived.ShutString
import Derived.ChangeOld
import Derived.Below
import Derived.Lib.SmallJoins
import Derived.SevenTiedAt
import Derived.LaidHandle
import Derived.LaidLaws
import Derived.LaidMore
import Derived.LaidOnce
import Derived.JoinedOf
import Derived.Stop.Joined
namespace Go.Proofs.YtnfhkgdgkfanhaaDoor.ring
open Go.ChangeShapes Go.WideShapes Go.ChangeAt Go.RowKit Go.Joins
set_option linter.unusedVariables false
set_option maxRecDepth 10000
theorem pN_bd (n d : Int) : -9223372036854775808 ≤ pN n d ∧ pN n d ≤ 9223372036854775807 := by
  unfold pN
  by_cases h : (fit n && fit d) = true
  · rw [if_pos h]
    simp [fit] at h
    omega
  · rw [if_neg h]; omega
theorem pD_bd (n d : Int) : -9223372036854775808 ≤ pD n d ∧ pD n d ≤ 9223372036854775807 := by
  unfold pD
  by_cases h : (fit n && fit d) = true
  · rw [if_pos h]
    simp [fit] at h
    omega
  · rw [if_neg h]; omega
theorem ans_ok {N D : Int} (hD : 0 < D) (hz : pE (rn N D) (rd N D) = 0) : Fits N D (pN (rn N D) (rd N D)) (pD (rn N D) (rd N D)) ∧ Rt (pN (rn N D) (rd N D)) (pD (rn N D) (rd N D)) := by
  obtain ⟨s1, s2, s3⟩ := red_spec (N := N) hD
  have h : (fit (rn N D) && fit (rd N D)) = true := by
    unfold pE at hz
    by_cases h : (fit (rn N D) && fit (rd N D)) = true
    · exact h
    · rw [if_neg h] at hz; omega
  have e1 : pN (rn N D) (rd N D) = rn N D := by unfold pN; rw [if_pos h]
  have e2 : pD (rn N D) (rd N D) = rd N D := by unfold pD; rw [if_pos h]
  rw [e1, e2]
  simp only [Bool.and_eq_true, fit, decide_eq_true_eq] at h
  exact ⟨⟨rfl, rfl⟩, s1, s2, h.1.1, h.1.2, h.2.2⟩
theorem nb {z : Int} (h : ¬ z = 0) : (z == 0) = false := by simpa using h
theorem nc {z : Int} (h : ¬ z = 0) : (z != 0) = true := by simpa using h
theorem lsum_any (a0 b0 a1 b1 a2 b2 : Int) (w : World) (h0a : -9223372036854775808 ≤ a0) (h0b : a0 ≤ 9223372036854775807) (h0c : -9223372036854775808 ≤ b0) (h0d : b0 ≤ 9223372036854775807) (h1a : -9223372036854775808 ≤ a1) (h1b : a1 ≤ 9223372036854775807) (h1c : -9223372036854775808 ≤ b1) (h1d : b1 ≤ 9223372036854775807) (h2a : -9223372036854775808 ≤ a2) (h2b : a2 ≤ 9223372036854775807) (h2c : -9223372036854775808 ≤ b2) (h2d : b2 ≤ 9223372036854775807) :
    Calls Tryd.prog 35 #[.agg #[.int .i64 a0, .int .i64 b0, .int .i64 a1, .int .i64 b1, .int .i64 a2, .int .i64 b2], .func (.func 15) #[] #[]] w fun e w' => e = .returned (.bool true) ∧ Keep w w' := by
  have t0 := rt_counted a0 b0 h0a h0b h0d
  have t1 := rt_counted a1 b1 h1a h1b h1d
  have t2 := rt_counted a2 b2 h2a h2b h2d
  have A1 := fun w => fadd_any a0 b0 a1 b1 w h0a h0b h0c h0d h1a h1b h1c h1d
  have A3 := fun w => fadd_any a1 b1 a2 b2 w h1a h1b h1c h1d h2a h2b h2c h2d
  have A5 := fun w => fadd_any a1 b1 a0 b0 w h1a h1b h1c h1d h0a h0b h0c h0d
  have B2 := fun X Y (hx : -9223372036854775808 ≤ X ∧ X ≤ 9223372036854775807) (hy : -9223372036854775808 ≤ Y ∧ Y ≤ 9223372036854775807) w => fadd_any X Y a2 b2 w hx.1 hx.2 hy.1 hy.2 h2a h2b h2c h2d
  have B4 := fun X Y (hx : -9223372036854775808 ≤ X ∧ X ≤ 9223372036854775807) (hy : -9223372036854775808 ≤ Y ∧ Y ≤ 9223372036854775807) w => fadd_any a0 b0 X Y w h0a h0b h0c h0d hx.1 hx.2 hy.1 hy.2
  generalize cn a0 b0 = p0 at *
  generalize cd a0 b0 = q0 at *
  generalize cn a1 b1 = p1 at *
  generalize cd a1 b1 = q1 at *
  generalize cn a2 b2 = p2 at *
  generalize cd a2 b2 = q2 at *
  have g0 : 0 < q0 := by have := t0.1; omega
  have g1 : 0 < q1 := by have := t1.1; omega
  have g2 : 0 < q2 := by have := t2.1; omega
  have d01 := Int.mul_pos g0 g1
  have d12 := Int.mul_pos g1 g2
  have A2 := B2 _ _ (pN_bd (rn (p0 * q1 + p1 * q0) (q0 * q1)) (rd (p0 * q1 + p1 * q0) (q0 * q1))) (pD_bd (rn (p0 * q1 + p1 * q0) (q0 * q1)) (rd (p0 * q1 + p1 * q0) (q0 * q1)))
  have A4 := B4 _ _ (pN_bd (rn (p1 * q2 + p2 * q1) (q1 * q2)) (rd (p1 * q2 + p2 * q1) (q1 * q2))) (pD_bd (rn (p1 * q2 + p2 * q1) (q1 * q2)) (rd (p1 * q2 + p2 * q1) (q1 * q2)))
  have o1 := ans_ok (N := p0 * q1 + p1 * q0) d01
  have o3 := ans_ok (N := p1 * q2 + p2 * q1) d12
  have o5 := ans_ok (N := p1 * q0 + p0 * q1) (Int.mul_pos g1 g0)
  have c5 := sum_comm (p0 := p0) (q0 := q0) (p1 := p1) (q1 := q1) (X1 := rn (p0 * q1 + p1 * q0) (q0 * q1)) (Y1 := rd (p0 * q1 + p1 * q0) (q0 * q1)) ⟨rfl, rfl⟩ ⟨rfl, rfl⟩
  rw [c5.1, c5.2] at A5
  clear B2 B4 o5 c5
  unfold fv at A1 A2 A3 A4 A5
  generalize pN (rn (p0 * q1 + p1 * q0) (q0 * q1)) (rd (p0 * q1 + p1 * q0) (q0 * q1)) = X1 at *
  generalize pD (rn (p0 * q1 + p1 * q0) (q0 * q1)) (rd (p0 * q1 + p1 * q0) (q0 * q1)) = Y1 at *
  generalize pE (rn (p0 * q1 + p1 * q0) (q0 * q1)) (rd (p0 * q1 + p1 * q0) (q0 * q1)) = Z1 at *
  generalize pN (rn (p1 * q2 + p2 * q1) (q1 * q2)) (rd (p1 * q2 + p2 * q1) (q1 * q2)) = X3 at *
  generalize pD (rn (p1 * q2 + p2 * q1) (q1 * q2)) (rd (p1 * q2 + p2 * q1) (q1 * q2)) = Y3 at *
  generalize pE (rn (p1 * q2 + p2 * q1) (q1 * q2)) (rd (p1 * q2 + p2 * q1) (q1 * q2)) = Z3 at *
  by_cases z1 : Z1 = 0
  · subst z1
    obtain ⟨f1, u1⟩ := o1 rfl
    rw [u1.cn, u1.cd] at A2
    have o2 := ans_ok (N := X1 * q2 + p2 * Y1) (Int.mul_pos (show 0 < Y1 by have := u1.1; omega) g2)
    generalize pN (rn (X1 * q2 + p2 * Y1) (Y1 * q2)) (rd (X1 * q2 + p2 * Y1) (Y1 * q2)) = X2 at *
    generalize pD (rn (X1 * q2 + p2 * Y1) (Y1 * q2)) (rd (X1 * q2 + p2 * Y1) (Y1 * q2)) = Y2 at *
    generalize pE (rn (X1 * q2 + p2 * Y1) (Y1 * q2)) (rd (X1 * q2 + p2 * Y1) (Y1 * q2)) = Z2 at *
    by_cases z2 : Z2 = 0
    · subst z2
      obtain ⟨f2, u2⟩ := o2 rfl
      by_cases z3 : Z3 = 0
      · subst z3
        obtain ⟨f3, u3⟩ := o3 rfl
        rw [u3.cn, u3.cd] at A4
        have o4 := ans_ok (N := p0 * Y3 + X3 * q0) (Int.mul_pos g0 (show 0 < Y3 by have := u3.1; omega))
        generalize pN (rn (p0 * Y3 + X3 * q0) (q0 * Y3)) (rd (p0 * Y3 + X3 * q0) (q0 * Y3)) = X4 at *
        generalize pD (rn (p0 * Y3 + X3 * q0) (q0 * Y3)) (rd (p0 * Y3 + X3 * q0) (q0 * Y3)) = Y4 at *
        generalize pE (rn (p0 * Y3 + X3 * q0) (q0 * Y3)) (rd (p0 * Y3 + X3 * q0) (q0 * Y3)) = Z4 at *
        by_cases z4 : Z4 = 0
        · subst z4
          obtain ⟨f4, u4⟩ := o4 rfl
          obtain ⟨q5, q6⟩ := sum_assoc g0 g1 g2 f1 f2 f3 f4
          rw [← q5, ← q6] at A4
          exact lsum_5 a0 b0 a1 b1 a2 b2 X1 Y1 X2 Y2 X3 Y3 w (fun n d n2 d2 X Y Z => ∀ w, Calls Tryd.prog 15 #[.agg #[.int .i64 n, .int .i64 d], .agg #[.int .i64 n2, .int .i64 d2]] w fun e w' => e = .returned (.tuple #[.agg #[.int .i64 X, .int .i64 Y], .int .i64 Z]) ∧ Keep w w') A1 A2 A3 A4 A5 (hide fun n d n2 d2 X Y Z h => h)
        · exact lsum_4 a0 b0 a1 b1 a2 b2 X1 Y1 X2 Y2 X3 Y3 X4 Y4 Z4 w z4 (nb z4) (nc z4) (fun n d n2 d2 X Y Z => ∀ w, Calls Tryd.prog 15 #[.agg #[.int .i64 n, .int .i64 d], .agg #[.int .i64 n2, .int .i64 d2]] w fun e w' => e = .returned (.tuple #[.agg #[.int .i64 X, .int .i64 Y], .int .i64 Z]) ∧ Keep w w') A1 A2 A3 A4 (hide fun n d n2 d2 X Y Z h => h)
      · exact lsum_3 a0 b0 a1 b1 a2 b2 X1 Y1 X2 Y2 X3 Y3 _ _ Z3 _ w z3 (nb z3) (nc z3) (fun n d n2 d2 X Y Z => ∀ w, Calls Tryd.prog 15 #[.agg #[.int .i64 n, .int .i64 d], .agg #[.int .i64 n2, .int .i64 d2]] w fun e w' => e = .returned (.tuple #[.agg #[.int .i64 X, .int .i64 Y], .int .i64 Z]) ∧ Keep w w') A1 A2 A3 A4 (hide fun n d n2 d2 X Y Z h => h)
    · exact lsum_2 a0 b0 a1 b1 a2 b2 X1 Y1 X2 Y2 X3 Y3 _ _ Z2 Z3 _ w z2 (nb z2) (nc z2) (fun n d n2 d2 X Y Z => ∀ w, Calls Tryd.prog 15 #[.agg #[.int .i64 n, .int .i64 d], .agg #[.int .i64 n2, .int .i64 d2]] w fun e w' => e = .returned (.tuple #[.agg #[.int .i64 X, .int .i64 Y], .int .i64 Z]) ∧ Keep w w') A1 A2 A3 A4 (hide fun n d n2 d2 X Y Z h => h)
  · exact lsum_1 a0 b0 a1 b1 a2 b2 X1 Y1 _ _ X3 Y3 _ _ Z1 _ Z3 _ w z1 (nb z1) (nc z1) (fun n d n2 d2 X Y Z => ∀ w, Calls Tryd.prog 15 #[.agg #[.int .i64 n, .int .i64 d], .agg #[.int .i64 n2, .int .i64 d2]] w fun e w' => e = .returned (.tuple #[.agg #[.int .i64 X, .int .i64 Y], .int .i64 Z]) ∧ Keep w w') A1 A2 A3 A4 (hide fun n d n2 d2 X Y Z h => h)
theorem lprod_any (a0 b0 a1 b1 a2 b2 : Int) (w : World) (h0a : -9223372036854775808 ≤ a0) (h0b : a0 ≤ 9223372036854775807) (h0c : -9223372036854775808 ≤ b0) (h0d : b0 ≤ 9223372036854775807) (h1a : -9223372036854775808 ≤ a1) (h1b : a1 ≤ 9223372036854775807) (h1c : -9223372036854775808 ≤ b1) (h1d : b1 ≤ 9223372036854775807) (h2a : -9223372036854775808 ≤ a2) (h2b : a2 ≤ 9223372036854775807) (h2c : -9223372036854775808 ≤ b2) (h2d : b2 ≤ 9223372036854775807) :
    Calls Tryd.prog 35 #[.agg #[.int .i64 a0, .int .i64 b0, .int .i64 a1, .int .i64 b1, .int .i64 a2, .int .i64 b2], .func (.func 19) #[] #[]] w fun e w' => e = .returned (.bool true) ∧ Keep w w' := by
  have t0 := rt_counted a0 b0 h0a h0b h0d
  have t1 := rt_counted a1 b1 h1a h1b h1d
  have t2 := rt_counted a2 b2 h2a h2b h2d
  have A1 := fun w => fmul_any a0 b0 a1 b1 w h0a h0b h0c h0d h1a h1b h1c h1d
  have A3 := fun w => fmul_any a1 b1 a2 b2 w h1a h1b h1c h1d h2a h2b h2c h2d
  have A5 := fun w => fmul_any a1 b1 a0 b0 w h1a h1b h1c h1d h0a h0b h0c h0d
  have B2 := fun X Y (hx : -9223372036854775808 ≤ X ∧ X ≤ 9223372036854775807) (hy : -9223372036854775808 ≤ Y ∧ Y ≤ 9223372036854775807) w => fmul_any X Y a2 b2 w hx.1 hx.2 hy.1 hy.2 h2a h2b h2c h2d
  have B4 := fun X Y (hx : -9223372036854775808 ≤ X ∧ X ≤ 9223372036854775807) (hy : -9223372036854775808 ≤ Y ∧ Y ≤ 9223372036854775807) w => fmul_any a0 b0 X Y w h0a h0b h0c h0d hx.1 hx.2 hy.1 hy.2
  generalize cn a0 b0 = p0 at *
  generalize cd a0 b0 = q0 at *
  generalize cn a1 b1 = p1 at *
  generalize cd a1 b1 = q1 at *
  generalize cn a2 b2 = p2 at *
  generalize cd a2 b2 = q2 at *
  have g0 : 0 < q0 := by have := t0.1; omega
  have g1 : 0 < q1 := by have := t1.1; omega
  have g2 : 0 < q2 := by have := t2.1; omega
  have d01 := Int.mul_pos g0 g1
  have d12 := Int.mul_pos g1 g2
  have A2 := B2 _ _ (pN_bd (rn (p0 * p1) (q0 * q1)) (rd (p0 * p1) (q0 * q1))) (pD_bd (rn (p0 * p1) (q0 * q1)) (rd (p0 * p1) (q0 * q1)))
  have A4 := B4 _ _ (pN_bd (rn (p1 * p2) (q1 * q2)) (rd (p1 * p2) (q1 * q2))) (pD_bd (rn (p1 * p2) (q1 * q2)) (rd (p1 * p2) (q1 * q2)))
  have o1 := ans_ok (N := p0 * p1) d01
  have o3 := ans_ok (N := p1 * p2) d12
  have o5 := ans_ok (N := p1 * p0) (Int.mul_pos g1 g0)
  have c5 := prod_comm (p0 := p0) (q0 := q0) (p1 := p1) (q1 := q1) (X1 := rn (p0 * p1) (q0 * q1)) (Y1 := rd (p0 * p1) (q0 * q1)) ⟨rfl, rfl⟩ ⟨rfl, rfl⟩
  rw [c5.1, c5.2] at A5
  clear B2 B4 o5 c5
  unfold fv at A1 A2 A3 A4 A5
  generalize pN (rn (p0 * p1) (q0 * q1)) (rd (p0 * p1) (q0 * q1)) = X1 at *
  generalize pD (rn (p0 * p1) (q0 * q1)) (rd (p0 * p1) (q0 * q1)) = Y1 at *
  generalize pE (rn (p0 * p1) (q0 * q1)) (rd (p0 * p1) (q0 * q1)) = Z1 at *
  generalize pN (rn (p1 * p2) (q1 * q2)) (rd (p1 * p2) (q1 * q2)) = X3 at *
  generalize pD (rn (p1 * p2) (q1 * q2)) (rd (p1 * p2) (q1 * q2)) = Y3 at *
  generalize pE (rn (p1 * p2) (q1 * q2)) (rd (p1 * p2) (q1 * q2)) = Z3 at *
  by_cases z1 : Z1 = 0
  · subst z1
    obtain ⟨f1, u1⟩ := o1 rfl
    rw [u1.cn, u1.cd] at A2
    have o2 := ans_ok (N := X1 * p2) (Int.mul_pos (show 0 < Y1 by have := u1.1; omega) g2)
    generalize pN (rn (X1 * p2) (Y1 * q2)) (rd (X1 * p2) (Y1 * q2)) = X2 at *
    generalize pD (rn (X1 * p2) (Y1 * q2)) (rd (X1 * p2) (Y1 * q2)) = Y2 at *
    generalize pE (rn (X1 * p2) (Y1 * q2)) (rd (X1 * p2) (Y1 * q2)) = Z2 at *
    by_cases z2 : Z2 = 0
    · subst z2
      obtain ⟨f2, u2⟩ := o2 rfl
      by_cases z3 : Z3 = 0
      · subst z3
        obtain ⟨f3, u3⟩ := o3 rfl
        rw [u3.cn, u3.cd] at A4
        have o4 := ans_ok (N := p0 * X3) (Int.mul_pos g0 (show 0 < Y3 by have := u3.1; omega))
        generalize pN (rn (p0 * X3) (q0 * Y3)) (rd (p0 * X3) (q0 * Y3)) = X4 at *
        generalize pD (rn (p0 * X3) (q0 * Y3)) (rd (p0 * X3) (q0 * Y3)) = Y4 at *
        generalize pE (rn (p0 * X3) (q0 * Y3)) (rd (p0 * X3) (q0 * Y3)) = Z4 at *
        by_cases z4 : Z4 = 0
        · subst z4
          obtain ⟨f4, u4⟩ := o4 rfl
          obtain ⟨q5, q6⟩ := prod_assoc g0 g1 g2 f1 f2 f3 f4
          rw [← q5, ← q6] at A4
          exact lprod_5 a0 b0 a1 b1 a2 b2 X1 Y1 X2 Y2 X3 Y3 w (fun n d n2 d2 X Y Z => ∀ w, Calls Tryd.prog 19 #[.agg #[.int .i64 n, .int .i64 d], .agg #[.int .i64 n2, .int .i64 d2]] w fun e w' => e = .returned (.tuple #[.agg #[.int .i64 X, .int .i64 Y], .int .i64 Z]) ∧ Keep w w') A1 A2 A3 A4 A5 (hide fun n d n2 d2 X Y Z h => h)
        · exact lprod_4 a0 b0 a1 b1 a2 b2 X1 Y1 X2 Y2 X3 Y3 X4 Y4 Z4 w z4 (nb z4) (nc z4) (fun n d n2 d2 X Y Z => ∀ w, Calls Tryd.prog 19 #[.agg #[.int .i64 n, .int .i64 d], .agg #[.int .i64 n2, .int .i64 d2]] w fun e w' => e = .returned (.tuple #[.agg #[.int .i64 X, .int .i64 Y], .int .i64 Z]) ∧ Keep w w') A1 A2 A3 A4 (hide fun n d n2 d2 X Y Z h => h)
      · exact lprod_3 a0 b0 a1 b1 a2 b2 X1 Y1 X2 Y2 X3 Y3 _ _ Z3 _ w z3 (nb z3) (nc z3) (fun n d n2 d2 X Y Z => ∀ w, Calls Tryd.prog 19 #[.agg #[.int .i64 n, .int .i64 d], .agg #[.int .i64 n2, .int .i64 d2]] w fun e w' => e = .returned (.tuple #[.agg #[.int .i64 X, .int .i64 Y], .int .i64 Z]) ∧ Keep w w') A1 A2 A3 A4 (hide fun n d n2 d2 X Y Z h => h)
    · exact lprod_2 a0 b0 a1 b1 a2 b2 X1 Y1 X2 Y2 X3 Y3 _ _ Z2 Z3 _ w z2 (nb z2) (nc z2) (fun n d n2 d2 X Y Z => ∀ w, Calls Tryd.prog 19 #[.agg #[.int .i64 n, .int .i64 d], .agg #[.int .i64 n2, .int .i64 d2]] w fun e w' => e = .returned (.tuple #[.agg #[.int .i64 X, .int .i64 Y], .int .i64 Z]) ∧ Keep w w') A1 A2 A3 A4 (hide fun n d n2 d2 X Y Z h => h)
  · exact lprod_1 a0 b0 a1 b1 a2 b2 X1 Y1 _ _ X3 Y3 _ _ Z1 _ Z3 _ w z1 (nb z1) (nc z1) (fun n d n2 d2 X Y Z => ∀ w, Calls Tryd.prog 19 #[.agg #[.int .i64 n, .int .i64 d], .agg #[.int .i64 n2, .int .i64 d2]] w fun e w' => e = .returned (.tuple #[.agg #[.int .i64 X, .int .i64 Y], .int .i64 Z]) ∧ Keep w w') A1 A2 A3 A4 (hide fun n d n2 d2 X Y Z h => h)
theorem walk (a0 b0 a1 b1 a2 b2 : Int) (w0 : (Lit.int .i64 a0).wf = true) (w1 : (Lit.int .i64 b0).wf = true) (w2 : (Lit.int .i64 a1).wf = true) (w3 : (Lit.int .i64 b1).wf = true) (w4 : (Lit.int .i64 a2).wf = true) (w5 : (Lit.int .i64 b2).wf = true) (w : World) :
    Calls Tryd.prog 8 #[.agg #[.int .i64 a0, .int .i64 b0, .int .i64 a1, .int .i64 b1, .int .i64 a2, .int .i64 b2]] w fun e w' => e = .returned (.bool true) ∧ Below w.heap.size w w' := by
  obtain ⟨h0a, h0b⟩ := bounds_i64 w0
  obtain ⟨h0c, h0d⟩ := bounds_i64 w1
  obtain ⟨h1a, h1b⟩ := bounds_i64 w2
  obtain ⟨h1c, h1d⟩ := bounds_i64 w3
  obtain ⟨h2a, h2b⟩ := bounds_i64 w4
  obtain ⟨h2c, h2d⟩ := bounds_i64 w5
  have LS := fun w => lsum_any a0 b0 a1 b1 a2 b2 w h0a h0b h0c h0d h1a h1b h1c h1d h2a h2b h2c h2d
  have LP := fun w => lprod_any a0 b0 a1 b1 a2 b2 w h0a h0b h0c h0d h1a h1b h1c h1d h2a h2b h2c h2d
  have RR := fun w => right_any a0 b0 w h0a h0b h0c h0d
  have t0 := rt_counted a0 b0 h0a h0b h0d
  have t1 := rt_counted a1 b1 h1a h1b h1d
  have t2 := rt_counted a2 b2 h2a h2b h2d
  have hr : rt a0 b0 = true → cn a0 b0 = a0 ∧ cd a0 b0 = b0 := fun h => by unfold cn cd; rw [h]; exact ⟨rfl, rfl⟩
  have A1 := fun w => fadd_any a0 b0 a1 b1 w h0a h0b h0c h0d h1a h1b h1c h1d
  have A3 := fun w => fmul_any a0 b0 a2 b2 w h0a h0b h0c h0d h2a h2b h2c h2d
  have A4 := fun w => fmul_any a1 b1 a2 b2 w h1a h1b h1c h1d h2a h2b h2c h2d
  have B2 := fun X Y (hx : -9223372036854775808 ≤ X ∧ X ≤ 9223372036854775807) (hy : -9223372036854775808 ≤ Y ∧ Y ≤ 9223372036854775807) w => fmul_any X Y a2 b2 w hx.1 hx.2 hy.1 hy.2 h2a h2b h2c h2d
  have B6 := fun X Y (hx : -9223372036854775808 ≤ X ∧ X ≤ 9223372036854775807) (hy : -9223372036854775808 ≤ Y ∧ Y ≤ 9223372036854775807) w => fsub_any X Y a1 b1 w hx.1 hx.2 hy.1 hy.2 h1a h1b h1c h1d
  have B5 := fun X Y (hx : -9223372036854775808 ≤ X ∧ X ≤ 9223372036854775807) (hy : -9223372036854775808 ≤ Y ∧ Y ≤ 9223372036854775807) U V (gx : -9223372036854775808 ≤ U ∧ U ≤ 9223372036854775807) (gy : -9223372036854775808 ≤ V ∧ V ≤ 9223372036854775807) w => fadd_any X Y U V w hx.1 hx.2 hy.1 hy.2 gx.1 gx.2 gy.1 gy.2
  generalize rt a0 b0 = r0 at *
  generalize cn a0 b0 = p0 at *
  generalize cd a0 b0 = q0 at *
  generalize cn a1 b1 = p1 at *
  generalize cd a1 b1 = q1 at *
  generalize cn a2 b2 = p2 at *
  generalize cd a2 b2 = q2 at *
  have g0 : 0 < q0 := by have := t0.1; omega
  have g1 : 0 < q1 := by have := t1.1; omega
  have g2 : 0 < q2 := by have := t2.1; omega
  have A2 := B2 _ _ (pN_bd (rn (p0 * q1 + p1 * q0) (q0 * q1)) (rd (p0 * q1 + p1 * q0) (q0 * q1))) (pD_bd (rn (p0 * q1 + p1 * q0) (q0 * q1)) (rd (p0 * q1 + p1 * q0) (q0 * q1)))
  have A6 := B6 _ _ (pN_bd (rn (p0 * q1 + p1 * q0) (q0 * q1)) (rd (p0 * q1 + p1 * q0) (q0 * q1))) (pD_bd (rn (p0 * q1 + p1 * q0) (q0 * q1)) (rd (p0 * q1 + p1 * q0) (q0 * q1)))
  have A5 := B5 _ _ (pN_bd (rn (p0 * p2) (q0 * q2)) (rd (p0 * p2) (q0 * q2))) (pD_bd (rn (p0 * p2) (q0 * q2)) (rd (p0 * p2) (q0 * q2))) _ _ (pN_bd (rn (p1 * p2) (q1 * q2)) (rd (p1 * p2) (q1 * q2))) (pD_bd (rn (p1 * p2) (q1 * q2)) (rd (p1 * p2) (q1 * q2)))
  have o1 := ans_ok (N := p0 * q1 + p1 * q0) (Int.mul_pos g0 g1)
  have o3 := ans_ok (N := p0 * p2) (Int.mul_pos g0 g2)
  have o4 := ans_ok (N := p1 * p2) (Int.mul_pos g1 g2)
  have c1 := @And.intro _ _ (pN_bd (rn (p0 * q1 + p1 * q0) (q0 * q1)) (rd (p0 * q1 + p1 * q0) (q0 * q1))) (pD_bd (rn (p0 * q1 + p1 * q0) (q0 * q1)) (rd (p0 * q1 + p1 * q0) (q0 * q1)))
  have c3 := @And.intro _ _ (pN_bd (rn (p0 * p2) (q0 * q2)) (rd (p0 * p2) (q0 * q2))) (pD_bd (rn (p0 * p2) (q0 * q2)) (rd (p0 * p2) (q0 * q2)))
  have c4 := @And.intro _ _ (pN_bd (rn (p1 * p2) (q1 * q2)) (rd (p1 * p2) (q1 * q2))) (pD_bd (rn (p1 * p2) (q1 * q2)) (rd (p1 * p2) (q1 * q2)))
  clear B2 B5 B6
  unfold fv at A1 A2 A3 A4 A5 A6
  generalize pN (rn (p0 * q1 + p1 * q0) (q0 * q1)) (rd (p0 * q1 + p1 * q0) (q0 * q1)) = A at *
  generalize pD (rn (p0 * q1 + p1 * q0) (q0 * q1)) (rd (p0 * q1 + p1 * q0) (q0 * q1)) = Ay at *
  generalize pE (rn (p0 * q1 + p1 * q0) (q0 * q1)) (rd (p0 * q1 + p1 * q0) (q0 * q1)) = Zd at *
  generalize pN (rn (p0 * p2) (q0 * q2)) (rd (p0 * p2) (q0 * q2)) = P at *
  generalize pD (rn (p0 * p2) (q0 * q2)) (rd (p0 * p2) (q0 * q2)) = Py at *
  generalize pE (rn (p0 * p2) (q0 * q2)) (rd (p0 * p2) (q0 * q2)) = Zf at *
  generalize pN (rn (p1 * p2) (q1 * q2)) (rd (p1 * p2) (q1 * q2)) = Q at *
  generalize pD (rn (p1 * p2) (q1 * q2)) (rd (p1 * p2) (q1 * q2)) = Qy at *
  generalize pE (rn (p1 * p2) (q1 * q2)) (rd (p1 * p2) (q1 * q2)) = Zg at *
  have uA := rt_counted A Ay c1.1.1 c1.1.2 c1.2.2
  have uP := rt_counted P Py c3.1.1 c3.1.2 c3.2.2
  have uQ := rt_counted Q Qy c4.1.1 c4.1.2 c4.2.2
  have eA : Zd = 0 → cn A Ay = A ∧ cd A Ay = Ay := fun h => ⟨(o1 h).2.cn, (o1 h).2.cd⟩
  have eP : Zf = 0 → cn P Py = P ∧ cd P Py = Py := fun h => ⟨(o3 h).2.cn, (o3 h).2.cd⟩
  have eQ : Zg = 0 → cn Q Qy = Q ∧ cd Q Qy = Qy := fun h => ⟨(o4 h).2.cn, (o4 h).2.cd⟩
  generalize cn A Ay = s at *
  generalize cd A Ay = t at *
  generalize cn P Py = sp at *
  generalize cd P Py = tp at *
  generalize cn Q Qy = sq at *
  generalize cd Q Qy = tq at *
  have k1 : 0 < t := by have := uA.1; omega
  have k3 : 0 < tp := by have := uP.1; omega
  have k4 : 0 < tq := by have := uQ.1; omega
  have o2 := ans_ok (N := s * p2) (Int.mul_pos k1 g2)
  have o5 := ans_ok (N := sp * tq + sq * tp) (Int.mul_pos k3 k4)
  have o6 := ans_ok (N := s * q1 + -p1 * t) (Int.mul_pos k1 g1)
  generalize pN (rn (s * p2) (t * q2)) (rd (s * p2) (t * q2)) = B at *
  generalize pD (rn (s * p2) (t * q2)) (rd (s * p2) (t * q2)) = By at *
  generalize pE (rn (s * p2) (t * q2)) (rd (s * p2) (t * q2)) = Ze at *
  generalize pN (rn (sp * tq + sq * tp) (tp * tq)) (rd (sp * tq + sq * tp) (tp * tq)) = R at *
  generalize pD (rn (sp * tq + sq * tp) (tp * tq)) (rd (sp * tq + sq * tp) (tp * tq)) = Ry at *
  generalize pE (rn (sp * tq + sq * tp) (tp * tq)) (rd (sp * tq + sq * tp) (tp * tq)) = Zh at *
  generalize pN (rn (s * q1 + -p1 * t) (t * q1)) (rd (s * q1 + -p1 * t) (t * q1)) = X at *
  generalize pD (rn (s * q1 + -p1 * t) (t * q1)) (rd (s * q1 + -p1 * t) (t * q1)) = Xy at *
  generalize pE (rn (s * q1 + -p1 * t) (t * q1)) (rd (s * q1 + -p1 * t) (t * q1)) = Zi at *
  refine walk_core a0 b0 a1 b1 a2 b2 A Ay Zd B By Ze P Py Zf Q Qy Zg R Ry Zh X Xy Zi r0 w (fun n d n2 d2 X Y Z => ∀ w, Calls Tryd.prog 15 #[.agg #[.int .i64 n, .int .i64 d], .agg #[.int .i64 n2, .int .i64 d2]] w fun e w' => e = .returned (.tuple #[.agg #[.int .i64 X, .int .i64 Y], .int .i64 Z]) ∧ Keep w w') (fun n d n2 d2 X Y Z => ∀ w, Calls Tryd.prog 19 #[.agg #[.int .i64 n, .int .i64 d], .agg #[.int .i64 n2, .int .i64 d2]] w fun e w' => e = .returned (.tuple #[.agg #[.int .i64 X, .int .i64 Y], .int .i64 Z]) ∧ Keep w w') (fun n d n2 d2 X Y Z => ∀ w, Calls Tryd.prog 17 #[.agg #[.int .i64 n, .int .i64 d], .agg #[.int .i64 n2, .int .i64 d2]] w fun e w' => e = .returned (.tuple #[.agg #[.int .i64 X, .int .i64 Y], .int .i64 Z]) ∧ Keep w w') A1 A2 A3 A4 A5 A6 ?_ ?_ (hide fun n d n2 d2 X Y Z h => h) (hide fun n d n2 d2 X Y Z h => h) (hide fun n d n2 d2 X Y Z h => h) (hide LS) (hide LP) (hide RR) (hide awake_any)
  · by_cases z1 : Zd = 0
    · by_cases z2 : Ze = 0
      · by_cases z3 : Zf = 0
        · by_cases z4 : Zg = 0
          · by_cases z5 : Zh = 0
            · obtain ⟨rfl, rfl⟩ := eA z1
              obtain ⟨rfl, rfl⟩ := eP z3
              obtain ⟨rfl, rfl⟩ := eQ z4
              obtain ⟨m1, m2⟩ := prod_sum g0 g1 g2 (o1 z1).1 (o2 z2).1 (o3 z3).1 (o4 z4).1 (o5 z5).1
              exact .inr (.inr (.inr (.inr (.inr ⟨z1, z2, z3, z4, z5, m1.symm, m2.symm⟩))))
            · exact .inr (.inr (.inr (.inr (.inl ⟨z1, z2, z3, z4, nb z5⟩))))
          · exact .inr (.inr (.inr (.inl ⟨z1, z2, z3, nb z4⟩)))
        · exact .inr (.inr (.inl ⟨z1, z2, nb z3⟩))
      · exact .inr (.inl ⟨z1, nb z2⟩)
    · exact .inl ⟨nb z1, z1⟩
  · intro z1
    by_cases z6 : Zi = 0
    · cases hr0 : r0 with
      | false => exact .inr (.inl ⟨z6, rfl⟩)
      | true =>
        obtain ⟨rfl, rfl⟩ := eA z1
        obtain ⟨m1, m2⟩ := sum_less g0 g1 t0.2.1 (o1 z1).1 (o6 z6).1
        obtain ⟨e1, e2⟩ := hr hr0
        exact .inr (.inr ⟨z6, rfl, m1.trans e1, m2.trans e2⟩)
    · exact .inl ⟨nb z6, z6⟩
theorem array6 {α : Type} {cs : Array α} (h : cs.size = 6) : ∃ c0 c1 c2 c3 c4 c5, cs = #[c0, c1, c2, c3, c4, c5] := by
  obtain ⟨l⟩ := cs
  match l, h with
  | [c0, c1, c2, c3, c4, c5], _ => exact ⟨c0, c1, c2, c3, c4, c5, rfl⟩
/-- an array of three structs of two integers, opened -/
theorem open_arr3 {H : Type} {enc : TypeId × Value → H} {P : Program} {w : World} {base : Nat} {spare : Nat → Bool} {held : Bool} {r : Reach} {b0 : Nat} {t e : TypeId} {f0 f1 : Field} {v : Value} {d : DataW H} {p : List MemPlace} (ht : P.underlying t = some (.array 3 e)) (he : P.underlying e = some (.struct #[f0, f1])) (hone : Go.Deep.oneCellFields P #[f0, f1] = true) (hCe : P.cellsOf e = 2) (hC : P.cellsOf t = 6)
    (i0 : P.underlying f0.type = some (.int .i64)) (i1 : P.underlying f1.type = some (.int .i64))
    (hv : Value.okWide P w r b0 t v) (h : DataW.Trod enc P w base spare held t v d p) :
    ∃ (x0 y0 x1 y1 x2 y2 : Int), v = .agg #[.int .i64 x0, .int .i64 y0, .int .i64 x1, .int .i64 y1, .int .i64 x2, .int .i64 y2] ∧ (Lit.int .i64 x0).wf = true ∧ (Lit.int .i64 y0).wf = true ∧ (Lit.int .i64 x1).wf = true ∧ (Lit.int .i64 y1).wf = true ∧ (Lit.int .i64 x2).wf = true ∧ (Lit.int .i64 y2).wf = true := by
  unfold Value.okWide at hv
  rw [ht] at hv
  obtain ⟨cs, rfl, hsz, _⟩ := hv
  obtain ⟨c0, c1, c2, c3, c4, c5, rfl⟩ := array6 (hsz.trans hC)
  obtain ⟨fuel, hf⟩ := h
  obtain ⟨xs, m, _, hx, _, hlen, hall⟩ := DataW.trod_array ht hf
  obtain ⟨o0, k0⟩ := Go.Deep.hone_of hone 0 f0 rfl
  obtain ⟨o1, k1⟩ := Go.Deep.hone_of hone 1 f1 rfl
  match xs, hlen with
  | [u0, u1, u2], _ =>
    have e0 := hall 0 (by omega)
    have e1 := hall 1 (by omega)
    have e2 := hall 2 (by omega)
    rw [hCe] at e0 e1 e2
    simp only [Value.cells, List.drop, List.take, Nat.one_mul, List.getElem?_cons_zero, List.getElem?_cons_succ] at e0 e1 e2
    obtain ⟨y0, y1, n, _, _, g0, g1⟩ := trod_struct2 he e0
    obtain ⟨y2, y3, n2, _, _, g2, g3⟩ := trod_struct2 he e1
    obtain ⟨y4, y5, n4, _, _, g4, g5⟩ := trod_struct2 he e2
    obtain ⟨a0, q0, _, w0⟩ := DataW.trod_int i0 g0
    obtain ⟨a1, q1, _, w1⟩ := DataW.trod_int i1 g1
    obtain ⟨a2, q2, _, w2⟩ := DataW.trod_int i0 g2
    obtain ⟨a3, q3, _, w3⟩ := DataW.trod_int i1 g3
    obtain ⟨a4, q4, _, w4⟩ := DataW.trod_int i0 g4
    obtain ⟨a5, q5, _, w5⟩ := DataW.trod_int i1 g5
    simp [o0, k0] at q0 q2 q4
    simp [o1, k1] at q1 q3 q5
    subst q0 q1 q2 q3 q4 q5
    exact ⟨a0, a1, a2, a3, a4, a5, rfl, w0, w1, w2, w3, w4, w5⟩
theorem door_met (os : Os) (args : Array Value) : laidMetH Tryd.prog Rows.fracRingRow.laid ((World.doorLaid Tryd.prog 24 os).forCall (fun _ _ => 0) ⟨#[], args, []⟩).memory :=
  laidMetH_of_parts3 (fuel := 8) (laidMet_of_run' 8 (by kernel_rfl) (by kernel_rfl)) (by kernel_rfl) (by kernel_rfl)
theorem laidOut : laidOutB Tryd.prog = true := by kernel_rfl
theorem own : ownKnob Tryd.prog.godebug = none := by kernel_rfl
set_option maxHeartbeats 400000 in
set_option maxRecDepth 100000 in
theorem lifted (os : Os) (started : os.Started) (H : Type) (enc : TypeId × Value → H) :
    ReturnsInHanded {} Tryd.checked os 8 .any (fun w args => (Rows.fracRingSpec.pre enc Tryd.prog Tryd.f8 [] false w args ∧ laidMetH Tryd.prog Rows.fracRingRow.laid w) ∧ sizedMet enc Tryd.prog Tryd.f8 (OpenSpec.ofChange Rows.fracRingSpec) false w args)
      (Rows.fracRingSpec.post enc Tryd.prog Tryd.f8 false true false false) := by
  refine returnsInHanded_of_change_and (C := Tryd.checked) (X := fun w _ => laidMetH Tryd.prog Rows.fracRingRow.laid w) (fun _ _ _ hh h => h.of_heap hh) own started (by kernel_rfl) Tryd.func8
    (ChangeSpec.witness_shaped (enc := enc) (C := Tryd.checked) (os := os) (X := fun w _ => laidMetH Tryd.prog Rows.fracRingRow.laid w) false (World.doorLaid Tryd.prog 24 os) #[.agg #[.int .i64 0, .int .i64 0, .int .i64 0, .int .i64 0, .int .i64 0, .int .i64 0]] 8 rfl (World.shaped_of_RefB (by kernel_rfl) (by kernel_rfl)) (by kernel_rfl) (by kernel_rfl) (by kernel_rfl) (door_met os _)) ?_
  intro W base args ds gs before hval0 hW _ _ hL _
  have hval : ∀ (j : Nat) t v, Tryd.f8.params[j]? = some t → args[j]? = some v → Value.okWide Tryd.prog W .any base t v := hval0
  have hW' := hW
  obtain ⟨p, q, hA0, hV, rfl, hfz, hnd⟩ := hW
  have hA : DataW.TrodAll enc Tryd.prog W 0 (fun _ => true) true Tryd.f8.params.toList args.toList ds p := hA0
  rw [Tryd.params8] at hA hval
  obtain ⟨v0, vs0, d0, ds0, p0, q0, hargs, rfl, rfl, h0, r0⟩ := trodAll_cons hA
  obtain ⟨rfl, rfl, rfl⟩ := trodAll_nil r0
  obtain rfl : args = #[v0] := by cases args; simp_all
  obtain ⟨rfl, rfl⟩ := trodVars_none hV
  have k0 := h0
  have lt0 : ∀ x ∈ p0, x.block < W.heap.size := by obtain ⟨m, hm⟩ := k0; exact DataW.trod_lt m _ _ _ hm
  obtain ⟨a00, b00, a01, b01, a02, b02, rfl, w00, w01, w02, w03, w04, w05⟩ := open_arr3 Tryd.underlying42 Tryd.underlying23 (by kernel_rfl) (by kernel_rfl) (by kernel_rfl) Tryd.underlying2 Tryd.underlying2 (hval 0 42 v0 rfl rfl) h0
  clear h0
  clear hA0 hval0
  refine (walk a00 b00 a01 b01 a02 b02 w00 w01 w02 w03 w04 w05 W).mono fun e W' ⟨he, bel⟩ => ?_
  subst he
  exact ⟨_, rfl, _, _, _, [], _, [], hW', trodAll_mk1 (shut_bool Tryd.underlying4 _), (trodAll_cons_mk (Below.trod laidOut (by kernel_rfl) (of_decide_eq_true (by kernel_rfl)) k0 bel lt0) trodAll_mk0), rfl, bel.frame _, fun h => by cases h⟩
theorem over : Rows.fracRingRow.holds Tryd.pinned (OpenSpec.ofChange Rows.fracRingSpec) :=
  OpenClaim.holds_of_wide 8 Tryd.f8 rfl rfl rfl rfl rfl rfl rfl ⟨rfl, rfl, rfl, rfl, rfl⟩ rfl rfl rfl rfl rfl (by kernel_rfl) Tryd.func8 (by kernel_rfl)
    (of_decide_eq_true (by kernel_rfl)) (by unfold Func.isWrapper; first | (rw [if_pos (by decide +kernel)]; kernel_rfl) | (rw [if_neg (by decide +kernel)]; exact ⟨rfl, rfl⟩))
    (fun os started H enc _ => lifted os started H enc)
theorem card : Claim7.holds Tryd.pinned (.plain (OpenSpec.ofChange Rows.fracRingSpec)) Rows.fracRingCard :=
  Claim7.holds_tied_plain_at .later [] [.data, .data, .data] true _ false
    over (fun _ h => by cases h) (by kernel_rfl) (fun _ h => by cases h) fracRing_row_tie rfl ⟨rfl, rfl⟩ (by kernel_rfl) rfl
    (fun f fn hf hfn => by
      obtain rfl : f = 8 := Option.some.inj ((show Tryd.prog.funcNamed Rows.fracRingRow.func = some 8 by kernel_rfl).symm.trans hf) |>.symm
      obtain rfl : fn = Tryd.f8 := (Option.some.inj (Tryd.func8.symm.trans hfn)).symm
      exact ⟨by kernel_rfl, fun j t ht => by
        rw [Tryd.params8] at ht
        have hm : t ∈ [42] := by simpa using Array.mem_of_getElem? ht
        have hall : ([42].all fun u => !Tryd.prog.wantsStandIn u) = true := by kernel_rfl
        exact (show Tryd.prog.wantsStandIn t = false by simpa using List.all_eq_true.1 hall t hm)⟩)
    (by kernel_rfl)

end Go.Proofs.YtnfhkgdgkfanhaaDoor.ring
namespace Go.Proofs.YtnfhkgdgkfanhaaDoor
theorem FracRing_holds : Rows.FracRingCardSaid := ring.card
end Go.Proofs.YtnfhkgdgkfanhaaDoor
