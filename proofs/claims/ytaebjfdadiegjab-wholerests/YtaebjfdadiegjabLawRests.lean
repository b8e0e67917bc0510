/- Proved: for every a and b, quotient and rest make the number again, rounding up is the opposite of rounding the opposite down, and divisor and multiple make the product's size, as package whole tells them. -/
import Derived.Test.YtaebjfdadiegjabRows
import Derived.Test.YtaebjfdadiegjabRestsW
import Derived.WalkKit
import Derived.ProofKit
import Derived.OpenShut
import Derived.ShutString
import Derived.ChangeOld
import Derived.Below
namespace Go.Proofs.Ytaebjfdadiegjab.rests
open Go.ChangeShapes Go.WideShapes Go.ChangeAt Go.RowKit
set_option linter.unusedVariables false
theorem own : ownKnob Try.prog.godebug = none := by kernel_rfl
theorem fl_bd {a b : Int} (h1 : -9223372036854775808 < a) (h2 : a ≤ 9223372036854775807) (hb : b ≠ 0) : -9223372036854775808 < fl a b ∧ fl a b ≤ 9223372036854775807 := by
  have e : (a.tdiv b).natAbs = a.natAbs / b.natAbs := Int.natAbs_tdiv a b
  have hle := Nat.div_le_self a.natAbs b.natAbs
  by_cases hm : a.tmod b = 0
  · rw [fl_same hb (.inl hm)]; omega
  · have t := tdiv_bd2 (by omega) h2 hb hm
    by_cases hs : a < 0 ↔ b < 0
    · rw [fl_same hb (.inr hs)]; omega
    · rw [fl_diff hb hm hs]; omega
theorem fl_pos {a b : Int} (hb : 1 ≤ b) : fl a b = a / b := by unfold fl; rw [if_pos (by omega)]
theorem gl_mul (a b : Int) : (Int.gcd a b : Int) * (Int.lcm a b : Int) = ((a * b).natAbs : Int) := by
  rw [← Int.natCast_mul, Int.natAbs_mul]
  exact congrArg Int.ofNat (Nat.gcd_mul_lcm a.natAbs b.natAbs)
theorem dvd_facts (a b : Int) : a.tmod (Int.gcd a b : Int) = 0 ∧ a % (Int.gcd a b : Int) = 0 ∧ b.tmod (Int.gcd a b : Int) = 0 ∧ b % (Int.gcd a b : Int) = 0 :=
  ⟨Int.tmod_eq_zero_of_dvd (Int.gcd_dvd_left ..), Int.emod_eq_zero_of_dvd (Int.gcd_dvd_left ..), Int.tmod_eq_zero_of_dvd (Int.gcd_dvd_right ..), Int.emod_eq_zero_of_dvd (Int.gcd_dvd_right ..)⟩
theorem gcd_nought {a b : Int} (h : (Int.gcd a b : Int) = 0) : a = 0 ∧ b = 0 := by
  have h' : Int.gcd a b = 0 := by omega
  exact Int.gcd_eq_zero_iff.1 h'
theorem lcm_ge {a b : Int} (ha : a ≠ 0) (hb : b ≠ 0) : (a.natAbs : Int) ≤ (Int.lcm a b : Int) := by
  have : a.natAbs ≤ Int.lcm a b := Nat.le_of_dvd (Nat.lcm_pos (by omega) (by omega)) (Nat.dvd_lcm_left _ _)
  omega
theorem cm_nought {x y : Int} (h : x = y) : cm x y = 0 := by simp [cm, h]
theorem cm_not {x y : Int} (h : x ≠ y) : (cm x y == 0) = false := by
  unfold cm
  rw [if_neg h]
  split <;> rfl
theorem way_A (a b : Int) (w : World) (l0 : -9223372036854775808 ≤ a) (u0 : a ≤ 9223372036854775807) (l1 : -9223372036854775808 ≤ b) (u1 : b ≤ 9223372036854775807) (hf : ¬ a = -9223372036854775808) (hb : 1 ≤ b) :
    Calls Try.prog 4 #[.int .i64 a, .int .i64 b] w fun e w' => e = .returned (.bool true) ∧ Keep w w' := by
  have nb := ans_bd (-a)
  have yb := ans_bd (Int.lcm a b : Int)
  have FL : Hid (∀ w, _) := fun w => floor_any a b w l0 u0 l1 u1
  have MO : Hid (∀ w, _) := fun w => mod_any a b w l0 u0 l1 u1
  have NE : Hid (∀ w, _) := fun w => neg_any a w l0 u0
  have CE : Hid (∀ w, _) := fun w => ceil_any (ans (-a)) b w nb.1 nb.2 l1 u1
  have GC : Hid (∀ w, _) := fun w => gcd_any a b w l0 u0 l1 u1
  have LC : Hid (∀ w, _) := fun w => lcm_any a b w l0 u0 l1 u1
  have qe0 : qe a b = 0 := qe_ok (by omega) (by omega)
  have mo0 : moE b = 0 := by unfold moE; rw [if_neg (by omega)]
  have er0 : err (-a) = 0 := err_yes (by omega) (by omega)
  have an0 : ans (-a) = -a := ans_yes (by omega) (by omega)
  have qn0 : qe (ans (-a)) b = 0 := by rw [an0]; exact qe_ok (by omega) (by omega)
  have fa : flA a b = fl a b := by unfold flA; rw [if_pos qe0]
  have cn : ceA (ans (-a)) b = -(flA a b) := by unfold ceA; rw [if_pos qn0, an0]; unfold ce; rw [Int.neg_neg, fa]
  have mv : moA a b = a % b := by unfold moA; rw [if_neg (by omega)]
  have m1 := Int.emod_nonneg a (show b ≠ 0 by omega)
  have m2 := Int.emod_lt_of_pos a (show 0 < b by omega)
  have m3 := Int.emod_add_mul_ediv a b
  have eZ : flA a b * b = a - moA a b := by rw [fa, fl_pos hb, mv, Int.mul_comm]; omega
  have fb := fl_bd (b := b) (show -9223372036854775808 < a by omega) u0 (by omega)
  rw [← fa] at fb
  rw [← mv] at m1 m2
  rw [qe0] at FL
  rw [mo0] at MO
  rw [er0] at NE
  rw [qn0, cn] at CE
  by_cases hG : (Int.gcd a b : Int) ≤ 9223372036854775807
  · have aG : ans (Int.gcd a b : Int) = (Int.gcd a b : Int) := ans_yes (by omega) hG
    have eG : err (Int.gcd a b : Int) = 0 := err_yes (by omega) hG
    rw [eG, aG] at GC
    by_cases hG0 : (Int.gcd a b : Int) = 0
    · obtain ⟨z1, z2⟩ := gcd_nought hG0
      exact absurd hb (by omega)
    · have gp : 0 < (Int.gcd a b : Int) := by omega
      obtain ⟨x1, x2, x3, x4⟩ := dvd_facts a b
      have xz : ((Int.gcd a b : Int) == 0) = false := beq_eq_false_iff_ne.2 (by omega)
      by_cases hL : (Int.lcm a b : Int) ≤ 9223372036854775807
      · have aL : ans (Int.lcm a b : Int) = (Int.lcm a b : Int) := ans_yes (by omega) hL
        have eL : err (Int.lcm a b : Int) = 0 := err_yes (by omega) hL
        rw [eL, aL] at LC
        have CP : Hid (∀ w, _) := fun w => compare_any (Int.gcd a b : Int) (Int.lcm a b : Int) a b w (by omega) hG (by omega) hL l0 u0 l1 u1
        have gl := gl_mul a b
        by_cases hs : 0 ≤ a * b
        · rw [cm_nought (by rw [gl]; omega)] at CP
          exact rests_A4 a b (flA a b) (moA a b) _ (ans (-a)) _ _ w l0 u0 l1 u1 hb m1 m2 (by simp; omega) (by simp; omega) rfl (by rw [eZ]) fb.1 fb.2 gp hG x1 x2 x3 x4 xz FL MO NE CE GC LC CP
        · have CP2 : Hid (∀ w, _) := fun w => compare_any (Int.gcd a b : Int) (Int.lcm a b : Int) (-a) b w (by omega) hG (by omega) hL (by omega) (by omega) l1 u1
          rw [cm_nought (y := -a * b) (by rw [gl, Int.neg_mul]; omega)] at CP2
          have hv := cm_not (x := (Int.gcd a b : Int) * (Int.lcm a b : Int)) (y := a * b) (by rw [gl]; omega)
          exact rests_A5 a b (flA a b) (moA a b) _ (ans (-a)) _ _ _ w l0 u0 l1 u1 hb m1 m2 (by simp; omega) (by simp; omega) rfl (by rw [eZ]) fb.1 fb.2 gp hG (by omega) hv x1 x2 x3 x4 xz FL MO NE CE GC LC CP CP2
      · have eL : err (Int.lcm a b : Int) = 2 := err_no (by omega)
        rw [eL] at LC
        exact rests_A3 a b (flA a b) (moA a b) _ (ans (-a)) _ _ w l0 u0 l1 u1 hb m1 m2 (by simp; omega) (by simp; omega) rfl (by rw [eZ]) fb.1 fb.2 gp hG x1 x2 x3 x4 xz FL MO NE CE GC LC
  · have eG : err (Int.gcd a b : Int) = 2 := err_no (by omega)
    rw [eG] at GC
    exact rests_A1 a b (flA a b) (moA a b) _ (ans (-a)) _ _ _ w l0 u0 l1 u1 hb m1 m2 (by simp; omega) (by simp; omega) rfl (by rw [eZ]) fb.1 fb.2  FL MO NE CE GC LC
theorem way_B (a b : Int) (w : World) (l0 : -9223372036854775808 ≤ a) (u0 : a ≤ 9223372036854775807) (l1 : -9223372036854775808 ≤ b) (u1 : b ≤ 9223372036854775807) (hf : a = -9223372036854775808) (hb : 1 ≤ b) :
    Calls Try.prog 4 #[.int .i64 a, .int .i64 b] w fun e w' => e = .returned (.bool true) ∧ Keep w w' := by
  have nb := ans_bd (-a)
  have yb := ans_bd (Int.lcm a b : Int)
  have FL : Hid (∀ w, _) := fun w => floor_any a b w l0 u0 l1 u1
  have MO : Hid (∀ w, _) := fun w => mod_any a b w l0 u0 l1 u1
  have NE : Hid (∀ w, _) := fun w => neg_any a w l0 u0
  have CE : Hid (∀ w, _) := fun w => ceil_any (ans (-a)) b w nb.1 nb.2 l1 u1
  have GC : Hid (∀ w, _) := fun w => gcd_any a b w l0 u0 l1 u1
  have LC : Hid (∀ w, _) := fun w => lcm_any a b w l0 u0 l1 u1
  have qe0 : qe a b = 0 := qe_ok (by omega) (by omega)
  have mo0 : moE b = 0 := by unfold moE; rw [if_neg (by omega)]
  have er0 : err (-a) = 2 := err_no (by omega)
  have fa : flA a b = fl a b := by unfold flA; rw [if_pos qe0]
  have mv : moA a b = a % b := by unfold moA; rw [if_neg (by omega)]
  have m1 := Int.emod_nonneg a (show b ≠ 0 by omega)
  have m2 := Int.emod_lt_of_pos a (show 0 < b by omega)
  have m3 := Int.emod_add_mul_ediv a b
  have eZ : flA a b * b = a - moA a b := by rw [fa, fl_pos hb, mv, Int.mul_comm]; omega
  rw [← mv] at m1 m2
  rw [qe0] at FL
  rw [mo0] at MO
  rw [er0] at NE
  by_cases hG : (Int.gcd a b : Int) ≤ 9223372036854775807
  · have aG : ans (Int.gcd a b : Int) = (Int.gcd a b : Int) := ans_yes (by omega) hG
    have eG : err (Int.gcd a b : Int) = 0 := err_yes (by omega) hG
    rw [eG, aG] at GC
    by_cases hG0 : (Int.gcd a b : Int) = 0
    · obtain ⟨z1, z2⟩ := gcd_nought hG0
      exact absurd hb (by omega)
    · have gp : 0 < (Int.gcd a b : Int) := by omega
      obtain ⟨x1, x2, x3, x4⟩ := dvd_facts a b
      have xz : ((Int.gcd a b : Int) == 0) = false := beq_eq_false_iff_ne.2 (by omega)
      by_cases hL : (Int.lcm a b : Int) ≤ 9223372036854775807
      · have aL : ans (Int.lcm a b : Int) = (Int.lcm a b : Int) := ans_yes (by omega) hL
        have eL : err (Int.lcm a b : Int) = 0 := err_yes (by omega) hL
        rw [eL, aL] at LC
        have CP : Hid (∀ w, _) := fun w => compare_any (Int.gcd a b : Int) (Int.lcm a b : Int) a b w (by omega) hG (by omega) hL l0 u0 l1 u1
        have gl := gl_mul a b
        by_cases hs : 0 ≤ a * b
        · rw [cm_nought (by rw [gl]; omega)] at CP
          exact rests_B4 a b (flA a b) (moA a b) _ (ans (-a)) _ _ _ _ w l0 u0 l1 u1 hb m1 m2 (by simp; omega) (by simp; omega) rfl (by rw [eZ]) gp hG x1 x2 x3 x4 xz FL MO NE CE GC LC CP
        · have hb0 : b ≠ 0 := by intro e; rw [e] at hs; simp at hs
          have := lcm_ge (a := a) (b := b) (by omega) hb0
          exact absurd hL (by omega)
      · have eL : err (Int.lcm a b : Int) = 2 := err_no (by omega)
        rw [eL] at LC
        exact rests_B3 a b (flA a b) (moA a b) _ (ans (-a)) _ _ _ _ w l0 u0 l1 u1 hb m1 m2 (by simp; omega) (by simp; omega) rfl (by rw [eZ]) gp hG x1 x2 x3 x4 xz FL MO NE CE GC LC
  · have eG : err (Int.gcd a b : Int) = 2 := err_no (by omega)
    rw [eG] at GC
    exact rests_B1 a b (flA a b) (moA a b) _ (ans (-a)) _ _ _ _ _ w l0 u0 l1 u1 hb m1 m2 (by simp; omega) (by simp; omega) rfl (by rw [eZ])  FL MO NE CE GC LC
theorem way_C (a b : Int) (w : World) (l0 : -9223372036854775808 ≤ a) (u0 : a ≤ 9223372036854775807) (l1 : -9223372036854775808 ≤ b) (u1 : b ≤ 9223372036854775807) (hf : a = -9223372036854775808) (hb : ¬ 1 ≤ b) :
    Calls Try.prog 4 #[.int .i64 a, .int .i64 b] w fun e w' => e = .returned (.bool true) ∧ Keep w w' := by
  have nb := ans_bd (-a)
  have yb := ans_bd (Int.lcm a b : Int)
  have FL : Hid (∀ w, _) := fun w => floor_any a b w l0 u0 l1 u1
  have MO : Hid (∀ w, _) := fun w => mod_any a b w l0 u0 l1 u1
  have NE : Hid (∀ w, _) := fun w => neg_any a w l0 u0
  have CE : Hid (∀ w, _) := fun w => ceil_any (ans (-a)) b w nb.1 nb.2 l1 u1
  have GC : Hid (∀ w, _) := fun w => gcd_any a b w l0 u0 l1 u1
  have LC : Hid (∀ w, _) := fun w => lcm_any a b w l0 u0 l1 u1
  have er0 : err (-a) = 2 := err_no (by omega)
  rw [er0] at NE
  by_cases hG : (Int.gcd a b : Int) ≤ 9223372036854775807
  · have aG : ans (Int.gcd a b : Int) = (Int.gcd a b : Int) := ans_yes (by omega) hG
    have eG : err (Int.gcd a b : Int) = 0 := err_yes (by omega) hG
    rw [eG, aG] at GC
    by_cases hG0 : (Int.gcd a b : Int) = 0
    · obtain ⟨z1, z2⟩ := gcd_nought hG0
      exact absurd hf (by omega)
    · have gp : 0 < (Int.gcd a b : Int) := by omega
      obtain ⟨x1, x2, x3, x4⟩ := dvd_facts a b
      have xz : ((Int.gcd a b : Int) == 0) = false := beq_eq_false_iff_ne.2 (by omega)
      by_cases hL : (Int.lcm a b : Int) ≤ 9223372036854775807
      · have aL : ans (Int.lcm a b : Int) = (Int.lcm a b : Int) := ans_yes (by omega) hL
        have eL : err (Int.lcm a b : Int) = 0 := err_yes (by omega) hL
        rw [eL, aL] at LC
        have CP : Hid (∀ w, _) := fun w => compare_any (Int.gcd a b : Int) (Int.lcm a b : Int) a b w (by omega) hG (by omega) hL l0 u0 l1 u1
        have gl := gl_mul a b
        by_cases hs : 0 ≤ a * b
        · rw [cm_nought (by rw [gl]; omega)] at CP
          exact rests_C4 a b (flA a b) (moA a b) (ans (-a)) _ _ _ _ _ _ w l0 u0 l1 u1 (by omega) gp hG x1 x2 x3 x4 xz FL MO NE CE GC LC CP
        · have hb0 : b ≠ 0 := by intro e; rw [e] at hs; simp at hs
          have := lcm_ge (a := a) (b := b) (by omega) hb0
          exact absurd hL (by omega)
      · have eL : err (Int.lcm a b : Int) = 2 := err_no (by omega)
        rw [eL] at LC
        exact rests_C3 a b (flA a b) (moA a b) (ans (-a)) _ _ _ _ _ _ w l0 u0 l1 u1 (by omega) gp hG x1 x2 x3 x4 xz FL MO NE CE GC LC
  · have eG : err (Int.gcd a b : Int) = 2 := err_no (by omega)
    rw [eG] at GC
    exact rests_C1 a b (flA a b) (moA a b) (ans (-a)) _ _ _ _ _ _ _ w l0 u0 l1 u1 (by omega)  FL MO NE CE GC LC
theorem way_D (a b : Int) (w : World) (l0 : -9223372036854775808 ≤ a) (u0 : a ≤ 9223372036854775807) (l1 : -9223372036854775808 ≤ b) (u1 : b ≤ 9223372036854775807) (hf : ¬ a = -9223372036854775808) (hz : b = 0) :
    Calls Try.prog 4 #[.int .i64 a, .int .i64 b] w fun e w' => e = .returned (.bool true) ∧ Keep w w' := by
  have nb := ans_bd (-a)
  have yb := ans_bd (Int.lcm a b : Int)
  have FL : Hid (∀ w, _) := fun w => floor_any a b w l0 u0 l1 u1
  have MO : Hid (∀ w, _) := fun w => mod_any a b w l0 u0 l1 u1
  have NE : Hid (∀ w, _) := fun w => neg_any a w l0 u0
  have CE : Hid (∀ w, _) := fun w => ceil_any (ans (-a)) b w nb.1 nb.2 l1 u1
  have GC : Hid (∀ w, _) := fun w => gcd_any a b w l0 u0 l1 u1
  have LC : Hid (∀ w, _) := fun w => lcm_any a b w l0 u0 l1 u1
  have qe3 : qe a b = 3 := by rw [hz]; exact qe_zero a
  have er0 : err (-a) = 0 := err_yes (by omega) (by omega)
  rw [qe3] at FL
  rw [er0] at NE
  by_cases hG : (Int.gcd a b : Int) ≤ 9223372036854775807
  · have aG : ans (Int.gcd a b : Int) = (Int.gcd a b : Int) := ans_yes (by omega) hG
    have eG : err (Int.gcd a b : Int) = 0 := err_yes (by omega) hG
    rw [eG, aG] at GC
    by_cases hG0 : (Int.gcd a b : Int) = 0
    · obtain ⟨z1, z2⟩ := gcd_nought hG0
      have hL0 : (Int.lcm a b : Int) = 0 := by rw [z1]; simp [Int.lcm]
      have eL : err (Int.lcm a b : Int) = 0 := err_yes (by omega) (by omega)
      rw [eL] at LC
      rw [hG0] at GC
      have CP : Hid (∀ w, _) := fun w => compare_any 0 (ans (Int.lcm a b : Int)) a b w (by omega) (by omega) yb.1 yb.2 l0 u0 l1 u1
      rw [cm_nought (x := 0 * ans (Int.lcm a b : Int)) (y := a * b) (by rw [z1]; simp)] at CP
      exact rests_D2 a b (flA a b) (moA a b) (ans (-a)) _ _ _ _ w l0 u0 l1 u1 (by omega)  FL MO NE CE GC LC CP
    · have gp : 0 < (Int.gcd a b : Int) := by omega
      obtain ⟨x1, x2, x3, x4⟩ := dvd_facts a b
      have xz : ((Int.gcd a b : Int) == 0) = false := beq_eq_false_iff_ne.2 (by omega)
      by_cases hL : (Int.lcm a b : Int) ≤ 9223372036854775807
      · have aL : ans (Int.lcm a b : Int) = (Int.lcm a b : Int) := ans_yes (by omega) hL
        have eL : err (Int.lcm a b : Int) = 0 := err_yes (by omega) hL
        rw [eL, aL] at LC
        have CP : Hid (∀ w, _) := fun w => compare_any (Int.gcd a b : Int) (Int.lcm a b : Int) a b w (by omega) hG (by omega) hL l0 u0 l1 u1
        have gl := gl_mul a b
        by_cases hs : 0 ≤ a * b
        · rw [cm_nought (by rw [gl]; omega)] at CP
          exact rests_D4 a b (flA a b) (moA a b) (ans (-a)) _ _ _ _ _ w l0 u0 l1 u1 (by omega) gp hG x1 x2 x3 x4 xz FL MO NE CE GC LC CP
        · exact absurd hs (by rw [hz]; simp)
      · have eL : err (Int.lcm a b : Int) = 2 := err_no (by omega)
        rw [eL] at LC
        exact rests_D3 a b (flA a b) (moA a b) (ans (-a)) _ _ _ _ _ w l0 u0 l1 u1 (by omega) gp hG x1 x2 x3 x4 xz FL MO NE CE GC LC
  · have eG : err (Int.gcd a b : Int) = 2 := err_no (by omega)
    rw [eG] at GC
    exact rests_D1 a b (flA a b) (moA a b) (ans (-a)) _ _ _ _ _ _ w l0 u0 l1 u1 (by omega)  FL MO NE CE GC LC
theorem way_E (a b : Int) (w : World) (l0 : -9223372036854775808 ≤ a) (u0 : a ≤ 9223372036854775807) (l1 : -9223372036854775808 ≤ b) (u1 : b ≤ 9223372036854775807) (hf : ¬ a = -9223372036854775808) (hb : ¬ 1 ≤ b) (hz : ¬ b = 0) :
    Calls Try.prog 4 #[.int .i64 a, .int .i64 b] w fun e w' => e = .returned (.bool true) ∧ Keep w w' := by
  have nb := ans_bd (-a)
  have yb := ans_bd (Int.lcm a b : Int)
  have FL : Hid (∀ w, _) := fun w => floor_any a b w l0 u0 l1 u1
  have MO : Hid (∀ w, _) := fun w => mod_any a b w l0 u0 l1 u1
  have NE : Hid (∀ w, _) := fun w => neg_any a w l0 u0
  have CE : Hid (∀ w, _) := fun w => ceil_any (ans (-a)) b w nb.1 nb.2 l1 u1
  have GC : Hid (∀ w, _) := fun w => gcd_any a b w l0 u0 l1 u1
  have LC : Hid (∀ w, _) := fun w => lcm_any a b w l0 u0 l1 u1
  have qe0 : qe a b = 0 := qe_ok (by omega) (by omega)
  have er0 : err (-a) = 0 := err_yes (by omega) (by omega)
  have an0 : ans (-a) = -a := ans_yes (by omega) (by omega)
  have qn0 : qe (ans (-a)) b = 0 := by rw [an0]; exact qe_ok (by omega) (by omega)
  have fa : flA a b = fl a b := by unfold flA; rw [if_pos qe0]
  have cn : ceA (ans (-a)) b = -(flA a b) := by unfold ceA; rw [if_pos qn0, an0]; unfold ce; rw [Int.neg_neg, fa]
  have fb := fl_bd (b := b) (show -9223372036854775808 < a by omega) u0 (by omega)
  rw [← fa] at fb
  rw [qe0] at FL
  rw [er0] at NE
  rw [qn0, cn] at CE
  by_cases hG : (Int.gcd a b : Int) ≤ 9223372036854775807
  · have aG : ans (Int.gcd a b : Int) = (Int.gcd a b : Int) := ans_yes (by omega) hG
    have eG : err (Int.gcd a b : Int) = 0 := err_yes (by omega) hG
    rw [eG, aG] at GC
    by_cases hG0 : (Int.gcd a b : Int) = 0
    · obtain ⟨z1, z2⟩ := gcd_nought hG0
      exact absurd hz (by omega)
    · have gp : 0 < (Int.gcd a b : Int) := by omega
      obtain ⟨x1, x2, x3, x4⟩ := dvd_facts a b
      have xz : ((Int.gcd a b : Int) == 0) = false := beq_eq_false_iff_ne.2 (by omega)
      by_cases hL : (Int.lcm a b : Int) ≤ 9223372036854775807
      · have aL : ans (Int.lcm a b : Int) = (Int.lcm a b : Int) := ans_yes (by omega) hL
        have eL : err (Int.lcm a b : Int) = 0 := err_yes (by omega) hL
        rw [eL, aL] at LC
        have CP : Hid (∀ w, _) := fun w => compare_any (Int.gcd a b : Int) (Int.lcm a b : Int) a b w (by omega) hG (by omega) hL l0 u0 l1 u1
        have gl := gl_mul a b
        by_cases hs : 0 ≤ a * b
        · rw [cm_nought (by rw [gl]; omega)] at CP
          exact rests_E4 a b (flA a b) (moA a b) (ans (-a)) _ _ _ w l0 u0 l1 u1 (by omega) fb.1 fb.2 gp hG x1 x2 x3 x4 xz FL MO NE CE GC LC CP
        · have CP2 : Hid (∀ w, _) := fun w => compare_any (Int.gcd a b : Int) (Int.lcm a b : Int) (-a) b w (by omega) hG (by omega) hL (by omega) (by omega) l1 u1
          rw [cm_nought (y := -a * b) (by rw [gl, Int.neg_mul]; omega)] at CP2
          have hv := cm_not (x := (Int.gcd a b : Int) * (Int.lcm a b : Int)) (y := a * b) (by rw [gl]; omega)
          exact rests_E5 a b (flA a b) (moA a b) (ans (-a)) _ _ _ _ w l0 u0 l1 u1 (by omega) fb.1 fb.2 gp hG (by omega) hv x1 x2 x3 x4 xz FL MO NE CE GC LC CP CP2
      · have eL : err (Int.lcm a b : Int) = 2 := err_no (by omega)
        rw [eL] at LC
        exact rests_E3 a b (flA a b) (moA a b) (ans (-a)) _ _ _ w l0 u0 l1 u1 (by omega) fb.1 fb.2 gp hG x1 x2 x3 x4 xz FL MO NE CE GC LC
  · have eG : err (Int.gcd a b : Int) = 2 := err_no (by omega)
    rw [eG] at GC
    exact rests_E1 a b (flA a b) (moA a b) (ans (-a)) _ _ _ _ w l0 u0 l1 u1 (by omega) fb.1 fb.2  FL MO NE CE GC LC
theorem walk (a0 : Int) (a1 : Int) (w0 : (Lit.int .i64 a0).wf = true) (w1 : (Lit.int .i64 a1).wf = true) (w : World) :
    Calls Try.prog 4 #[.int .i64 a0, .int .i64 a1] w fun e w' => e = .returned (.bool true) ∧ Below w.heap.size w w' := by
  obtain ⟨l0, u0⟩ := bounds_i64 w0
  obtain ⟨l1, u1⟩ := bounds_i64 w1
  by_cases hf : a0 = -9223372036854775808
  · by_cases hb : 1 ≤ a1
    · exact way_B a0 a1 w l0 u0 l1 u1 hf hb
    · exact way_C a0 a1 w l0 u0 l1 u1 hf hb
  · by_cases hb : 1 ≤ a1
    · exact way_A a0 a1 w l0 u0 l1 u1 hf hb
    · by_cases hz : a1 = 0
      · exact way_D a0 a1 w l0 u0 l1 u1 hf hz
      · exact way_E a0 a1 w l0 u0 l1 u1 hf hb hz
set_option maxRecDepth 100000 in
theorem lifted (os : Os) (started : os.Started) (H : Type) (enc : TypeId × Value → H) :
    ReturnsInHanded {} Try.checked os 4 .any (Rows.wholeRestsSpec.pre6 enc Try.prog Try.f4 Rows.wholeRestsRow.domain false) (Rows.wholeRestsSpec.post enc Try.prog Try.f4 false true false false) := by
  refine returnsInHanded_of_change (C := Try.checked) own started (by kernel_rfl) Try.func4
    (ChangeSpec.witness6 (enc := enc) (C := Try.checked) false ⟨#[], #[.int .i64 0, .int .i64 0], []⟩ 8 (by kernel_rfl) (by kernel_rfl) (by kernel_rfl) (by kernel_rfl)) ?_
  intro W base args ds gs before hval0 hW hcnd _
  have hval : ∀ (j : Nat) t v, Try.f4.params[j]? = some t → args[j]? = some v → Value.okWide Try.prog W .any base t v := hval0
  have hW' := hW
  obtain ⟨p, q, hA0, hV, rfl, hfz, hnd⟩ := hW
  have hA : DataW.TrodAll enc Try.prog W 0 (fun _ => true) true Try.f4.params.toList args.toList ds p := hA0
  rw [Try.params4] at hA hval
  obtain ⟨v0, vs0, d0, ds0, p0, q0, hargs, rfl, rfl, h0, r0⟩ := trodAll_cons hA
  obtain ⟨v1, vs1, d1, ds1, p1, q1, rfl, rfl, rfl, h1, r1⟩ := trodAll_cons r0
  obtain ⟨rfl, rfl, rfl⟩ := trodAll_nil r1
  obtain rfl : args = #[v0, v1] := by cases args; simp_all
  obtain ⟨rfl, rfl⟩ := trodVars_none hV
  obtain ⟨a0, rfl, rfl, rfl, w0⟩ := open_int Try.underlying2 (hval 0 2 v0 rfl rfl) h0
  obtain ⟨a1, rfl, rfl, rfl, w1⟩ := open_int Try.underlying2 (hval 1 2 v1 rfl rfl) h1
  clear hA0 hval0
  refine (walk a0 a1 w0 w1 W).mono fun e W' ⟨he, bel⟩ => ?_
  subst he
  exact ⟨_, rfl, _, _, _, [], _, [], hW', trodAll_mk1 (shut_bool Try.underlying4 _), (trodAll_cons_mk (shut_int Try.underlying2 w0) (trodAll_cons_mk (shut_int Try.underlying2 w1) trodAll_mk0)), rfl, bel.frame _, fun h => by cases h⟩

theorem over : Rows.wholeRestsRow.holds Try.pinned (OpenSpec.ofChange Rows.wholeRestsSpec) :=
  OpenClaim.holds_of_wide 4 Try.f4 rfl rfl rfl rfl rfl rfl rfl ⟨rfl, rfl, rfl, rfl, rfl⟩ rfl rfl rfl rfl rfl (by kernel_rfl) Try.func4 (by kernel_rfl)
    (of_decide_eq_true (by kernel_rfl)) (by unfold Func.isWrapper; first | (rw [if_pos (by decide +kernel)]; kernel_rfl) | (rw [if_neg (by decide +kernel)]; exact ⟨rfl, rfl⟩))
    (fun os started H enc _ => lifted os started H enc)

end Go.Proofs.Ytaebjfdadiegjab.rests
namespace Go.Proofs.Ytaebjfdadiegjab
theorem WholeRests_holds : Rows.WholeRestsSaid := rests.over
end Go.Proofs.Ytaebjfdadiegjab
