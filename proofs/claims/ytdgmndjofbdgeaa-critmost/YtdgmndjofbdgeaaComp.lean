/- Products compared: the document's answer. -/
import Derived.Test.YtdgmndjofbdgeaaRefH
import Derived.Test.YtdgmndjofbdgeaaFracA
namespace Go.Proofs.Ytdgmndjofbdgeaa
open Go.RowKit
set_option linter.unusedVariables false
set_option maxRecDepth 10000

/-- the sign of a number -/
def sn (x : Int) : Int := if x = 0 then 0 else if x < 0 then -1 else 1
set_option maxHeartbeats 400000 in
theorem csize_any (a : Int) (w : World) (h1 : -9223372036854775808 ≤ a) (h2 : a ≤ 9223372036854775807) :
    Calls Try.prog 36 #[.int .i64 a] w fun e w' => e = .returned (.int .u64 (a.natAbs : Int)) ∧ w' = w := by
  by_cases ha : a < 0
  · go_enter Try.func36, Try.ntmps36
    go_wp2
    go_ret
    exact ⟨one_ret (by rw [IntKind.wrap_u64, IntKind.wrap_u64]; omega), rfl⟩
  · go_enter Try.func36, Try.ntmps36
    go_wp2
    go_ret
    exact ⟨one_ret (by omega), rfl⟩
theorem csizes_mul (a b : Int) : ((a.natAbs : Int) * (b.natAbs : Int)) = ((a * b).natAbs : Int) := by rw [Int.natAbs_mul, Int.natCast_mul]
theorem csize_bd {a : Int} (h1 : -9223372036854775808 ≤ a) (h2 : a ≤ 9223372036854775807) : 0 ≤ (a.natAbs : Int) ∧ (a.natAbs : Int) < 18446744073709551616 := by omega
theorem sn_nn {a b : Int} (ha : a < 0) (hb : b < 0) : sn (a * b) = 1 := by have := Int.mul_pos_of_neg_of_neg ha hb; unfold sn; rw [if_neg (by omega), if_neg (by omega)]
theorem sn_np {a b : Int} (ha : a < 0) (hb : 0 < b) : sn (a * b) = -1 := by have := Int.mul_neg_of_neg_of_pos ha hb; unfold sn; rw [if_neg (by omega), if_pos (by omega)]
theorem sn_pn {a b : Int} (ha : 0 < a) (hb : b < 0) : sn (a * b) = -1 := by have := Int.mul_neg_of_pos_of_neg ha hb; unfold sn; rw [if_neg (by omega), if_pos (by omega)]
theorem sn_pp {a b : Int} (ha : 0 < a) (hb : 0 < b) : sn (a * b) = 1 := by have := Int.mul_pos ha hb; unfold sn; rw [if_neg (by omega), if_neg (by omega)]
theorem sn_z1 (b : Int) : sn (0 * b) = 0 := by simp [sn]
theorem sn_z2 (a : Int) : sn (a * 0) = 0 := by simp [sn]
set_option maxHeartbeats 1000000 in
theorem sign_anyC (a b : Int) (w : World) :
    Calls Try.prog 50 #[.int .i64 a, .int .i64 b] w fun e w' => e = .returned (.int .i64 (sn (a * b))) ∧ w' = w := by
  rcases Int.lt_trichotomy a 0 with ha | ha | ha <;> rcases Int.lt_trichotomy b 0 with hb | hb | hb
  · have han : (a != 0) = true := by simp; omega
    have had : decide (a < 0) = true := by simp; omega
    have hae : (a == 0) = false := by simp; omega
    have hbn : (b != 0) = true := by simp; omega
    have hbd : decide (b < 0) = true := by simp; omega
    have hbe : (b == 0) = false := by simp; omega
    rw [sn_nn ha hb]
    go_enter Try.func50, Try.ntmps50
    go_wp2
    go_ret
    exact ⟨rfl, rfl⟩
  · have han : (a != 0) = true := by simp; omega
    have had : decide (a < 0) = true := by simp; omega
    have hae : (a == 0) = false := by simp; omega
    subst hb
    rw [sn_z2 _]
    go_enter Try.func50, Try.ntmps50
    go_wp2
    go_ret
    exact ⟨rfl, rfl⟩
  · have han : (a != 0) = true := by simp; omega
    have had : decide (a < 0) = true := by simp; omega
    have hae : (a == 0) = false := by simp; omega
    have hbn : (b != 0) = true := by simp; omega
    have hbd : decide (b < 0) = false := by simp; omega
    have hbe : (b == 0) = false := by simp; omega
    rw [sn_np ha hb]
    go_enter Try.func50, Try.ntmps50
    go_wp2
    go_ret
    exact ⟨rfl, rfl⟩
  · subst ha
    have hbn : (b != 0) = true := by simp; omega
    have hbd : decide (b < 0) = true := by simp; omega
    have hbe : (b == 0) = false := by simp; omega
    rw [sn_z1 _]
    go_enter Try.func50, Try.ntmps50
    go_wp2
    go_ret
    exact ⟨rfl, rfl⟩
  · subst ha
    subst hb
    rw [sn_z1 _]
    go_enter Try.func50, Try.ntmps50
    go_wp2
    go_ret
    exact ⟨rfl, rfl⟩
  · subst ha
    have hbn : (b != 0) = true := by simp; omega
    have hbd : decide (b < 0) = false := by simp; omega
    have hbe : (b == 0) = false := by simp; omega
    rw [sn_z1 _]
    go_enter Try.func50, Try.ntmps50
    go_wp2
    go_ret
    exact ⟨rfl, rfl⟩
  · have han : (a != 0) = true := by simp; omega
    have had : decide (a < 0) = false := by simp; omega
    have hae : (a == 0) = false := by simp; omega
    have hbn : (b != 0) = true := by simp; omega
    have hbd : decide (b < 0) = true := by simp; omega
    have hbe : (b == 0) = false := by simp; omega
    rw [sn_pn ha hb]
    go_enter Try.func50, Try.ntmps50
    go_wp2
    go_ret
    exact ⟨rfl, rfl⟩
  · have han : (a != 0) = true := by simp; omega
    have had : decide (a < 0) = false := by simp; omega
    have hae : (a == 0) = false := by simp; omega
    subst hb
    rw [sn_z2 _]
    go_enter Try.func50, Try.ntmps50
    go_wp2
    go_ret
    exact ⟨rfl, rfl⟩
  · have han : (a != 0) = true := by simp; omega
    have had : decide (a < 0) = false := by simp; omega
    have hae : (a == 0) = false := by simp; omega
    have hbn : (b != 0) = true := by simp; omega
    have hbd : decide (b < 0) = false := by simp; omega
    have hbe : (b == 0) = false := by simp; omega
    rw [sn_pp ha hb]
    go_enter Try.func50, Try.ntmps50
    go_wp2
    go_ret
    exact ⟨rfl, rfl⟩
set_option maxHeartbeats 400000 in
theorem rcompare_lt (a b c d s t : Int) (w : World) (h : s < t)
    (SG1 : Hid (∀ w, Calls Try.prog 50 #[.int .i64 a, .int .i64 b] w fun e w' => e = .returned (.int .i64 s) ∧ w' = w))
    (SG2 : Hid (∀ w, Calls Try.prog 50 #[.int .i64 c, .int .i64 d] w fun e w' => e = .returned (.int .i64 t) ∧ w' = w)) :
    Calls Try.prog 31 #[.int .i64 a, .int .i64 b, .int .i64 c, .int .i64 d] w fun e w' => e = .returned (.int .i64 (-1)) ∧ Keep w w' := by
  go_enter Try.func31, Try.ntmps31
  go_wp2_with fail
  refine (uq SG1 _).mono ?_
  rintro e w1 ⟨rfl, rfl⟩
  go_wp2_with fail
  refine (uq SG2 _).mono ?_
  rintro e w1 ⟨rfl, rfl⟩
  go_wp2_with fail
  go_ret
  exact ⟨rfl, Keep.refl _⟩
set_option maxHeartbeats 400000 in
theorem rcompare_gt (a b c d s t : Int) (w : World) (h : t < s)
    (SG1 : Hid (∀ w, Calls Try.prog 50 #[.int .i64 a, .int .i64 b] w fun e w' => e = .returned (.int .i64 s) ∧ w' = w))
    (SG2 : Hid (∀ w, Calls Try.prog 50 #[.int .i64 c, .int .i64 d] w fun e w' => e = .returned (.int .i64 t) ∧ w' = w)) :
    Calls Try.prog 31 #[.int .i64 a, .int .i64 b, .int .i64 c, .int .i64 d] w fun e w' => e = .returned (.int .i64 1) ∧ Keep w w' := by
  go_enter Try.func31, Try.ntmps31
  go_wp2_with fail
  refine (uq SG1 _).mono ?_
  rintro e w1 ⟨rfl, rfl⟩
  go_wp2_with fail
  refine (uq SG2 _).mono ?_
  rintro e w1 ⟨rfl, rfl⟩
  go_wp2_with fail
  go_ret
  exact ⟨rfl, Keep.refl _⟩
set_option maxHeartbeats 1000000 in
theorem rcompare_slt (a b c d s ua ub uc ud m1 m2 : Int) (w : World) (ha : ua < 2147483648) (hb : ub < 2147483648) (hc : uc < 2147483648) (hd : ud < 2147483648) (e1 : wrap64 (a * b) = m1) (e2 : wrap64 (c * d) = m2) (h : m1 < m2)
    (SG1 : Hid (∀ w, Calls Try.prog 50 #[.int .i64 a, .int .i64 b] w fun e w' => e = .returned (.int .i64 s) ∧ w' = w))
    (SG2 : Hid (∀ w, Calls Try.prog 50 #[.int .i64 c, .int .i64 d] w fun e w' => e = .returned (.int .i64 s) ∧ w' = w))
    (ZA : Hid (∀ w, Calls Try.prog 36 #[.int .i64 a] w fun e w' => e = .returned (.int .u64 ua) ∧ w' = w))
    (ZB : Hid (∀ w, Calls Try.prog 36 #[.int .i64 b] w fun e w' => e = .returned (.int .u64 ub) ∧ w' = w))
    (ZC : Hid (∀ w, Calls Try.prog 36 #[.int .i64 c] w fun e w' => e = .returned (.int .u64 uc) ∧ w' = w))
    (ZD : Hid (∀ w, Calls Try.prog 36 #[.int .i64 d] w fun e w' => e = .returned (.int .u64 ud) ∧ w' = w)) :
    Calls Try.prog 31 #[.int .i64 a, .int .i64 b, .int .i64 c, .int .i64 d] w fun e w' => e = .returned (.int .i64 (-1)) ∧ Keep w w' := by
  go_enter Try.func31, Try.ntmps31
  go_wp2_with fail
  refine (uq SG1 _).mono ?_
  rintro e w1 ⟨rfl, rfl⟩
  go_wp2_with fail
  refine (uq SG2 _).mono ?_
  rintro e w1 ⟨rfl, rfl⟩
  go_wp2_with fail
  refine (uq ZA _).mono ?_
  rintro e w1 ⟨rfl, rfl⟩
  go_wp2_with fail
  refine (uq ZB _).mono ?_
  rintro e w1 ⟨rfl, rfl⟩
  go_wp2_with fail
  refine (uq ZC _).mono ?_
  rintro e w1 ⟨rfl, rfl⟩
  go_wp2_with fail
  refine (uq ZD _).mono ?_
  rintro e w1 ⟨rfl, rfl⟩
  go_wp2_with fail
  go_ret
  exact ⟨rfl, Keep.refl _⟩
set_option maxHeartbeats 1000000 in
theorem rcompare_sgt (a b c d s ua ub uc ud m1 m2 : Int) (w : World) (ha : ua < 2147483648) (hb : ub < 2147483648) (hc : uc < 2147483648) (hd : ud < 2147483648) (e1 : wrap64 (a * b) = m1) (e2 : wrap64 (c * d) = m2) (h : m2 < m1)
    (SG1 : Hid (∀ w, Calls Try.prog 50 #[.int .i64 a, .int .i64 b] w fun e w' => e = .returned (.int .i64 s) ∧ w' = w))
    (SG2 : Hid (∀ w, Calls Try.prog 50 #[.int .i64 c, .int .i64 d] w fun e w' => e = .returned (.int .i64 s) ∧ w' = w))
    (ZA : Hid (∀ w, Calls Try.prog 36 #[.int .i64 a] w fun e w' => e = .returned (.int .u64 ua) ∧ w' = w))
    (ZB : Hid (∀ w, Calls Try.prog 36 #[.int .i64 b] w fun e w' => e = .returned (.int .u64 ub) ∧ w' = w))
    (ZC : Hid (∀ w, Calls Try.prog 36 #[.int .i64 c] w fun e w' => e = .returned (.int .u64 uc) ∧ w' = w))
    (ZD : Hid (∀ w, Calls Try.prog 36 #[.int .i64 d] w fun e w' => e = .returned (.int .u64 ud) ∧ w' = w)) :
    Calls Try.prog 31 #[.int .i64 a, .int .i64 b, .int .i64 c, .int .i64 d] w fun e w' => e = .returned (.int .i64 1) ∧ Keep w w' := by
  go_enter Try.func31, Try.ntmps31
  go_wp2_with fail
  refine (uq SG1 _).mono ?_
  rintro e w1 ⟨rfl, rfl⟩
  go_wp2_with fail
  refine (uq SG2 _).mono ?_
  rintro e w1 ⟨rfl, rfl⟩
  go_wp2_with fail
  refine (uq ZA _).mono ?_
  rintro e w1 ⟨rfl, rfl⟩
  go_wp2_with fail
  refine (uq ZB _).mono ?_
  rintro e w1 ⟨rfl, rfl⟩
  go_wp2_with fail
  refine (uq ZC _).mono ?_
  rintro e w1 ⟨rfl, rfl⟩
  go_wp2_with fail
  refine (uq ZD _).mono ?_
  rintro e w1 ⟨rfl, rfl⟩
  go_wp2_with fail
  go_ret
  exact ⟨rfl, Keep.refl _⟩
set_option maxHeartbeats 1000000 in
theorem rcompare_seq (a b c d s ua ub uc ud m1 m2 : Int) (w : World) (ha : ua < 2147483648) (hb : ub < 2147483648) (hc : uc < 2147483648) (hd : ud < 2147483648) (e1 : wrap64 (a * b) = m1) (e2 : wrap64 (c * d) = m2) (h : m1 = m2)
    (SG1 : Hid (∀ w, Calls Try.prog 50 #[.int .i64 a, .int .i64 b] w fun e w' => e = .returned (.int .i64 s) ∧ w' = w))
    (SG2 : Hid (∀ w, Calls Try.prog 50 #[.int .i64 c, .int .i64 d] w fun e w' => e = .returned (.int .i64 s) ∧ w' = w))
    (ZA : Hid (∀ w, Calls Try.prog 36 #[.int .i64 a] w fun e w' => e = .returned (.int .u64 ua) ∧ w' = w))
    (ZB : Hid (∀ w, Calls Try.prog 36 #[.int .i64 b] w fun e w' => e = .returned (.int .u64 ub) ∧ w' = w))
    (ZC : Hid (∀ w, Calls Try.prog 36 #[.int .i64 c] w fun e w' => e = .returned (.int .u64 uc) ∧ w' = w))
    (ZD : Hid (∀ w, Calls Try.prog 36 #[.int .i64 d] w fun e w' => e = .returned (.int .u64 ud) ∧ w' = w)) :
    Calls Try.prog 31 #[.int .i64 a, .int .i64 b, .int .i64 c, .int .i64 d] w fun e w' => e = .returned (.int .i64 0) ∧ Keep w w' := by
  subst h
  go_enter Try.func31, Try.ntmps31
  go_wp2_with fail
  refine (uq SG1 _).mono ?_
  rintro e w1 ⟨rfl, rfl⟩
  go_wp2_with fail
  refine (uq SG2 _).mono ?_
  rintro e w1 ⟨rfl, rfl⟩
  go_wp2_with fail
  refine (uq ZA _).mono ?_
  rintro e w1 ⟨rfl, rfl⟩
  go_wp2_with fail
  refine (uq ZB _).mono ?_
  rintro e w1 ⟨rfl, rfl⟩
  go_wp2_with fail
  refine (uq ZC _).mono ?_
  rintro e w1 ⟨rfl, rfl⟩
  go_wp2_with fail
  refine (uq ZD _).mono ?_
  rintro e w1 ⟨rfl, rfl⟩
  go_wp2_with fail
  go_ret
  exact ⟨rfl, Keep.refl _⟩
set_option maxHeartbeats 1000000 in
theorem rcompare_b1 (a b c d s ua ub uc ud cv r : Int) (w : World) (ha : ¬ ua < 2147483648) (ua0 : 0 ≤ ua) (ua1 : ua < 18446744073709551616) (ub0 : 0 ≤ ub) (ub1 : ub < 18446744073709551616) (uc0 : 0 ≤ uc) (uc1 : uc < 18446744073709551616) (ud0 : 0 ≤ ud) (ud1 : ud < 18446744073709551616) (HCV : Hid (cm (ua * ub) (uc * ud) = cv)) (eR : wrap64 (s * cv) = r)
    (SG1 : Hid (∀ w, Calls Try.prog 50 #[.int .i64 a, .int .i64 b] w fun e w' => e = .returned (.int .i64 s) ∧ w' = w))
    (SG2 : Hid (∀ w, Calls Try.prog 50 #[.int .i64 c, .int .i64 d] w fun e w' => e = .returned (.int .i64 s) ∧ w' = w))
    (ZA : Hid (∀ w, Calls Try.prog 36 #[.int .i64 a] w fun e w' => e = .returned (.int .u64 ua) ∧ w' = w))
    (ZB : Hid (∀ w, Calls Try.prog 36 #[.int .i64 b] w fun e w' => e = .returned (.int .u64 ub) ∧ w' = w))
    (ZC : Hid (∀ w, Calls Try.prog 36 #[.int .i64 c] w fun e w' => e = .returned (.int .u64 uc) ∧ w' = w))
    (ZD : Hid (∀ w, Calls Try.prog 36 #[.int .i64 d] w fun e w' => e = .returned (.int .u64 ud) ∧ w' = w)) :
    Calls Try.prog 31 #[.int .i64 a, .int .i64 b, .int .i64 c, .int .i64 d] w fun e w' => e = .returned (.int .i64 r) ∧ Keep w w' := by
  go_enter Try.func31, Try.ntmps31
  go_wp2_with fail
  refine (uq SG1 _).mono ?_
  rintro e w1 ⟨rfl, rfl⟩
  go_wp2_with fail
  refine (uq SG2 _).mono ?_
  rintro e w1 ⟨rfl, rfl⟩
  go_wp2_with fail
  refine (uq ZA _).mono ?_
  rintro e w1 ⟨rfl, rfl⟩
  go_wp2_with fail
  refine (uq ZA _).mono ?_
  rintro e w1 ⟨rfl, rfl⟩
  go_wp2_with fail
  refine (uq ZB _).mono ?_
  rintro e w1 ⟨rfl, rfl⟩
  go_wp2_with fail
  refine (times_ref ua ub _ ua0 ua1 ub0 ub1).mono ?_
  rintro e w2 ⟨v2, l2, rfl, r2, d2, ⟨n0, n1, n2⟩, bb2⟩
  have kb2 : Keep _ w2 := bb2
  have N2 := hide n2
  clear n2 bb2
  go_wp2_with fail
  refine (uq ZC _).mono ?_
  rintro e w1 ⟨rfl, rfl⟩
  go_wp2_with fail
  refine (uq ZD _).mono ?_
  rintro e w1 ⟨rfl, rfl⟩
  go_wp2_with fail
  refine (times_ref uc ud _ uc0 uc1 ud0 ud1).mono ?_
  rintro e w3 ⟨v3, l3, rfl, r3, d3, ⟨m0, m1, m2⟩, bb3⟩
  have kb3 : Keep _ w3 := bb3
  have O1 := hide (order_any v2 v3 l2 l3 _ _ w3 (r2.keep kb3) r3 d2 d3 n0 m0 (by omega) (by omega))
  rw [uq N2, m2, uq HCV] at O1
  clear r2 r3 m2 bb3 d2 d3
  go_wp2_with fail
  refine (uq O1).mono ?_
  rintro e w4 ⟨rfl, rfl⟩
  go_wp2_with fail
  go_ret
  exact ⟨one_ret eR, kb2.trans kb3⟩
set_option maxHeartbeats 1000000 in
theorem rcompare_b2 (a b c d s ua ub uc ud cv r : Int) (w : World) (ha : ua < 2147483648) (hb : ¬ ub < 2147483648) (ua0 : 0 ≤ ua) (ua1 : ua < 18446744073709551616) (ub0 : 0 ≤ ub) (ub1 : ub < 18446744073709551616) (uc0 : 0 ≤ uc) (uc1 : uc < 18446744073709551616) (ud0 : 0 ≤ ud) (ud1 : ud < 18446744073709551616) (HCV : Hid (cm (ua * ub) (uc * ud) = cv)) (eR : wrap64 (s * cv) = r)
    (SG1 : Hid (∀ w, Calls Try.prog 50 #[.int .i64 a, .int .i64 b] w fun e w' => e = .returned (.int .i64 s) ∧ w' = w))
    (SG2 : Hid (∀ w, Calls Try.prog 50 #[.int .i64 c, .int .i64 d] w fun e w' => e = .returned (.int .i64 s) ∧ w' = w))
    (ZA : Hid (∀ w, Calls Try.prog 36 #[.int .i64 a] w fun e w' => e = .returned (.int .u64 ua) ∧ w' = w))
    (ZB : Hid (∀ w, Calls Try.prog 36 #[.int .i64 b] w fun e w' => e = .returned (.int .u64 ub) ∧ w' = w))
    (ZC : Hid (∀ w, Calls Try.prog 36 #[.int .i64 c] w fun e w' => e = .returned (.int .u64 uc) ∧ w' = w))
    (ZD : Hid (∀ w, Calls Try.prog 36 #[.int .i64 d] w fun e w' => e = .returned (.int .u64 ud) ∧ w' = w)) :
    Calls Try.prog 31 #[.int .i64 a, .int .i64 b, .int .i64 c, .int .i64 d] w fun e w' => e = .returned (.int .i64 r) ∧ Keep w w' := by
  go_enter Try.func31, Try.ntmps31
  go_wp2_with fail
  refine (uq SG1 _).mono ?_
  rintro e w1 ⟨rfl, rfl⟩
  go_wp2_with fail
  refine (uq SG2 _).mono ?_
  rintro e w1 ⟨rfl, rfl⟩
  go_wp2_with fail
  refine (uq ZA _).mono ?_
  rintro e w1 ⟨rfl, rfl⟩
  go_wp2_with fail
  refine (uq ZB _).mono ?_
  rintro e w1 ⟨rfl, rfl⟩
  go_wp2_with fail
  refine (uq ZA _).mono ?_
  rintro e w1 ⟨rfl, rfl⟩
  go_wp2_with fail
  refine (uq ZB _).mono ?_
  rintro e w1 ⟨rfl, rfl⟩
  go_wp2_with fail
  refine (times_ref ua ub _ ua0 ua1 ub0 ub1).mono ?_
  rintro e w2 ⟨v2, l2, rfl, r2, d2, ⟨n0, n1, n2⟩, bb2⟩
  have kb2 : Keep _ w2 := bb2
  have N2 := hide n2
  clear n2 bb2
  go_wp2_with fail
  refine (uq ZC _).mono ?_
  rintro e w1 ⟨rfl, rfl⟩
  go_wp2_with fail
  refine (uq ZD _).mono ?_
  rintro e w1 ⟨rfl, rfl⟩
  go_wp2_with fail
  refine (times_ref uc ud _ uc0 uc1 ud0 ud1).mono ?_
  rintro e w3 ⟨v3, l3, rfl, r3, d3, ⟨m0, m1, m2⟩, bb3⟩
  have kb3 : Keep _ w3 := bb3
  have O1 := hide (order_any v2 v3 l2 l3 _ _ w3 (r2.keep kb3) r3 d2 d3 n0 m0 (by omega) (by omega))
  rw [uq N2, m2, uq HCV] at O1
  clear r2 r3 m2 bb3 d2 d3
  go_wp2_with fail
  refine (uq O1).mono ?_
  rintro e w4 ⟨rfl, rfl⟩
  go_wp2_with fail
  go_ret
  exact ⟨one_ret eR, kb2.trans kb3⟩
set_option maxHeartbeats 1000000 in
theorem rcompare_b3 (a b c d s ua ub uc ud cv r : Int) (w : World) (ha : ua < 2147483648) (hb : ub < 2147483648) (hc : ¬ uc < 2147483648) (ua0 : 0 ≤ ua) (ua1 : ua < 18446744073709551616) (ub0 : 0 ≤ ub) (ub1 : ub < 18446744073709551616) (uc0 : 0 ≤ uc) (uc1 : uc < 18446744073709551616) (ud0 : 0 ≤ ud) (ud1 : ud < 18446744073709551616) (HCV : Hid (cm (ua * ub) (uc * ud) = cv)) (eR : wrap64 (s * cv) = r)
    (SG1 : Hid (∀ w, Calls Try.prog 50 #[.int .i64 a, .int .i64 b] w fun e w' => e = .returned (.int .i64 s) ∧ w' = w))
    (SG2 : Hid (∀ w, Calls Try.prog 50 #[.int .i64 c, .int .i64 d] w fun e w' => e = .returned (.int .i64 s) ∧ w' = w))
    (ZA : Hid (∀ w, Calls Try.prog 36 #[.int .i64 a] w fun e w' => e = .returned (.int .u64 ua) ∧ w' = w))
    (ZB : Hid (∀ w, Calls Try.prog 36 #[.int .i64 b] w fun e w' => e = .returned (.int .u64 ub) ∧ w' = w))
    (ZC : Hid (∀ w, Calls Try.prog 36 #[.int .i64 c] w fun e w' => e = .returned (.int .u64 uc) ∧ w' = w))
    (ZD : Hid (∀ w, Calls Try.prog 36 #[.int .i64 d] w fun e w' => e = .returned (.int .u64 ud) ∧ w' = w)) :
    Calls Try.prog 31 #[.int .i64 a, .int .i64 b, .int .i64 c, .int .i64 d] w fun e w' => e = .returned (.int .i64 r) ∧ Keep w w' := by
  go_enter Try.func31, Try.ntmps31
  go_wp2_with fail
  refine (uq SG1 _).mono ?_
  rintro e w1 ⟨rfl, rfl⟩
  go_wp2_with fail
  refine (uq SG2 _).mono ?_
  rintro e w1 ⟨rfl, rfl⟩
  go_wp2_with fail
  refine (uq ZA _).mono ?_
  rintro e w1 ⟨rfl, rfl⟩
  go_wp2_with fail
  refine (uq ZB _).mono ?_
  rintro e w1 ⟨rfl, rfl⟩
  go_wp2_with fail
  refine (uq ZC _).mono ?_
  rintro e w1 ⟨rfl, rfl⟩
  go_wp2_with fail
  refine (uq ZA _).mono ?_
  rintro e w1 ⟨rfl, rfl⟩
  go_wp2_with fail
  refine (uq ZB _).mono ?_
  rintro e w1 ⟨rfl, rfl⟩
  go_wp2_with fail
  refine (times_ref ua ub _ ua0 ua1 ub0 ub1).mono ?_
  rintro e w2 ⟨v2, l2, rfl, r2, d2, ⟨n0, n1, n2⟩, bb2⟩
  have kb2 : Keep _ w2 := bb2
  have N2 := hide n2
  clear n2 bb2
  go_wp2_with fail
  refine (uq ZC _).mono ?_
  rintro e w1 ⟨rfl, rfl⟩
  go_wp2_with fail
  refine (uq ZD _).mono ?_
  rintro e w1 ⟨rfl, rfl⟩
  go_wp2_with fail
  refine (times_ref uc ud _ uc0 uc1 ud0 ud1).mono ?_
  rintro e w3 ⟨v3, l3, rfl, r3, d3, ⟨m0, m1, m2⟩, bb3⟩
  have kb3 : Keep _ w3 := bb3
  have O1 := hide (order_any v2 v3 l2 l3 _ _ w3 (r2.keep kb3) r3 d2 d3 n0 m0 (by omega) (by omega))
  rw [uq N2, m2, uq HCV] at O1
  clear r2 r3 m2 bb3 d2 d3
  go_wp2_with fail
  refine (uq O1).mono ?_
  rintro e w4 ⟨rfl, rfl⟩
  go_wp2_with fail
  go_ret
  exact ⟨one_ret eR, kb2.trans kb3⟩
set_option maxHeartbeats 1000000 in
theorem rcompare_b4 (a b c d s ua ub uc ud cv r : Int) (w : World) (ha : ua < 2147483648) (hb : ub < 2147483648) (hc : uc < 2147483648) (hd : ¬ ud < 2147483648) (ua0 : 0 ≤ ua) (ua1 : ua < 18446744073709551616) (ub0 : 0 ≤ ub) (ub1 : ub < 18446744073709551616) (uc0 : 0 ≤ uc) (uc1 : uc < 18446744073709551616) (ud0 : 0 ≤ ud) (ud1 : ud < 18446744073709551616) (HCV : Hid (cm (ua * ub) (uc * ud) = cv)) (eR : wrap64 (s * cv) = r)
    (SG1 : Hid (∀ w, Calls Try.prog 50 #[.int .i64 a, .int .i64 b] w fun e w' => e = .returned (.int .i64 s) ∧ w' = w))
    (SG2 : Hid (∀ w, Calls Try.prog 50 #[.int .i64 c, .int .i64 d] w fun e w' => e = .returned (.int .i64 s) ∧ w' = w))
    (ZA : Hid (∀ w, Calls Try.prog 36 #[.int .i64 a] w fun e w' => e = .returned (.int .u64 ua) ∧ w' = w))
    (ZB : Hid (∀ w, Calls Try.prog 36 #[.int .i64 b] w fun e w' => e = .returned (.int .u64 ub) ∧ w' = w))
    (ZC : Hid (∀ w, Calls Try.prog 36 #[.int .i64 c] w fun e w' => e = .returned (.int .u64 uc) ∧ w' = w))
    (ZD : Hid (∀ w, Calls Try.prog 36 #[.int .i64 d] w fun e w' => e = .returned (.int .u64 ud) ∧ w' = w)) :
    Calls Try.prog 31 #[.int .i64 a, .int .i64 b, .int .i64 c, .int .i64 d] w fun e w' => e = .returned (.int .i64 r) ∧ Keep w w' := by
  go_enter Try.func31, Try.ntmps31
  go_wp2_with fail
  refine (uq SG1 _).mono ?_
  rintro e w1 ⟨rfl, rfl⟩
  go_wp2_with fail
  refine (uq SG2 _).mono ?_
  rintro e w1 ⟨rfl, rfl⟩
  go_wp2_with fail
  refine (uq ZA _).mono ?_
  rintro e w1 ⟨rfl, rfl⟩
  go_wp2_with fail
  refine (uq ZB _).mono ?_
  rintro e w1 ⟨rfl, rfl⟩
  go_wp2_with fail
  refine (uq ZC _).mono ?_
  rintro e w1 ⟨rfl, rfl⟩
  go_wp2_with fail
  refine (uq ZD _).mono ?_
  rintro e w1 ⟨rfl, rfl⟩
  go_wp2_with fail
  refine (uq ZA _).mono ?_
  rintro e w1 ⟨rfl, rfl⟩
  go_wp2_with fail
  refine (uq ZB _).mono ?_
  rintro e w1 ⟨rfl, rfl⟩
  go_wp2_with fail
  refine (times_ref ua ub _ ua0 ua1 ub0 ub1).mono ?_
  rintro e w2 ⟨v2, l2, rfl, r2, d2, ⟨n0, n1, n2⟩, bb2⟩
  have kb2 : Keep _ w2 := bb2
  have N2 := hide n2
  clear n2 bb2
  go_wp2_with fail
  refine (uq ZC _).mono ?_
  rintro e w1 ⟨rfl, rfl⟩
  go_wp2_with fail
  refine (uq ZD _).mono ?_
  rintro e w1 ⟨rfl, rfl⟩
  go_wp2_with fail
  refine (times_ref uc ud _ uc0 uc1 ud0 ud1).mono ?_
  rintro e w3 ⟨v3, l3, rfl, r3, d3, ⟨m0, m1, m2⟩, bb3⟩
  have kb3 : Keep _ w3 := bb3
  have O1 := hide (order_any v2 v3 l2 l3 _ _ w3 (r2.keep kb3) r3 d2 d3 n0 m0 (by omega) (by omega))
  rw [uq N2, m2, uq HCV] at O1
  clear r2 r3 m2 bb3 d2 d3
  go_wp2_with fail
  refine (uq O1).mono ?_
  rintro e w4 ⟨rfl, rfl⟩
  go_wp2_with fail
  go_ret
  exact ⟨one_ret eR, kb2.trans kb3⟩
theorem cm_bd (x y : Int) : -1 ≤ cm x y ∧ cm x y ≤ 1 := by unfold cm; split <;> (try split) <;> omega
theorem cm_sn_lt {x y : Int} (h : sn x < sn y) : cm x y = -1 := by
  have : x < y := by unfold sn at h; split at h <;> split at h <;> (try split at h) <;> (try split at h) <;> omega
  unfold cm; rw [if_neg (by omega), if_pos this]
theorem cm_sn_gt {x y : Int} (h : sn y < sn x) : cm x y = 1 := by
  have : y < x := by unfold sn at h; split at h <;> split at h <;> (try split at h) <;> (try split at h) <;> omega
  unfold cm; rw [if_neg (by omega), if_neg (by omega)]
theorem cm_size {x y : Int} (h : sn x = sn y) : sn x * cm (x.natAbs : Int) (y.natAbs : Int) = cm x y := by
  rcases Int.lt_trichotomy x 0 with hx | hx | hx
  · have e : sn x = -1 := by unfold sn; rw [if_neg (by omega), if_pos hx]
    have hy : y < 0 := by rw [e] at h; unfold sn at h; split at h <;> (try split at h) <;> omega
    rw [e]
    unfold cm
    by_cases h1 : x = y
    · rw [if_pos (by omega), if_pos h1]; rfl
    · by_cases h2 : x < y
      · rw [if_neg (by omega), if_neg (by omega), if_neg h1, if_pos h2]; rfl
      · rw [if_neg (by omega), if_pos (by omega), if_neg h1, if_neg h2]; rfl
  · subst hx
    have hy : y = 0 := by unfold sn at h; simp at h; split at h <;> (try split at h) <;> simp_all
    subst hy
    rfl
  · have e : sn x = 1 := by unfold sn; rw [if_neg (by omega), if_neg (by omega)]
    have hy : 0 < y := by rw [e] at h; unfold sn at h; split at h <;> (try split at h) <;> omega
    rw [e, Int.one_mul, show (x.natAbs : Int) = x by omega, show (y.natAbs : Int) = y by omega]
theorem small_prod {a b : Int} (ha : (a.natAbs : Int) < 2147483648) (hb : (b.natAbs : Int) < 2147483648) : wrap64 (a * b) = a * b := by
  have e := Int.natAbs_mul a b
  have m : a.natAbs * b.natAbs ≤ 2147483647 * 2147483647 := Nat.mul_le_mul (by omega) (by omega)
  generalize a.natAbs * b.natAbs = u at e m
  unfold wrap64
  omega
theorem rcompare_any (a b c d : Int) (w : World) (h1 : -9223372036854775808 ≤ a) (h2 : a ≤ 9223372036854775807) (h3 : -9223372036854775808 ≤ b) (h4 : b ≤ 9223372036854775807)
    (k1 : -9223372036854775808 ≤ c) (k2 : c ≤ 9223372036854775807) (k3 : -9223372036854775808 ≤ d) (k4 : d ≤ 9223372036854775807) :
    Calls Try.prog 31 #[.int .i64 a, .int .i64 b, .int .i64 c, .int .i64 d] w fun e w' => e = .returned (.int .i64 (cm (a * b) (c * d))) ∧ Keep w w' := by
  have SG1 : Hid (∀ w, _) := fun w => sign_anyC a b w
  have SG2 : Hid (∀ w, _) := fun w => sign_anyC c d w
  rcases Int.lt_trichotomy (sn (a * b)) (sn (c * d)) with hs | hs | hs
  · rw [cm_sn_lt hs]
    exact rcompare_lt a b c d _ _ w hs SG1 SG2
  · have ZA : Hid (∀ w, _) := fun w => csize_any a w h1 h2
    have ZB : Hid (∀ w, _) := fun w => csize_any b w h3 h4
    have ZC : Hid (∀ w, _) := fun w => csize_any c w k1 k2
    have ZD : Hid (∀ w, _) := fun w => csize_any d w k3 k4
    have ba := csize_bd h1 h2
    have bb := csize_bd h3 h4
    have bc := csize_bd k1 k2
    have bd := csize_bd k3 k4
    rw [← hs] at SG2
    have key : wrap64 (sn (a * b) * cm ((a.natAbs : Int) * (b.natAbs : Int)) ((c.natAbs : Int) * (d.natAbs : Int))) = cm (a * b) (c * d) := by
      rw [csizes_mul, csizes_mul, cm_size hs]
      have := cm_bd (a * b) (c * d)
      unfold wrap64; omega
    by_cases qa : (a.natAbs : Int) < 2147483648
    · by_cases qb : (b.natAbs : Int) < 2147483648
      · by_cases qc : (c.natAbs : Int) < 2147483648
        · by_cases qd : (d.natAbs : Int) < 2147483648
          · have e1 := small_prod qa qb
            have e2 := small_prod qc qd
            rcases Int.lt_trichotomy (a * b) (c * d) with hm | hm | hm
            · rw [show cm (a * b) (c * d) = -1 by unfold cm; rw [if_neg (by omega), if_pos hm]]
              exact rcompare_slt a b c d _ _ _ _ _ _ _ w qa qb qc qd e1 e2 hm SG1 SG2 ZA ZB ZC ZD
            · rw [show cm (a * b) (c * d) = 0 by unfold cm; rw [if_pos hm]]
              exact rcompare_seq a b c d _ _ _ _ _ _ _ w qa qb qc qd e1 e2 hm SG1 SG2 ZA ZB ZC ZD
            · rw [show cm (a * b) (c * d) = 1 by unfold cm; rw [if_neg (by omega), if_neg (by omega)]]
              exact rcompare_sgt a b c d _ _ _ _ _ _ _ w qa qb qc qd e1 e2 hm SG1 SG2 ZA ZB ZC ZD
          · exact rcompare_b4 a b c d _ _ _ _ _ _ _ w qa qb qc qd ba.1 ba.2 bb.1 bb.2 bc.1 bc.2 bd.1 bd.2 (hide rfl) key SG1 SG2 ZA ZB ZC ZD
        · exact rcompare_b3 a b c d _ _ _ _ _ _ _ w qa qb qc ba.1 ba.2 bb.1 bb.2 bc.1 bc.2 bd.1 bd.2 (hide rfl) key SG1 SG2 ZA ZB ZC ZD
      · exact rcompare_b2 a b c d _ _ _ _ _ _ _ w qa qb ba.1 ba.2 bb.1 bb.2 bc.1 bc.2 bd.1 bd.2 (hide rfl) key SG1 SG2 ZA ZB ZC ZD
    · exact rcompare_b1 a b c d _ _ _ _ _ _ _ w qa ba.1 ba.2 bb.1 bb.2 bc.1 bc.2 bd.1 bd.2 (hide rfl) key SG1 SG2 ZA ZB ZC ZD
  · rw [cm_sn_gt hs]
    exact rcompare_gt a b c d _ _ w hs SG1 SG2
end Go.Proofs.Ytdgmndjofbdgeaa
