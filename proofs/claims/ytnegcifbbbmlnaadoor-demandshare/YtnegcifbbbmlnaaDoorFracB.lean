/- Package frac: the greatest common divisor of sizes; numbers of 128 bits. -/
import Derived.Test.YtnegcifbbbmlnaaDoorFracA
import Derived.Test.YtnegcifbbbmlnaaDoorCarry
import Derived.Test.YtnegcifbbbmlnaaDoorDiv
import Derived.Test.YtnegcifbbbmlnaaDoorShelf
namespace Go.Proofs.YtnegcifbbbmlnaaDoor
open Go.RowKit
set_option linter.unusedVariables false

/-! ### divisor -/
set_option maxHeartbeats 400000 in
theorem divisor_yes (a b x y G : Int) (w : World) (ea : wrap64 a = x) (eb : wrap64 b = y) (hG : IntKind.u64.wrap G = G) (T : Hid (∀ w, Calls Tryd.prog 50 #[.int .i64 x, .int .i64 y] w fun e w' => e = .returned (.tuple #[.int .i64 G, .int .i64 0]) ∧ Keep w w')) :
    Calls Tryd.prog 66 #[.int .u64 a, .int .u64 b] w fun e w' => e = .returned (.int .u64 G) ∧ Keep w w' := by
  go_enter Tryd.func66, Tryd.ntmps66
  go_wp2_with fail
  refine (unhide T _).mono ?_
  rintro e w1 ⟨rfl, hk⟩
  go_wp2_with fail
  go_ret
  exact ⟨rfl, hk⟩
set_option maxHeartbeats 400000 in
theorem divisor_no (a b x y : Int) (w : World) (ea : wrap64 a = x) (eb : wrap64 b = y) (T : Hid (∀ w, Calls Tryd.prog 50 #[.int .i64 x, .int .i64 y] w fun e w' => e = .returned (.tuple #[.int .i64 0, .int .i64 2]) ∧ Keep w w')) :
    Calls Tryd.prog 66 #[.int .u64 a, .int .u64 b] w fun e w' => e = .returned (.int .u64 9223372036854775808) ∧ Keep w w' := by
  go_enter Tryd.func66, Tryd.ntmps66
  go_wp2_with fail
  refine (unhide T _).mono ?_
  rintro e w1 ⟨rfl, hk⟩
  go_wp2_with fail
  go_ret
  exact ⟨rfl, hk⟩
theorem wrap_size {a : Nat} (h : a ≤ 9223372036854775808) : (wrap64 (a : Int)).natAbs = a ∧ -9223372036854775808 ≤ wrap64 (a : Int) ∧ wrap64 (a : Int) ≤ 9223372036854775807 := by
  unfold wrap64; omega
theorem divisor_any (a b : Nat) (w : World) (ha : a ≤ 9223372036854775808) (hb : b ≤ 9223372036854775808) (h0 : 0 < a ∨ 0 < b) :
    Calls Tryd.prog 66 #[.int .u64 (a : Int), .int .u64 (b : Int)] w fun e w' => e = .returned (.int .u64 ((Nat.gcd a b : Nat) : Int)) ∧ Keep w w' := by
  obtain ⟨a1, a2, a3⟩ := wrap_size ha
  obtain ⟨b1, b2, b3⟩ := wrap_size hb
  have hg : Nat.gcd a b ≤ 9223372036854775808 := by
    rcases h0 with h | h
    · exact Nat.le_trans (Nat.le_of_dvd h (Nat.gcd_dvd_left a b)) ha
    · exact Nat.le_trans (Nat.le_of_dvd h (Nat.gcd_dvd_right a b)) hb
  have e : Int.gcd (wrap64 (a : Int)) (wrap64 (b : Int)) = Nat.gcd a b := by rw [Int.gcd, a1, b1]
  have T : Hid (∀ w, _) := fun w => gcd_any (wrap64 (a : Int)) (wrap64 (b : Int)) w a2 a3 b2 b3
  rw [e] at T
  by_cases h : Nat.gcd a b = 9223372036854775808
  · rw [h, ans_no (by omega), err_no (by omega)] at T
    rw [h]
    exact divisor_no _ _ _ _ w rfl rfl T
  · rw [ans_yes (by omega) (by omega), err_yes (by omega) (by omega)] at T
    exact divisor_yes _ _ _ _ _ w rfl rfl (by rw [IntKind.wrap_u64]; omega) T

/-! ### numbers of 128 bits -/
theorem add64_c (x y c : Int) (hx : 0 ≤ x) (hy : 0 ≤ y) (hc : 0 ≤ c) (hc' : c ≤ 1) (w : World) : (callFunc 99 #[.int .u64 x, .int .u64 y, .int .u64 c]).run Tryd.prog w =
    .ok (.value (.tuple #[.int .u64 ((x + y + c) % 18446744073709551616), .int .u64 ((x + y + c) / 18446744073709551616)])) w := by
  rw [run_callFunc_extern Tryd.func99 (by kernel_rfl) (by kernel_rfl) (by kernel_rfl) (e := add64Entry) (by kernel_rfl), run_add64 (P := Tryd.prog) x y c hx hy hc hc' w]
  simp only [Result.andThen]
/-- the borrow of x - y - b -/
def bw (x y b : Int) : Int := if x < y + b then 1 else 0
theorem sub64_c (x y b : Int) (hx : 0 ≤ x) (hx' : x < 18446744073709551616) (hy : 0 ≤ y) (hy' : y < 18446744073709551616) (hb : 0 ≤ b) (hb' : b ≤ 1) (w : World) : (callFunc 89 #[.int .u64 x, .int .u64 y, .int .u64 b]).run Tryd.prog w =
    .ok (.value (.tuple #[.int .u64 ((x - y - b) % 18446744073709551616), .int .u64 (bw x y b)])) w := by
  obtain ⟨x, rfl⟩ := Int.eq_ofNat_of_zero_le hx
  obtain ⟨y, rfl⟩ := Int.eq_ofNat_of_zero_le hy
  obtain ⟨b, rfl⟩ := Int.eq_ofNat_of_zero_le hb
  have h := run_sub64 (P := Tryd.prog) x y b (by omega) w
  have e1 : (((x + 18446744073709551616 - y - b) % 18446744073709551616 : Nat) : Int) = ((x : Int) - y - b) % 18446744073709551616 := by omega
  have e2 : ((if x < y + b then 1 else 0 : Nat) : Int) = bw x y b := by unfold bw; split <;> split <;> omega
  rw [run_callFunc_extern Tryd.func89 (by kernel_rfl) (by kernel_rfl) (by kernel_rfl) (e := sub64Entry) (by kernel_rfl)]
  have h' : (sub64Entry #[.int .u64 x, .int .u64 y, .int .u64 b]).run Tryd.prog w = .ok (.tuple #[.int .u64 (((x : Int) - y - b) % 18446744073709551616), .int .u64 (bw x y b)]) w := by
    rw [← e1, ← e2]; exact h
  rw [h']
  simp only [Result.andThen]
/-- halves of a number of 128 bits fit -/
theorem half_bd {x : Int} (h0 : 0 ≤ x) (h1 : x < 340282366920938463463374607431768211456) : 0 ≤ hiOf x ∧ hiOf x < 18446744073709551616 ∧ 0 ≤ loOf x ∧ loOf x < 18446744073709551616 := by unfold hiOf loOf; omega
set_option maxHeartbeats 400000 in
theorem product_any (a b : Int) (w : World) (ha : 0 ≤ a) (ha' : a < 18446744073709551616) (hb : 0 ≤ b) (hb' : b < 18446744073709551616) :
    Calls Tryd.prog 67 #[.int .u64 a, .int .u64 b] w fun e w' => e = .returned (.agg #[.int .u64 (hiOf (a * b)), .int .u64 (loOf (a * b))]) ∧ Keep w w' := by
  have T : Hid (∀ w, _) := fun w => mul64_any a b w ha ha' hb hb'
  go_enter Tryd.func67, Tryd.ntmps67
  go_wp2_with fail
  refine (unhide T _).mono ?_
  rintro e w1 ⟨H, L, rfl, h1, h2, h3, h4, h5, rfl⟩
  obtain ⟨e1, e2⟩ := halves_one (unhide h5) h3 h4
  have E1 := hide e1
  have E2 := hide e2
  clear e1 e2 h5
  go_wp2_with fail
  refine bodyPost_ret (v := .agg #[.int .u64 H, .int .u64 L]) (by simp [results, Tryd.results67, go_sem]) rfl ⟨?_, by repeat (first | apply keep_ext | apply Keep.alloc | apply Keep.drew | exact Keep.refl _)⟩
  rw [unhide E1, unhide E2]
theorem over_num {x d : Int} (hx : 0 ≤ x) (hd : 0 < d) : hiOf x / d = hiOf (x / d) ∧ (hiOf x % d * 18446744073709551616 + loOf x) / d = loOf (x / d) := by
  have hb := halves x
  have e1 := Int.emod_add_mul_ediv (hiOf x) d
  have hr0 := Int.emod_nonneg (hiOf x) (show d ≠ 0 by omega)
  have hr1 := Int.emod_lt_of_pos (hiOf x) hd
  obtain ⟨q, hq⟩ : ∃ q, q = hiOf x / d := ⟨_, rfl⟩
  obtain ⟨r, hr⟩ : ∃ r, r = hiOf x % d := ⟨_, rfl⟩
  rw [← hq, ← hr] at e1
  rw [← hr] at hr0 hr1 ⊢
  rw [← hq]
  have e2 : x = (r * 18446744073709551616 + loOf x) + d * (q * 18446744073709551616) := by
    rw [← Int.mul_assoc]
    generalize d * q = P at *
    omega
  have h3 : x / d = (r * 18446744073709551616 + loOf x) / d + q * 18446744073709551616 := by
    conv => lhs; rw [e2]
    exact Int.add_mul_ediv_left _ _ (by omega)
  have h4 : 0 ≤ (r * 18446744073709551616 + loOf x) / d := Int.ediv_nonneg (by omega) (by omega)
  have h5 : (r * 18446744073709551616 + loOf x) / d < 18446744073709551616 := by
    apply Int.ediv_lt_of_lt_mul hd
    have : (r + 1) * 18446744073709551616 ≤ d * 18446744073709551616 := Int.mul_le_mul_of_nonneg_right (by omega) (by omega)
    have hc : 18446744073709551616 * d = d * 18446744073709551616 := Int.mul_comm _ _
    omega
  have := halves_one (x := x / d) (H := q) (L := (r * 18446744073709551616 + loOf x) / d) (by omega) h4 h5
  exact ⟨this.1.symm, this.2.symm⟩
end Go.Proofs.YtnegcifbbbmlnaaDoor
