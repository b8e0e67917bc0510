/- Package frac: the greatest common divisor of sizes; numbers of 128 bits. -/
import Derived.Test.YtdgmndjofbdgeaaFracA
import Derived.Test.YtdgmndjofbdgeaaCarry
import Derived.Test.YtdgmndjofbdgeaaShelf
namespace Go.Proofs.Ytdgmndjofbdgeaa
open Go.RowKit
set_option linter.unusedVariables false

/-! ### divisor -/
set_option maxHeartbeats 400000 in
theorem divisor_yes (a b x y G : Int) (w : World) (ea : wrap64 a = x) (eb : wrap64 b = y) (hG : IntKind.u64.wrap G = G) (T : Hid (∀ w, Calls Try.prog 68 #[.int .i64 x, .int .i64 y] w fun e w' => e = .returned (.tuple #[.int .i64 G, .int .i64 0]) ∧ Keep w w')) :
    Calls Try.prog 70 #[.int .u64 a, .int .u64 b] w fun e w' => e = .returned (.int .u64 G) ∧ Keep w w' := by
  go_enter Try.func70, Try.ntmps70
  go_wp2_with fail
  refine (uq T _).mono ?_
  rintro e w1 ⟨rfl, hk⟩
  go_wp2_with fail
  go_ret
  exact ⟨rfl, hk⟩
set_option maxHeartbeats 400000 in
theorem divisor_no (a b x y : Int) (w : World) (ea : wrap64 a = x) (eb : wrap64 b = y) (T : Hid (∀ w, Calls Try.prog 68 #[.int .i64 x, .int .i64 y] w fun e w' => e = .returned (.tuple #[.int .i64 0, .int .i64 2]) ∧ Keep w w')) :
    Calls Try.prog 70 #[.int .u64 a, .int .u64 b] w fun e w' => e = .returned (.int .u64 9223372036854775808) ∧ Keep w w' := by
  go_enter Try.func70, Try.ntmps70
  go_wp2_with fail
  refine (uq T _).mono ?_
  rintro e w1 ⟨rfl, hk⟩
  go_wp2_with fail
  go_ret
  exact ⟨rfl, hk⟩
theorem wrap_size {a : Nat} (h : a ≤ 9223372036854775808) : (wrap64 (a : Int)).natAbs = a ∧ -9223372036854775808 ≤ wrap64 (a : Int) ∧ wrap64 (a : Int) ≤ 9223372036854775807 := by
  unfold wrap64; omega
theorem divisor_any (a b : Nat) (w : World) (ha : a ≤ 9223372036854775808) (hb : b ≤ 9223372036854775808) (h0 : 0 < a ∨ 0 < b) :
    Calls Try.prog 70 #[.int .u64 (a : Int), .int .u64 (b : Int)] w fun e w' => e = .returned (.int .u64 ((Nat.gcd a b : Nat) : Int)) ∧ Keep w w' := by
  obtain ⟨a1, a2, a3⟩ := wrap_size ha
  obtain ⟨b1, b2, b3⟩ := wrap_size hb
  have hg : Nat.gcd a b ≤ 9223372036854775808 := by
    rcases h0 with h | h
    · exact Nat.le_trans (Nat.le_of_dvd h (Nat.gcd_dvd_left a b)) ha
    · exact Nat.le_trans (Nat.le_of_dvd h (Nat.gcd_dvd_right a b)) hb
  have e : Int.gcd (wrap64 (a : Int)) (wrap64 (b : Int)) = Nat.gcd a b := by rw [Int.gcd, a1, b1]
  have T : Hid (∀ w, _) := fun w => gcd_any (wrap64 (a : Int)) (wrap64 (b : Int)) w a2 a3 b2 b3
  rw [e] at T
  by_cases h : Nat.gcd a b = 9223372036854775808
  · rw [h, ans_no (by omega), err_no (by omega)] at T
    rw [h]
    exact divisor_no _ _ _ _ w rfl rfl T
  · rw [ans_yes (by omega) (by omega), err_yes (by omega) (by omega)] at T
    exact divisor_yes _ _ _ _ _ w rfl rfl (by rw [IntKind.wrap_u64]; omega) T

/-! ### numbers of 128 bits -/
theorem add64_c (x y c : Int) (hx : 0 ≤ x) (hy : 0 ≤ y) (hc : 0 ≤ c) (hc' : c ≤ 1) (w : World) : (callFunc 80 #[.int .u64 x, .int .u64 y, .int .u64 c]).run Try.prog w =
    .ok (.value (.tuple #[.int .u64 ((x + y + c) % 18446744073709551616), .int .u64 ((x + y + c) / 18446744073709551616)])) w := by
  rw [run_callFunc_extern Try.func80 (by kernel_rfl) (by kernel_rfl) (by kernel_rfl) (e := add64Entry) (by kernel_rfl), run_add64 (P := Try.prog) x y c hx hy hc hc' w]
  simp only [Result.andThen]
/-- the borrow of x - y - b -/
def bw (x y b : Int) : Int := if x < y + b then 1 else 0
theorem sub64_c (x y b : Int) (hx : 0 ≤ x) (hx' : x < 18446744073709551616) (hy : 0 ≤ y) (hy' : y < 18446744073709551616) (hb : 0 ≤ b) (hb' : b ≤ 1) (w : World) : (callFunc 81 #[.int .u64 x, .int .u64 y, .int .u64 b]).run Try.prog w =
    .ok (.value (.tuple #[.int .u64 ((x - y - b) % 18446744073709551616), .int .u64 (bw x y b)])) w := by
  obtain ⟨x, rfl⟩ := Int.eq_ofNat_of_zero_le hx
  obtain ⟨y, rfl⟩ := Int.eq_ofNat_of_zero_le hy
  obtain ⟨b, rfl⟩ := Int.eq_ofNat_of_zero_le hb
  have h := run_sub64 (P := Try.prog) x y b (by omega) w
  have e1 : (((x + 18446744073709551616 - y - b) % 18446744073709551616 : Nat) : Int) = ((x : Int) - y - b) % 18446744073709551616 := by omega
  have e2 : ((if x < y + b then 1 else 0 : Nat) : Int) = bw x y b := by unfold bw; split <;> split <;> omega
  rw [run_callFunc_extern Try.func81 (by kernel_rfl) (by kernel_rfl) (by kernel_rfl) (e := sub64Entry) (by kernel_rfl)]
  have h' : (sub64Entry #[.int .u64 x, .int .u64 y, .int .u64 b]).run Try.prog w = .ok (.tuple #[.int .u64 (((x : Int) - y - b) % 18446744073709551616), .int .u64 (bw x y b)]) w := by
    rw [← e1, ← e2]; exact h
  rw [h']
  simp only [Result.andThen]
/-- halves of a number of 128 bits fit -/
theorem half_bd {x : Int} (h0 : 0 ≤ x) (h1 : x < 340282366920938463463374607431768211456) : 0 ≤ hiOf x ∧ hiOf x < 18446744073709551616 ∧ 0 ≤ loOf x ∧ loOf x < 18446744073709551616 := by unfold hiOf loOf; omega
set_option maxHeartbeats 400000 in
theorem product_any (a b : Int) (w : World) (ha : 0 ≤ a) (ha' : a < 18446744073709551616) (hb : 0 ≤ b) (hb' : b < 18446744073709551616) :
    Calls Try.prog 71 #[.int .u64 a, .int .u64 b] w fun e w' => e = .returned (.agg #[.int .u64 (hiOf (a * b)), .int .u64 (loOf (a * b))]) ∧ Keep w w' := by
  have T : Hid (∀ w, _) := fun w => mul64_any a b w ha ha' hb hb'
  go_enter Try.func71, Try.ntmps71
  go_wp2_with fail
  refine (uq T _).mono ?_
  rintro e w1 ⟨H, L, rfl, h1, h2, h3, h4, h5, rfl⟩
  obtain ⟨e1, e2⟩ := halves_one (uq h5) h3 h4
  have E1 := hide e1
  have E2 := hide e2
  clear e1 e2 h5
  go_wp2_with fail
  refine bodyPost_ret (v := .agg #[.int .u64 H, .int .u64 L]) (by simp [results, Try.results71, go_sem]) rfl ⟨?_, by repeat (first | apply keep_ext | apply Keep.alloc | apply Keep.drew | exact Keep.refl _)⟩
  rw [uq E1, uq E2]
set_option maxHeartbeats 400000 in
theorem wless_core (H L H2 L2 : Int) (b : Bool) (w : World) (hb : (if H = H2 then decide (L < L2) else decide (H < H2)) = b) :
    Calls Try.prog 73 #[.agg #[.int .u64 H, .int .u64 L], .agg #[.int .u64 H2, .int .u64 L2]] w fun e w' => e = .returned (.bool b) ∧ Keep w w' := by
  by_cases h : H = H2
  · subst h
    rw [if_pos rfl] at hb
    go_enter Try.func73, Try.ntmps73
    go_wp2_with fail
    go_ret
    exact ⟨rfl, by repeat (first | apply keep_ext | apply Keep.alloc | apply Keep.drew | exact Keep.refl _)⟩
  · rw [if_neg h] at hb
    have h' : (H == H2) = false := by simpa using h
    go_enter Try.func73, Try.ntmps73
    go_wp2_with fail
    go_ret
    exact ⟨rfl, by repeat (first | apply keep_ext | apply Keep.alloc | apply Keep.drew | exact Keep.refl _)⟩
theorem wless_any (x y : Int) (w : World) (hx : 0 ≤ x) (hy : 0 ≤ y) :
    Calls Try.prog 73 #[.agg #[.int .u64 (hiOf x), .int .u64 (loOf x)], .agg #[.int .u64 (hiOf y), .int .u64 (loOf y)]] w fun e w' => e = .returned (.bool (decide (x < y))) ∧ Keep w w' := by
  refine wless_core _ _ _ _ _ w ?_
  by_cases h : hiOf x = hiOf y
  · rw [if_pos h]
    unfold hiOf at h
    unfold loOf
    rw [decide_eq_decide]; omega
  · rw [if_neg h]
    unfold hiOf at *
    rw [decide_eq_decide]; omega
set_option maxHeartbeats 400000 in
theorem wadd_core (H L H2 L2 l c h c2 : Int) (w : World)
    (S1 : ∀ w, (callFunc 80 #[.int .u64 L, .int .u64 L2, .int .u64 0]).run Try.prog w = .ok (.value (.tuple #[.int .u64 l, .int .u64 c])) w)
    (S2 : ∀ w, (callFunc 80 #[.int .u64 H, .int .u64 H2, .int .u64 c]).run Try.prog w = .ok (.value (.tuple #[.int .u64 h, .int .u64 c2])) w) :
    Calls Try.prog 72 #[.agg #[.int .u64 H, .int .u64 L], .agg #[.int .u64 H2, .int .u64 L2]] w fun e w' => e = .returned (.agg #[.int .u64 h, .int .u64 l]) ∧ Keep w w' := by
  go_enter Try.func72, Try.ntmps72
  go_wp2
  exact bodyPost_ret (v := .agg #[.int .u64 h, .int .u64 l]) (by simp [results, Try.results72, go_sem]) rfl ⟨rfl, by repeat (first | apply keep_ext | apply Keep.alloc | apply Keep.drew | exact Keep.refl _)⟩
theorem wadd_any (x y : Int) (w : World) (hx : 0 ≤ x) (hy : 0 ≤ y) (h : x + y < 340282366920938463463374607431768211456) :
    Calls Try.prog 72 #[.agg #[.int .u64 (hiOf x), .int .u64 (loOf x)], .agg #[.int .u64 (hiOf y), .int .u64 (loOf y)]] w fun e w' => e = .returned (.agg #[.int .u64 (hiOf (x + y)), .int .u64 (loOf (x + y))]) ∧ Keep w w' := by
  obtain ⟨x1, x2, x3, x4⟩ := half_bd hx (show x < 340282366920938463463374607431768211456 by omega)
  obtain ⟨y1, y2, y3, y4⟩ := half_bd hy (show y < 340282366920938463463374607431768211456 by omega)
  have k := wadd_core _ _ _ _ _ _ _ _ w (add64_0 (loOf x) (loOf y) x3 y3) (add64_c (hiOf x) (hiOf y) ((loOf x + loOf y) / 18446744073709551616) x1 y1 (by omega) (by omega))
  have n1 : (hiOf x + hiOf y + (loOf x + loOf y) / 18446744073709551616) % 18446744073709551616 = hiOf (x + y) := by unfold hiOf loOf; omega
  have n2 : (loOf x + loOf y) % 18446744073709551616 = loOf (x + y) := by unfold loOf; omega
  rw [n1, n2] at k
  exact k
set_option maxHeartbeats 400000 in
theorem wsub_core (H L H2 L2 l c h c2 : Int) (w : World)
    (S1 : ∀ w, (callFunc 81 #[.int .u64 L, .int .u64 L2, .int .u64 0]).run Try.prog w = .ok (.value (.tuple #[.int .u64 l, .int .u64 c])) w)
    (S2 : ∀ w, (callFunc 81 #[.int .u64 H, .int .u64 H2, .int .u64 c]).run Try.prog w = .ok (.value (.tuple #[.int .u64 h, .int .u64 c2])) w) :
    Calls Try.prog 74 #[.agg #[.int .u64 H, .int .u64 L], .agg #[.int .u64 H2, .int .u64 L2]] w fun e w' => e = .returned (.agg #[.int .u64 h, .int .u64 l]) ∧ Keep w w' := by
  go_enter Try.func74, Try.ntmps74
  go_wp2
  exact bodyPost_ret (v := .agg #[.int .u64 h, .int .u64 l]) (by simp [results, Try.results74, go_sem]) rfl ⟨rfl, by repeat (first | apply keep_ext | apply Keep.alloc | apply Keep.drew | exact Keep.refl _)⟩
theorem wsub_any (x y : Int) (w : World) (hy : 0 ≤ y) (h : y ≤ x) (hx : x < 340282366920938463463374607431768211456) :
    Calls Try.prog 74 #[.agg #[.int .u64 (hiOf x), .int .u64 (loOf x)], .agg #[.int .u64 (hiOf y), .int .u64 (loOf y)]] w fun e w' => e = .returned (.agg #[.int .u64 (hiOf (x - y)), .int .u64 (loOf (x - y))]) ∧ Keep w w' := by
  obtain ⟨x1, x2, x3, x4⟩ := half_bd (show 0 ≤ x by omega) hx
  obtain ⟨y1, y2, y3, y4⟩ := half_bd hy (show y < 340282366920938463463374607431768211456 by omega)
  have bb : 0 ≤ bw (loOf x) (loOf y) 0 ∧ bw (loOf x) (loOf y) 0 ≤ 1 := by unfold bw; split <;> omega
  have k := wsub_core _ _ _ _ _ _ _ _ w (sub64_c (loOf x) (loOf y) 0 x3 x4 y3 y4 (by omega) (by omega)) (sub64_c (hiOf x) (hiOf y) (bw (loOf x) (loOf y) 0) x1 x2 y1 y2 bb.1 bb.2)
  have n1 : (hiOf x - hiOf y - bw (loOf x) (loOf y) 0) % 18446744073709551616 = hiOf (x - y) := by unfold bw hiOf loOf; split <;> omega
  have n2 : (loOf x - loOf y - 0) % 18446744073709551616 = loOf (x - y) := by unfold loOf; omega
  rw [n1, n2] at k
  exact k
set_option maxHeartbeats 400000 in
theorem wrem_core (H L d r : Int) (w : World) (T : Hid (∀ w, Calls Try.prog 82 #[.int .u64 H, .int .u64 L, .int .u64 d] w fun e w' => e = .returned (.int .u64 r) ∧ Keep w w')) :
    Calls Try.prog 75 #[.agg #[.int .u64 H, .int .u64 L], .int .u64 d] w fun e w' => e = .returned (.int .u64 r) ∧ Keep w w' := by
  go_enter Try.func75, Try.ntmps75
  go_wp2_with fail
  refine ((uq T) _).mono ?_
  rintro e w2 ⟨rfl, hk⟩
  obtain ⟨o1, k1, rfl⟩ := hk.ext
  clear hk
  go_wp2_with fail
  go_ret
  exact ⟨rfl, by repeat (first | apply keep_ext | apply Keep.alloc | apply Keep.drew | exact Keep.refl _)⟩
theorem wrem_any (x d : Int) (w : World) (hx : 0 ≤ x) (hx' : x < 340282366920938463463374607431768211456) (hd : 0 < d) (hd' : d < 18446744073709551616) :
    Calls Try.prog 75 #[.agg #[.int .u64 (hiOf x), .int .u64 (loOf x)], .int .u64 d] w fun e w' => e = .returned (.int .u64 (x % d)) ∧ Keep w w' := by
  obtain ⟨x1, x2, x3, x4⟩ := half_bd hx hx'
  refine wrem_core _ _ _ _ w (hide fun w => ?_)
  have h := rem64_any (hiOf x) (loOf x) d w x1 x2 hd hd' x3 x4
  rw [← (halves x).1] at h
  exact h
set_option maxHeartbeats 400000 in
theorem wdiv_core (H L d h r l : Int) (w : World) (T : Hid (∀ w, Calls Try.prog 83 #[.int .u64 0, .int .u64 H, .int .u64 d] w fun e w' => e = .returned (.tuple #[.int .u64 h, .int .u64 r]) ∧ Keep w w'))
    (T2 : Hid (∀ w, Calls Try.prog 83 #[.int .u64 r, .int .u64 L, .int .u64 d] w fun e w' => (∃ r, e = .returned (.tuple #[.int .u64 l, .int .u64 r])) ∧ Keep w w')) :
    Calls Try.prog 77 #[.agg #[.int .u64 H, .int .u64 L], .int .u64 d] w fun e w' => e = .returned (.agg #[.int .u64 h, .int .u64 l]) ∧ Keep w w' := by
  go_enter Try.func77, Try.ntmps77
  go_wp2_with fail
  refine (uq T _).mono ?_
  rintro e w1 ⟨rfl, hk⟩
  obtain ⟨o1, k1, rfl⟩ := hk.ext
  clear hk
  go_wp2_with fail
  refine (uq T2 _).mono ?_
  rintro e w2 ⟨⟨r2, rfl⟩, hk⟩
  obtain ⟨o2, k2, rfl⟩ := hk.ext
  clear hk
  go_wp2_with fail
  exact bodyPost_ret (v := .agg #[.int .u64 h, .int .u64 l]) (by simp [results, Try.results77, go_sem]) rfl ⟨rfl, by repeat (first | apply keep_ext | apply Keep.alloc | apply Keep.drew | exact Keep.refl _)⟩
theorem over_num {x d : Int} (hx : 0 ≤ x) (hd : 0 < d) : hiOf x / d = hiOf (x / d) ∧ (hiOf x % d * 18446744073709551616 + loOf x) / d = loOf (x / d) := by
  have hb := halves x
  have e1 := Int.emod_add_mul_ediv (hiOf x) d
  have hr0 := Int.emod_nonneg (hiOf x) (show d ≠ 0 by omega)
  have hr1 := Int.emod_lt_of_pos (hiOf x) hd
  obtain ⟨q, hq⟩ : ∃ q, q = hiOf x / d := ⟨_, rfl⟩
  obtain ⟨r, hr⟩ : ∃ r, r = hiOf x % d := ⟨_, rfl⟩
  rw [← hq, ← hr] at e1
  rw [← hr] at hr0 hr1 ⊢
  rw [← hq]
  have e2 : x = (r * 18446744073709551616 + loOf x) + d * (q * 18446744073709551616) := by
    rw [← Int.mul_assoc]
    generalize d * q = P at *
    omega
  have h3 : x / d = (r * 18446744073709551616 + loOf x) / d + q * 18446744073709551616 := by
    conv => lhs; rw [e2]
    exact Int.add_mul_ediv_left _ _ (by omega)
  have h4 : 0 ≤ (r * 18446744073709551616 + loOf x) / d := Int.ediv_nonneg (by omega) (by omega)
  have h5 : (r * 18446744073709551616 + loOf x) / d < 18446744073709551616 := by
    apply Int.ediv_lt_of_lt_mul hd
    have : (r + 1) * 18446744073709551616 ≤ d * 18446744073709551616 := Int.mul_le_mul_of_nonneg_right (by omega) (by omega)
    have hc : 18446744073709551616 * d = d * 18446744073709551616 := Int.mul_comm _ _
    omega
  have := halves_one (x := x / d) (H := q) (L := (r * 18446744073709551616 + loOf x) / d) (by omega) h4 h5
  exact ⟨this.1.symm, this.2.symm⟩
theorem wdiv_any (x d : Int) (w : World) (hx : 0 ≤ x) (hx' : x < 340282366920938463463374607431768211456) (hd : 0 < d) (hd' : d < 18446744073709551616) :
    Calls Try.prog 77 #[.agg #[.int .u64 (hiOf x), .int .u64 (loOf x)], .int .u64 d] w fun e w' => e = .returned (.agg #[.int .u64 (hiOf (x / d)), .int .u64 (loOf (x / d))]) ∧ Keep w w' := by
  obtain ⟨x1, x2, x3, x4⟩ := half_bd hx hx'
  obtain ⟨e1, e2⟩ := over_num hx hd
  have hr0 := Int.emod_nonneg (hiOf x) (show d ≠ 0 by omega)
  have hr1 := Int.emod_lt_of_pos (hiOf x) hd
  rw [← e1, ← e2]
  exact wdiv_core _ _ _ _ _ _ w (hide fun w => div64_small (hiOf x) d w hd hd' x1 x2) (hide fun w => div64_any (hiOf x % d) (loOf x) d w hr0 hr1 hd' x3 x4)
end Go.Proofs.Ytdgmndjofbdgeaa

namespace Go.Proofs.Ytdgmndjofbdgeaa
open Go.RowKit
set_option linter.unusedVariables false

set_option maxHeartbeats 400000 in
theorem fit_a (H L DH DL : Int) (w : World) (b : Bool) (h : ¬ DH = 0) :
    Calls Try.prog 76 #[.bool b, .agg #[.int .u64 H, .int .u64 L], .agg #[.int .u64 DH, .int .u64 DL]] w fun e w' => e = .returned (.tuple #[.agg #[.int .i64 0, .int .i64 0], .int .i64 2]) ∧ Keep w w' := by
  go_enter Try.func76, Try.ntmps76
  go_wp2
  exact bodyPost_ret (v := .tuple #[.agg #[.int .i64 0, .int .i64 0], .int .i64 2]) (by simp [results, Try.results76, go_sem]) rfl ⟨rfl, by repeat (first | apply keep_ext | apply Keep.alloc | apply Keep.drew | exact Keep.refl _)⟩

set_option maxHeartbeats 400000 in
theorem fit_b (H L DL : Int) (w : World) (b : Bool) (h : 9223372036854775807 < DL) :
    Calls Try.prog 76 #[.bool b, .agg #[.int .u64 H, .int .u64 L], .agg #[.int .u64 0, .int .u64 DL]] w fun e w' => e = .returned (.tuple #[.agg #[.int .i64 0, .int .i64 0], .int .i64 2]) ∧ Keep w w' := by
  go_enter Try.func76, Try.ntmps76
  go_wp2
  exact bodyPost_ret (v := .tuple #[.agg #[.int .i64 0, .int .i64 0], .int .i64 2]) (by simp [results, Try.results76, go_sem]) rfl ⟨rfl, by repeat (first | apply keep_ext | apply Keep.alloc | apply Keep.drew | exact Keep.refl _)⟩

set_option maxHeartbeats 400000 in
theorem fit_c_false (H L DL : Int) (w : World) (h : ¬ 9223372036854775807 < DL) (h2 : ¬ H = 0) :
    Calls Try.prog 76 #[.bool false, .agg #[.int .u64 H, .int .u64 L], .agg #[.int .u64 0, .int .u64 DL]] w fun e w' => e = .returned (.tuple #[.agg #[.int .i64 0, .int .i64 0], .int .i64 2]) ∧ Keep w w' := by
  go_enter Try.func76, Try.ntmps76
  go_wp2
  exact bodyPost_ret (v := .tuple #[.agg #[.int .i64 0, .int .i64 0], .int .i64 2]) (by simp [results, Try.results76, go_sem]) rfl ⟨rfl, by repeat (first | apply keep_ext | apply Keep.alloc | apply Keep.drew | exact Keep.refl _)⟩

set_option maxHeartbeats 400000 in
theorem fit_d_false (L DL : Int) (w : World) (h : ¬ 9223372036854775807 < DL) (h2 : 9223372036854775807 < L) :
    Calls Try.prog 76 #[.bool false, .agg #[.int .u64 0, .int .u64 L], .agg #[.int .u64 0, .int .u64 DL]] w fun e w' => e = .returned (.tuple #[.agg #[.int .i64 0, .int .i64 0], .int .i64 2]) ∧ Keep w w' := by
  go_enter Try.func76, Try.ntmps76
  go_wp2
  exact bodyPost_ret (v := .tuple #[.agg #[.int .i64 0, .int .i64 0], .int .i64 2]) (by simp [results, Try.results76, go_sem]) rfl ⟨rfl, by repeat (first | apply keep_ext | apply Keep.alloc | apply Keep.drew | exact Keep.refl _)⟩

set_option maxHeartbeats 400000 in
theorem fit_c_true (H L DL : Int) (w : World) (h : ¬ 9223372036854775807 < DL) (h2 : ¬ H = 0) :
    Calls Try.prog 76 #[.bool true, .agg #[.int .u64 H, .int .u64 L], .agg #[.int .u64 0, .int .u64 DL]] w fun e w' => e = .returned (.tuple #[.agg #[.int .i64 0, .int .i64 0], .int .i64 2]) ∧ Keep w w' := by
  go_enter Try.func76, Try.ntmps76
  go_wp2
  exact bodyPost_ret (v := .tuple #[.agg #[.int .i64 0, .int .i64 0], .int .i64 2]) (by simp [results, Try.results76, go_sem]) rfl ⟨rfl, by repeat (first | apply keep_ext | apply Keep.alloc | apply Keep.drew | exact Keep.refl _)⟩

set_option maxHeartbeats 400000 in
theorem fit_d_true (L DL : Int) (w : World) (h : ¬ 9223372036854775807 < DL) (h2 : 9223372036854775808 < L) :
    Calls Try.prog 76 #[.bool true, .agg #[.int .u64 0, .int .u64 L], .agg #[.int .u64 0, .int .u64 DL]] w fun e w' => e = .returned (.tuple #[.agg #[.int .i64 0, .int .i64 0], .int .i64 2]) ∧ Keep w w' := by
  go_enter Try.func76, Try.ntmps76
  go_wp2
  exact bodyPost_ret (v := .tuple #[.agg #[.int .i64 0, .int .i64 0], .int .i64 2]) (by simp [results, Try.results76, go_sem]) rfl ⟨rfl, by repeat (first | apply keep_ext | apply Keep.alloc | apply Keep.drew | exact Keep.refl _)⟩

set_option maxHeartbeats 400000 in
theorem fit_e_false (L DL : Int) (w : World) (h : ¬ 9223372036854775807 < DL) (h2 : ¬ 9223372036854775807 < L) (e1 : wrap64 L = L) (e2 : wrap64 DL = DL) :
    Calls Try.prog 76 #[.bool false, .agg #[.int .u64 0, .int .u64 L], .agg #[.int .u64 0, .int .u64 DL]] w fun e w' => e = .returned (.tuple #[.agg #[.int .i64 L, .int .i64 DL], .int .i64 0]) ∧ Keep w w' := by
  go_enter Try.func76, Try.ntmps76
  go_wp2
  exact bodyPost_ret (v := .tuple #[.agg #[.int .i64 L, .int .i64 DL], .int .i64 0]) (by simp [results, Try.results76, go_sem]) rfl ⟨rfl, by repeat (first | apply keep_ext | apply Keep.alloc | apply Keep.drew | exact Keep.refl _)⟩

set_option maxHeartbeats 400000 in
theorem fit_e_true (L DL U N : Int) (w : World) (h : ¬ 9223372036854775807 < DL) (h2 : ¬ 9223372036854775808 < L) (e0 : IntKind.u64.wrap (-L) = U) (e1 : wrap64 U = N) (e2 : wrap64 DL = DL) :
    Calls Try.prog 76 #[.bool true, .agg #[.int .u64 0, .int .u64 L], .agg #[.int .u64 0, .int .u64 DL]] w fun e w' => e = .returned (.tuple #[.agg #[.int .i64 N, .int .i64 DL], .int .i64 0]) ∧ Keep w w' := by
  go_enter Try.func76, Try.ntmps76
  go_wp2
  exact bodyPost_ret (v := .tuple #[.agg #[.int .i64 N, .int .i64 DL], .int .i64 0]) (by simp [results, Try.results76, go_sem]) rfl ⟨rfl, by repeat (first | apply keep_ext | apply Keep.alloc | apply Keep.drew | exact Keep.refl _)⟩

/-- a size with its sign -/
def sgn (b : Bool) (u : Int) : Int := if b then -u else u
theorem pair_no {n d : Int} (h : fit n = false ∨ fit d = false) : pN n d = 0 ∧ pD n d = 0 ∧ pE n d = 2 := by
  have e : (fit n && fit d) = false := by rcases h with h | h <;> simp [h]
  simp [pN, pD, pE, e]
theorem pair_yes {n d : Int} (h : fit n = true) (h2 : fit d = true) : pN n d = n ∧ pD n d = d ∧ pE n d = 0 := by
  simp [pN, pD, pE, h, h2]
theorem fit_any (b : Bool) (u v : Int) (w : World) (h0 : 0 ≤ u) (h1 : u < 340282366920938463463374607431768211456) (h2 : 0 ≤ v) (h3 : v < 340282366920938463463374607431768211456) :
    Calls Try.prog 76 #[.bool b, .agg #[.int .u64 (hiOf u), .int .u64 (loOf u)], .agg #[.int .u64 (hiOf v), .int .u64 (loOf v)]] w fun e w' => e = .returned (fv (sgn b u) v) ∧ Keep w w' := by
  have bu := half_bd h0 h1
  have bv := half_bd h2 h3
  have hu := halves u
  have hv := halves v
  unfold fv
  by_cases c1 : hiOf v = 0
  · by_cases c2 : 9223372036854775807 < loOf v
    · obtain ⟨e1, e2, e3⟩ := pair_no (n := sgn b u) (d := v) (.inr (fit_no (by omega)))
      rw [e1, e2, e3, c1]
      exact fit_b _ _ _ w b c2
    · have ev : loOf v = v := by omega
      have fd : fit v = true := fit_yes (by omega) (by omega)
      by_cases c3 : hiOf u = 0
      · have eu : loOf u = u := by omega
        rw [c1, c3, ev, eu]
        cases b
        · by_cases c4 : 9223372036854775807 < u
          · obtain ⟨e1, e2, e3⟩ := pair_no (n := sgn false u) (d := v) (.inl (fit_no (by simp [sgn]; omega)))
            rw [e1, e2, e3]
            exact fit_d_false _ _ w (by omega) c4
          · obtain ⟨e1, e2, e3⟩ := pair_yes (n := sgn false u) (d := v) (fit_yes (by simp [sgn]; omega) (by simp [sgn]; omega)) fd
            rw [e1, e2, e3]
            exact fit_e_false _ _ w (by omega) c4 (wrap_in (by omega)) (wrap_in (by omega))
        · by_cases c4 : 9223372036854775808 < u
          · obtain ⟨e1, e2, e3⟩ := pair_no (n := sgn true u) (d := v) (.inl (fit_no (by simp [sgn]; omega)))
            rw [e1, e2, e3]
            exact fit_d_true _ _ w (by omega) c4
          · obtain ⟨e1, e2, e3⟩ := pair_yes (n := sgn true u) (d := v) (fit_yes (by simp [sgn]; omega) (by simp [sgn]; omega)) fd
            rw [e1, e2, e3]
            exact fit_e_true u v _ _ w (by omega) c4 rfl (by simp only [sgn, if_true]; rw [IntKind.wrap_u64]; unfold wrap64; omega) (wrap_in (by omega))
      · have c3' := c3
        rw [c1]
        cases b
        · obtain ⟨e1, e2, e3⟩ := pair_no (n := sgn false u) (d := v) (.inl (fit_no (by simp [sgn]; omega)))
          rw [e1, e2, e3]
          exact fit_c_false _ _ _ w c2 c3'
        · obtain ⟨e1, e2, e3⟩ := pair_no (n := sgn true u) (d := v) (.inl (fit_no (by simp [sgn]; omega)))
          rw [e1, e2, e3]
          exact fit_c_true _ _ _ w c2 c3'
  · obtain ⟨e1, e2, e3⟩ := pair_no (n := sgn b u) (d := v) (.inr (fit_no (by omega)))
    rw [e1, e2, e3]
    exact fit_a _ _ _ _ w b c1
end Go.Proofs.Ytdgmndjofbdgeaa
