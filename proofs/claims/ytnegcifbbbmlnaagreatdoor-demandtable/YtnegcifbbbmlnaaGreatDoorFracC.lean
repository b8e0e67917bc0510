/- math/bits.Add64 and Sub64 over Int, at this program; halves added to and turned. -/
import Derived.Shelf.Spec.BitsCarry
import Derived.Test.YtnegcifbbbmlnaaGreatDoorWholeG
import Derived.Test.YtnegcifbbbmlnaaGreatDoorDiv
import Derived.Test.YtnegcifbbbmlnaaGreatDoorFracA
import Derived.Test.YtnegcifbbbmlnaaGreatDoorShelf
namespace Go.Proofs.YtnegcifbbbmlnaaGreatDoor
open Go.RowKit
set_option linter.unusedVariables false

theorem add64_0 (x y : Int) (hx : 0 ≤ x) (hy : 0 ≤ y) (w : World) : (callFunc 92 #[.int .u64 x, .int .u64 y, .int .u64 0]).run Tryz.prog w =
    .ok (.value (.tuple #[.int .u64 ((x + y) % 18446744073709551616), .int .u64 ((x + y) / 18446744073709551616)])) w := by
  rw [run_callFunc_extern Tryz.func92 (by kernel_rfl) (by kernel_rfl) (by kernel_rfl) (e := add64Entry) (by kernel_rfl), run_add64 (P := Tryz.prog) x y 0 hx hy (by omega) (by omega) w]
  simp only [Result.andThen, Int.add_zero]
/-- the borrow of 0 - x - b -/
def bor (x b : Int) : Int := if 0 < x + b then 1 else 0
theorem sub64_any (y b : Int) (hy : 0 ≤ y) (hy' : y < 18446744073709551616) (hb : 0 ≤ b) (hb' : b ≤ 1) (w : World) : (callFunc 82 #[.int .u64 0, .int .u64 y, .int .u64 b]).run Tryz.prog w =
    .ok (.value (.tuple #[.int .u64 ((-y - b) % 18446744073709551616), .int .u64 (bor y b)])) w := by
  obtain ⟨y, rfl⟩ := Int.eq_ofNat_of_zero_le hy
  obtain ⟨b, rfl⟩ := Int.eq_ofNat_of_zero_le hb
  have h := run_sub64 (P := Tryz.prog) 0 y b (by omega) w
  have e1 : (((0 + 18446744073709551616 - y - b) % 18446744073709551616 : Nat) : Int) = (-(y : Int) - b) % 18446744073709551616 := by omega
  have e2 : ((if 0 < y + b then 1 else 0 : Nat) : Int) = bor y b := by unfold bor; split <;> split <;> omega
  rw [run_callFunc_extern Tryz.func82 (by kernel_rfl) (by kernel_rfl) (by kernel_rfl) (e := sub64Entry) (by kernel_rfl)]
  have h' : (sub64Entry #[.int .u64 0, .int .u64 y, .int .u64 b]).run Tryz.prog w = .ok (.tuple #[.int .u64 ((-(y : Int) - b) % 18446744073709551616), .int .u64 (bor y b)]) w := by
    rw [← e1, ← e2]; exact h
  rw [h']
  simp only [Result.andThen]
theorem sub64_0 (y : Int) (hy : 0 ≤ y) (hy' : y < 18446744073709551616) (w : World) : (callFunc 82 #[.int .u64 0, .int .u64 y, .int .u64 0]).run Tryz.prog w =
    .ok (.value (.tuple #[.int .u64 (-y % 18446744073709551616), .int .u64 (bor y 0)])) w := by
  have := sub64_any y 0 hy hy' (by omega) (by omega) w
  rw [show -y - 0 = -y by omega] at this
  exact this
theorem bor_bd (x b : Int) : 0 ≤ bor x b ∧ bor x b ≤ 1 := by unfold bor; split <;> omega

set_option maxHeartbeats 400000 in
theorem opposite_core (H L uH l b h : Int) (w : World) (g1 : -9223372036854775808 ≤ H) (g2 : H ≤ 9223372036854775807) (g3 : 0 ≤ L) (g4 : L < 18446744073709551616)
    (eH : IntKind.u64.wrap H = uH)
    (S1 : ∀ w, (callFunc 82 #[.int .u64 0, .int .u64 L, .int .u64 0]).run Tryz.prog w = .ok (.value (.tuple #[.int .u64 l, .int .u64 b])) w)
    (S2 : ∃ c, ∀ w, (callFunc 82 #[.int .u64 0, .int .u64 uH, .int .u64 b]).run Tryz.prog w = .ok (.value (.tuple #[.int .u64 h, .int .u64 c])) w) :
    Calls Tryz.prog 66 #[.agg #[.int .i64 H, .int .u64 L]] w fun e w' => e = .returned (.agg #[.int .i64 (wrap64 h), .int .u64 l]) ∧ Keep w w' := by
  obtain ⟨c, S2⟩ := S2
  go_enter Tryz.func66, Tryz.ntmps66
  go_wp2
  exact bodyPost_ret (v := .agg #[.int .i64 (wrap64 h), .int .u64 l]) (by simp [results, Tryz.results66, go_sem]) rfl ⟨rfl, ((Keep.refl _).alloc _).alloc _⟩
theorem opp_num {x : Int} (h1 : -85070591730234615865843651857942052864 ≤ x) (h2 : x ≤ 85070591730234615865843651857942052864) :
    wrap64 ((-IntKind.u64.wrap (hiOf x) - bor (loOf x) 0) % 18446744073709551616) = hiOf (-x) ∧ -loOf x % 18446744073709551616 = loOf (-x) := by
  unfold bor hiOf loOf wrap64
  rw [IntKind.wrap_u64]
  split <;> omega
theorem opposite_any (x : Int) (w : World) (h1 : -85070591730234615865843651857942052864 ≤ x) (h2 : x ≤ 85070591730234615865843651857942052864) :
    Calls Tryz.prog 66 #[.agg #[.int .i64 (hiOf x), .int .u64 (loOf x)]] w fun e w' => e = .returned (.agg #[.int .i64 (hiOf (-x)), .int .u64 (loOf (-x))]) ∧ Keep w w' := by
  have hb := halves x
  obtain ⟨g1, g2⟩ := hiOf_bd ⟨h1, h2⟩
  obtain ⟨n1, n2⟩ := opp_num h1 h2
  have e2 := sub64_any (IntKind.u64.wrap (hiOf x)) (bor (loOf x) 0) (by rw [IntKind.wrap_u64]; omega) (by rw [IntKind.wrap_u64]; omega) (bor_bd _ _).1 (bor_bd _ _).2
  have h := opposite_core (hiOf x) (loOf x) _ _ _ _ w (by omega) (by omega) hb.2.1 hb.2.2 rfl (sub64_0 (loOf x) hb.2.1 hb.2.2) ⟨_, e2⟩
  rw [n1, n2] at h
  exact h

set_option maxHeartbeats 400000 in
theorem plus_core (H L n l c : Int) (w : World) (g1 : -9223372036854775808 ≤ H) (g2 : H < 9223372036854775807) (g3 : 0 ≤ L) (g4 : L < 18446744073709551616) (k1 : 0 ≤ n) (k2 : n < 18446744073709551616) (c1 : 0 ≤ c) (c2 : c ≤ 1)
    (S1 : ∀ w, (callFunc 92 #[.int .u64 L, .int .u64 n, .int .u64 0]).run Tryz.prog w = .ok (.value (.tuple #[.int .u64 l, .int .u64 c])) w) :
    Calls Tryz.prog 81 #[.agg #[.int .i64 H, .int .u64 L], .int .u64 n] w fun e w' => e = .returned (.agg #[.int .i64 (H + c), .int .u64 l]) ∧ Keep w w' := by
  go_enter Tryz.func81, Tryz.ntmps81
  go_wp2
  exact bodyPost_ret (v := .agg #[.int .i64 (H + c), .int .u64 l]) (by simp [results, Tryz.results81, go_sem]) rfl ⟨rfl, ((Keep.refl _).alloc _).alloc _⟩
theorem plus_any (x n : Int) (w : World) (h1 : -85070591730234615865843651857942052864 ≤ x) (h2 : x ≤ 85070591730234615865843651857942052864) (k1 : 0 ≤ n) (k2 : n < 18446744073709551616) :
    Calls Tryz.prog 81 #[.agg #[.int .i64 (hiOf x), .int .u64 (loOf x)], .int .u64 n] w fun e w' => e = .returned (.agg #[.int .i64 (hiOf (x + n)), .int .u64 (loOf (x + n))]) ∧ Keep w w' := by
  have hb := halves x
  obtain ⟨g1, g2⟩ := hiOf_bd ⟨h1, h2⟩
  have h := plus_core (hiOf x) (loOf x) n _ _ w (by omega) (by omega) hb.2.1 hb.2.2 k1 k2 (by omega) (by omega) (add64_0 (loOf x) n hb.2.1 k1)
  have n1 : hiOf x + (loOf x + n) / 18446744073709551616 = hiOf (x + n) := by unfold hiOf loOf; omega
  have n2 : (loOf x + n) % 18446744073709551616 = loOf (x + n) := by unfold loOf; omega
  rw [n1, n2] at h
  exact h

/-! ### over -/
set_option maxHeartbeats 400000 in
theorem over_no (H L c : Int) (w : World) (g1 : 0 ≤ H) (g2 : H ≤ 9223372036854775807) (g3 : 0 ≤ L) (g4 : L < 18446744073709551616) (k1 : 1 ≤ c) (k2 : c ≤ 9223372036854775807) (h : c ≤ H) :
    Calls Tryz.prog 67 #[.agg #[.int .i64 H, .int .u64 L], .int .i64 c] w fun e w' => e = .returned (.tuple #[.int .u64 0, .bool false]) ∧ Keep w w' := by
  go_enter Tryz.func67, Tryz.ntmps67
  go_wp2
  go_ret2
  exact ⟨rfl, (Keep.refl _).alloc _⟩
set_option maxHeartbeats 400000 in
theorem over_yes (H L c q : Int) (w : World) (g1 : 0 ≤ H) (g2 : H ≤ 9223372036854775807) (g3 : 0 ≤ L) (g4 : L < 18446744073709551616) (k1 : 1 ≤ c) (k2 : c ≤ 9223372036854775807) (h : H < c)
    (hq : Hid ((H * 18446744073709551616 + L) / c = q)) :
    Calls Tryz.prog 67 #[.agg #[.int .i64 H, .int .u64 L], .int .i64 c] w fun e w' => e = .returned (.tuple #[.int .u64 q, .bool true]) ∧ Keep w w' := by
  have D : Hid (∀ w, Calls Tryz.prog 83 #[.int .u64 H, .int .u64 L, .int .u64 c] w fun e w' => (∃ r, e = .returned (.tuple #[.int .u64 q, .int .u64 r])) ∧ Keep w w') := by
    intro w
    have := div64_any H L c w g1 h (by omega) g3 g4
    rw [uq hq] at this
    exact this
  go_enter Tryz.func67, Tryz.ntmps67
  go_wp2_with (go_at_call 83; refine (uq D _).mono ?_; rintro e w1 ⟨⟨r, rfl⟩, hk⟩)
  go_ret2
  exact ⟨rfl, ((Keep.refl _).alloc _).trans hk⟩
end Go.Proofs.YtnegcifbbbmlnaaGreatDoor

namespace Go.Proofs.YtnegcifbbbmlnaaGreatDoor
open Go.RowKit
set_option linter.unusedVariables false

/-! ### divisor -/
set_option maxHeartbeats 400000 in
theorem divisor_yes (a b x y G : Int) (w : World) (ea : wrap64 a = x) (eb : wrap64 b = y) (hG : IntKind.u64.wrap G = G) (T : Hid (∀ w, Calls Tryz.prog 39 #[.int .i64 x, .int .i64 y] w fun e w' => e = .returned (.tuple #[.int .i64 G, .int .i64 0]) ∧ Keep w w')) :
    Calls Tryz.prog 58 #[.int .u64 a, .int .u64 b] w fun e w' => e = .returned (.int .u64 G) ∧ Keep w w' := by
  go_enter Tryz.func58, Tryz.ntmps58
  go_wp2_with fail
  refine (uq T _).mono ?_
  rintro e w1 ⟨rfl, hk⟩
  go_wp2_with fail
  go_ret
  exact ⟨rfl, hk⟩
set_option maxHeartbeats 400000 in
theorem divisor_no (a b x y : Int) (w : World) (ea : wrap64 a = x) (eb : wrap64 b = y) (T : Hid (∀ w, Calls Tryz.prog 39 #[.int .i64 x, .int .i64 y] w fun e w' => e = .returned (.tuple #[.int .i64 0, .int .i64 2]) ∧ Keep w w')) :
    Calls Tryz.prog 58 #[.int .u64 a, .int .u64 b] w fun e w' => e = .returned (.int .u64 9223372036854775808) ∧ Keep w w' := by
  go_enter Tryz.func58, Tryz.ntmps58
  go_wp2_with fail
  refine (uq T _).mono ?_
  rintro e w1 ⟨rfl, hk⟩
  go_wp2_with fail
  go_ret
  exact ⟨rfl, hk⟩
theorem wrap_size {a : Nat} (h : a ≤ 9223372036854775808) : (wrap64 (a : Int)).natAbs = a ∧ -9223372036854775808 ≤ wrap64 (a : Int) ∧ wrap64 (a : Int) ≤ 9223372036854775807 := by
  unfold wrap64; omega
theorem divisor_any (a b : Nat) (w : World) (ha : a ≤ 9223372036854775808) (hb : b ≤ 9223372036854775808) (h0 : 0 < a ∨ 0 < b) :
    Calls Tryz.prog 58 #[.int .u64 (a : Int), .int .u64 (b : Int)] w fun e w' => e = .returned (.int .u64 ((Nat.gcd a b : Nat) : Int)) ∧ Keep w w' := by
  obtain ⟨a1, a2, a3⟩ := wrap_size ha
  obtain ⟨b1, b2, b3⟩ := wrap_size hb
  have hg : Nat.gcd a b ≤ 9223372036854775808 := by
    rcases h0 with h | h
    · exact Nat.le_trans (Nat.le_of_dvd h (Nat.gcd_dvd_left a b)) ha
    · exact Nat.le_trans (Nat.le_of_dvd h (Nat.gcd_dvd_right a b)) hb
  have e : Int.gcd (wrap64 (a : Int)) (wrap64 (b : Int)) = Nat.gcd a b := by rw [Int.gcd, a1, b1]
  have T : Hid (∀ w, _) := fun w => gcd_any (wrap64 (a : Int)) (wrap64 (b : Int)) w a2 a3 b2 b3
  rw [e] at T
  by_cases h : Nat.gcd a b = 9223372036854775808
  · rw [h, ans_no (by omega), err_no (by omega)] at T
    rw [h]
    exact divisor_no _ _ _ _ w rfl rfl T
  · rw [ans_yes (by omega) (by omega), err_yes (by omega) (by omega)] at T
    exact divisor_yes _ _ _ _ _ w rfl rfl (by rw [IntKind.wrap_u64]; omega) T

/-! ### numbers of 128 bits -/
/-- halves of a number of 128 bits fit -/
theorem half_bd {x : Int} (h0 : 0 ≤ x) (h1 : x < 340282366920938463463374607431768211456) : 0 ≤ hiOf x ∧ hiOf x < 18446744073709551616 ∧ 0 ≤ loOf x ∧ loOf x < 18446744073709551616 := by unfold hiOf loOf; omega
set_option maxHeartbeats 400000 in
theorem product_any (a b : Int) (w : World) (ha : 0 ≤ a) (ha' : a < 18446744073709551616) (hb : 0 ≤ b) (hb' : b < 18446744073709551616) :
    Calls Tryz.prog 59 #[.int .u64 a, .int .u64 b] w fun e w' => e = .returned (.agg #[.int .u64 (hiOf (a * b)), .int .u64 (loOf (a * b))]) ∧ Keep w w' := by
  have T : Hid (∀ w, _) := fun w => mul64_any a b w ha ha' hb hb'
  go_enter Tryz.func59, Tryz.ntmps59
  go_wp2_with fail
  refine (uq T _).mono ?_
  rintro e w1 ⟨H, L, rfl, h1, h2, h3, h4, h5, rfl⟩
  obtain ⟨e1, e2⟩ := halves_one (uq h5) h3 h4
  have E1 := hide e1
  have E2 := hide e2
  clear e1 e2 h5
  go_wp2_with fail
  refine bodyPost_ret (v := .agg #[.int .u64 H, .int .u64 L]) (by simp [results, Tryz.results59, go_sem]) rfl ⟨?_, by repeat (first | apply keep_ext | apply Keep.alloc | apply Keep.drew | exact Keep.refl _)⟩
  rw [uq E1, uq E2]
end Go.Proofs.YtnegcifbbbmlnaaGreatDoor

namespace Go.Proofs.YtnegcifbbbmlnaaGreatDoor
open Go.RowKit
set_option linter.unusedVariables false

set_option maxHeartbeats 400000 in
theorem fit_a (H L DH DL : Int) (w : World) (b : Bool) (h : ¬ DH = 0) :
    Calls Tryz.prog 60 #[.bool b, .agg #[.int .u64 H, .int .u64 L], .agg #[.int .u64 DH, .int .u64 DL]] w fun e w' => e = .returned (.tuple #[.agg #[.int .i64 0, .int .i64 0], .int .i64 2]) ∧ Keep w w' := by
  go_enter Tryz.func60, Tryz.ntmps60
  go_wp2
  exact bodyPost_ret (v := .tuple #[.agg #[.int .i64 0, .int .i64 0], .int .i64 2]) (by simp [results, Tryz.results60, go_sem]) rfl ⟨rfl, by repeat (first | apply keep_ext | apply Keep.alloc | apply Keep.drew | exact Keep.refl _)⟩

set_option maxHeartbeats 400000 in
theorem fit_b (H L DL : Int) (w : World) (b : Bool) (h : 9223372036854775807 < DL) :
    Calls Tryz.prog 60 #[.bool b, .agg #[.int .u64 H, .int .u64 L], .agg #[.int .u64 0, .int .u64 DL]] w fun e w' => e = .returned (.tuple #[.agg #[.int .i64 0, .int .i64 0], .int .i64 2]) ∧ Keep w w' := by
  go_enter Tryz.func60, Tryz.ntmps60
  go_wp2
  exact bodyPost_ret (v := .tuple #[.agg #[.int .i64 0, .int .i64 0], .int .i64 2]) (by simp [results, Tryz.results60, go_sem]) rfl ⟨rfl, by repeat (first | apply keep_ext | apply Keep.alloc | apply Keep.drew | exact Keep.refl _)⟩

set_option maxHeartbeats 400000 in
theorem fit_c_false (H L DL : Int) (w : World) (h : ¬ 9223372036854775807 < DL) (h2 : ¬ H = 0) :
    Calls Tryz.prog 60 #[.bool false, .agg #[.int .u64 H, .int .u64 L], .agg #[.int .u64 0, .int .u64 DL]] w fun e w' => e = .returned (.tuple #[.agg #[.int .i64 0, .int .i64 0], .int .i64 2]) ∧ Keep w w' := by
  go_enter Tryz.func60, Tryz.ntmps60
  go_wp2
  exact bodyPost_ret (v := .tuple #[.agg #[.int .i64 0, .int .i64 0], .int .i64 2]) (by simp [results, Tryz.results60, go_sem]) rfl ⟨rfl, by repeat (first | apply keep_ext | apply Keep.alloc | apply Keep.drew | exact Keep.refl _)⟩

set_option maxHeartbeats 400000 in
theorem fit_d_false (L DL : Int) (w : World) (h : ¬ 9223372036854775807 < DL) (h2 : 9223372036854775807 < L) :
    Calls Tryz.prog 60 #[.bool false, .agg #[.int .u64 0, .int .u64 L], .agg #[.int .u64 0, .int .u64 DL]] w fun e w' => e = .returned (.tuple #[.agg #[.int .i64 0, .int .i64 0], .int .i64 2]) ∧ Keep w w' := by
  go_enter Tryz.func60, Tryz.ntmps60
  go_wp2
  exact bodyPost_ret (v := .tuple #[.agg #[.int .i64 0, .int .i64 0], .int .i64 2]) (by simp [results, Tryz.results60, go_sem]) rfl ⟨rfl, by repeat (first | apply keep_ext | apply Keep.alloc | apply Keep.drew | exact Keep.refl _)⟩

set_option maxHeartbeats 400000 in
theorem fit_c_true (H L DL : Int) (w : World) (h : ¬ 9223372036854775807 < DL) (h2 : ¬ H = 0) :
    Calls Tryz.prog 60 #[.bool true, .agg #[.int .u64 H, .int .u64 L], .agg #[.int .u64 0, .int .u64 DL]] w fun e w' => e = .returned (.tuple #[.agg #[.int .i64 0, .int .i64 0], .int .i64 2]) ∧ Keep w w' := by
  go_enter Tryz.func60, Tryz.ntmps60
  go_wp2
  exact bodyPost_ret (v := .tuple #[.agg #[.int .i64 0, .int .i64 0], .int .i64 2]) (by simp [results, Tryz.results60, go_sem]) rfl ⟨rfl, by repeat (first | apply keep_ext | apply Keep.alloc | apply Keep.drew | exact Keep.refl _)⟩

set_option maxHeartbeats 400000 in
theorem fit_d_true (L DL : Int) (w : World) (h : ¬ 9223372036854775807 < DL) (h2 : 9223372036854775808 < L) :
    Calls Tryz.prog 60 #[.bool true, .agg #[.int .u64 0, .int .u64 L], .agg #[.int .u64 0, .int .u64 DL]] w fun e w' => e = .returned (.tuple #[.agg #[.int .i64 0, .int .i64 0], .int .i64 2]) ∧ Keep w w' := by
  go_enter Tryz.func60, Tryz.ntmps60
  go_wp2
  exact bodyPost_ret (v := .tuple #[.agg #[.int .i64 0, .int .i64 0], .int .i64 2]) (by simp [results, Tryz.results60, go_sem]) rfl ⟨rfl, by repeat (first | apply keep_ext | apply Keep.alloc | apply Keep.drew | exact Keep.refl _)⟩

set_option maxHeartbeats 400000 in
theorem fit_e_false (L DL : Int) (w : World) (h : ¬ 9223372036854775807 < DL) (h2 : ¬ 9223372036854775807 < L) (e1 : wrap64 L = L) (e2 : wrap64 DL = DL) :
    Calls Tryz.prog 60 #[.bool false, .agg #[.int .u64 0, .int .u64 L], .agg #[.int .u64 0, .int .u64 DL]] w fun e w' => e = .returned (.tuple #[.agg #[.int .i64 L, .int .i64 DL], .int .i64 0]) ∧ Keep w w' := by
  go_enter Tryz.func60, Tryz.ntmps60
  go_wp2
  exact bodyPost_ret (v := .tuple #[.agg #[.int .i64 L, .int .i64 DL], .int .i64 0]) (by simp [results, Tryz.results60, go_sem]) rfl ⟨rfl, by repeat (first | apply keep_ext | apply Keep.alloc | apply Keep.drew | exact Keep.refl _)⟩

set_option maxHeartbeats 400000 in
theorem fit_e_true (L DL U N : Int) (w : World) (h : ¬ 9223372036854775807 < DL) (h2 : ¬ 9223372036854775808 < L) (e0 : IntKind.u64.wrap (-L) = U) (e1 : wrap64 U = N) (e2 : wrap64 DL = DL) :
    Calls Tryz.prog 60 #[.bool true, .agg #[.int .u64 0, .int .u64 L], .agg #[.int .u64 0, .int .u64 DL]] w fun e w' => e = .returned (.tuple #[.agg #[.int .i64 N, .int .i64 DL], .int .i64 0]) ∧ Keep w w' := by
  go_enter Tryz.func60, Tryz.ntmps60
  go_wp2
  exact bodyPost_ret (v := .tuple #[.agg #[.int .i64 N, .int .i64 DL], .int .i64 0]) (by simp [results, Tryz.results60, go_sem]) rfl ⟨rfl, by repeat (first | apply keep_ext | apply Keep.alloc | apply Keep.drew | exact Keep.refl _)⟩

/-- a size with its sign -/
def sgn (b : Bool) (u : Int) : Int := if b then -u else u
theorem pair_no {n d : Int} (h : fit n = false ∨ fit d = false) : pN n d = 0 ∧ pD n d = 0 ∧ pE n d = 2 := by
  have e : (fit n && fit d) = false := by rcases h with h | h <;> simp [h]
  simp [pN, pD, pE, e]
theorem pair_yes {n d : Int} (h : fit n = true) (h2 : fit d = true) : pN n d = n ∧ pD n d = d ∧ pE n d = 0 := by
  simp [pN, pD, pE, h, h2]
theorem fit_any (b : Bool) (u v : Int) (w : World) (h0 : 0 ≤ u) (h1 : u < 340282366920938463463374607431768211456) (h2 : 0 ≤ v) (h3 : v < 340282366920938463463374607431768211456) :
    Calls Tryz.prog 60 #[.bool b, .agg #[.int .u64 (hiOf u), .int .u64 (loOf u)], .agg #[.int .u64 (hiOf v), .int .u64 (loOf v)]] w fun e w' => e = .returned (fv (sgn b u) v) ∧ Keep w w' := by
  have bu := half_bd h0 h1
  have bv := half_bd h2 h3
  have hu := halves u
  have hv := halves v
  unfold fv
  by_cases c1 : hiOf v = 0
  · by_cases c2 : 9223372036854775807 < loOf v
    · obtain ⟨e1, e2, e3⟩ := pair_no (n := sgn b u) (d := v) (.inr (fit_no (by omega)))
      rw [e1, e2, e3, c1]
      exact fit_b _ _ _ w b c2
    · have ev : loOf v = v := by omega
      have fd : fit v = true := fit_yes (by omega) (by omega)
      by_cases c3 : hiOf u = 0
      · have eu : loOf u = u := by omega
        rw [c1, c3, ev, eu]
        cases b
        · by_cases c4 : 9223372036854775807 < u
          · obtain ⟨e1, e2, e3⟩ := pair_no (n := sgn false u) (d := v) (.inl (fit_no (by simp [sgn]; omega)))
            rw [e1, e2, e3]
            exact fit_d_false _ _ w (by omega) c4
          · obtain ⟨e1, e2, e3⟩ := pair_yes (n := sgn false u) (d := v) (fit_yes (by simp [sgn]; omega) (by simp [sgn]; omega)) fd
            rw [e1, e2, e3]
            exact fit_e_false _ _ w (by omega) c4 (wrap_in (by omega)) (wrap_in (by omega))
        · by_cases c4 : 9223372036854775808 < u
          · obtain ⟨e1, e2, e3⟩ := pair_no (n := sgn true u) (d := v) (.inl (fit_no (by simp [sgn]; omega)))
            rw [e1, e2, e3]
            exact fit_d_true _ _ w (by omega) c4
          · obtain ⟨e1, e2, e3⟩ := pair_yes (n := sgn true u) (d := v) (fit_yes (by simp [sgn]; omega) (by simp [sgn]; omega)) fd
            rw [e1, e2, e3]
            exact fit_e_true u v _ _ w (by omega) c4 rfl (by simp only [sgn, if_true]; rw [IntKind.wrap_u64]; unfold wrap64; omega) (wrap_in (by omega))
      · have c3' := c3
        rw [c1]
        cases b
        · obtain ⟨e1, e2, e3⟩ := pair_no (n := sgn false u) (d := v) (.inl (fit_no (by simp [sgn]; omega)))
          rw [e1, e2, e3]
          exact fit_c_false _ _ _ w c2 c3'
        · obtain ⟨e1, e2, e3⟩ := pair_no (n := sgn true u) (d := v) (.inl (fit_no (by simp [sgn]; omega)))
          rw [e1, e2, e3]
          exact fit_c_true _ _ _ w c2 c3'
  · obtain ⟨e1, e2, e3⟩ := pair_no (n := sgn b u) (d := v) (.inr (fit_no (by omega)))
    rw [e1, e2, e3]
    exact fit_a _ _ _ _ w b c1
end Go.Proofs.YtnegcifbbbmlnaaGreatDoor
