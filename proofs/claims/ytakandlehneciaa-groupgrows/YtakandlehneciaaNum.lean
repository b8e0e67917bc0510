/- Plain numbers: what fits 64 bits; what sums, quotients and rests are. No program is met here. -/
import Derived.WalkKit
namespace Go.Proofs.Ytakandlehneciaa
open Go.RowKit
set_option linter.unusedVariables false

theorem hide {p : Prop} (h : p) : Hid p := h
theorem unhide {p : Prop} (h : Hid p) : p := h
/-- nothing that was there has turned; there may be new blocks -/
def Keep (w w' : World) : Prop := Below w.heap.size w w'
theorem Keep.refl (w : World) : Keep w w := Below.refl _ _
theorem Keep.trans {a b c : World} (h : Keep a b) (k : Keep b c) : Keep a c := Below.trans h (Below.mono k h.size)
theorem Keep.drew {a b : World} (h : Keep a b) : Keep a b.drew := Below.drew h
theorem Keep.alloc {a b : World} (h : Keep a b) (o : Obj) : Keep a (b.alloc o) := Below.alloc h h.size o
/-- does a number fit 64 bits with a sign? -/
def fit (n : Int) : Bool := decide (-9223372036854775808 ≤ n ∧ n ≤ 9223372036854775807)
/-- the answer for an exact number: itself where it fits, else nought -/
def ans (n : Int) : Int := if fit n then n else 0
/-- the error for an exact number: none where it fits, else 2 (it does not fit) -/
def err (n : Int) : Int := if fit n then 0 else 2
theorem fit_yes {n : Int} (h1 : -9223372036854775808 ≤ n) (h2 : n ≤ 9223372036854775807) : fit n = true := by simp [fit]; omega
theorem fit_no {n : Int} (h1 : n < -9223372036854775808 ∨ 9223372036854775807 < n) : fit n = false := by simp [fit]; omega
theorem ans_yes {n : Int} (h1 : -9223372036854775808 ≤ n) (h2 : n ≤ 9223372036854775807) : ans n = n := by simp [ans, fit_yes h1 h2]
theorem err_yes {n : Int} (h1 : -9223372036854775808 ≤ n) (h2 : n ≤ 9223372036854775807) : err n = 0 := by simp [err, fit_yes h1 h2]
theorem ans_no {n : Int} (h1 : n < -9223372036854775808 ∨ 9223372036854775807 < n) : ans n = 0 := by simp [ans, fit_no h1]
theorem err_no {n : Int} (h1 : n < -9223372036854775808 ∨ 9223372036854775807 < n) : err n = 2 := by simp [err, fit_no h1]
theorem ans_bd (n : Int) : -9223372036854775808 ≤ ans n ∧ ans n ≤ 9223372036854775807 := by
  unfold ans fit; split <;> simp_all
theorem one_ret {k : IntKind} {a b : Int} (h : a = b) : Ending.returned (.int k a) = .returned (.int k b) := by rw [h]
theorem two_ret {a b c d : Int} (h1 : a = b) (h2 : c = d) : Ending.returned (.tuple #[.int .i64 a, .int .i64 c]) = .returned (.tuple #[.int .i64 b, .int .i64 d]) := by rw [h1, h2]

theorem add_no {a b : Int} (h1 : -9223372036854775808 ≤ a) (h2 : a ≤ 9223372036854775807) (h3 : -9223372036854775808 ≤ b) (h4 : b ≤ 9223372036854775807)
    (hs : a < 0 ↔ b < 0) (h : (!decide (wrap64 (a + b) < 0) == decide (b < 0)) = true) : a + b < -9223372036854775808 ∨ 9223372036854775807 < a + b := by
  by_cases hb : b < 0 <;> simp [hb, wrap64] at h hs <;> omega
theorem add_yes1 {a b : Int} (h1 : -9223372036854775808 ≤ a) (h2 : a ≤ 9223372036854775807) (h3 : -9223372036854775808 ≤ b) (h4 : b ≤ 9223372036854775807)
    (hs : a < 0 ↔ b < 0) (h : (!decide (wrap64 (a + b) < 0) == decide (b < 0)) = false) : -9223372036854775808 ≤ a + b ∧ a + b ≤ 9223372036854775807 := by
  by_cases hb : b < 0 <;> simp [hb, wrap64] at h hs <;> omega
theorem add_yes2 {a b : Int} (h1 : -9223372036854775808 ≤ a) (h2 : a ≤ 9223372036854775807) (h3 : -9223372036854775808 ≤ b) (h4 : b ≤ 9223372036854775807)
    (hs : ¬ (a < 0 ↔ b < 0)) : -9223372036854775808 ≤ a + b ∧ a + b ≤ 9223372036854775807 := by
  by_cases hb : b < 0 <;> simp [hb] at hs <;> omega
theorem sub_no {a b : Int} (h1 : -9223372036854775808 ≤ a) (h2 : a ≤ 9223372036854775807) (h3 : -9223372036854775808 ≤ b) (h4 : b ≤ 9223372036854775807)
    (hs : ¬ (a < 0 ↔ b < 0)) (h : (!decide (a < 0) == decide (b < 0)) = true ∧ (!decide (wrap64 (a - b) < 0) == decide (a < 0)) = true) : a - b < -9223372036854775808 ∨ 9223372036854775807 < a - b := by
  by_cases ha : a < 0 <;> by_cases hb : b < 0 <;> simp [ha, hb, wrap64] at h hs <;> omega
theorem sub_yes {a b : Int} (h1 : -9223372036854775808 ≤ a) (h2 : a ≤ 9223372036854775807) (h3 : -9223372036854775808 ≤ b) (h4 : b ≤ 9223372036854775807)
    (hs : ¬ (a < 0 ↔ b < 0)) (h : (!decide (a < 0) == decide (b < 0)) = false ∨ (!decide (wrap64 (a - b) < 0) == decide (a < 0)) = false) : -9223372036854775808 ≤ a - b ∧ a - b ≤ 9223372036854775807 := by
  by_cases ha : a < 0 <;> by_cases hb : b < 0 <;> simp [ha, hb, wrap64] at h hs <;> omega
theorem wrap_in {n : Int} (h : -9223372036854775808 ≤ n ∧ n ≤ 9223372036854775807) : wrap64 n = n := by unfold wrap64; omega
/-- how two numbers are to one another -/
def cm (x y : Int) : Int := if x = y then 0 else if x < y then -1 else 1

theorem cm_le {x y : Int} : cm x y ≤ 0 ↔ x ≤ y := by
  unfold cm
  by_cases h : x = y
  · simp [h]
  · by_cases h2 : x < y
    · simp [h, h2]; omega
    · simp [h, h2]; omega
theorem cm_lt {x y : Int} : cm x y < 0 ↔ x < y := by
  unfold cm
  by_cases h : x = y
  · simp [h]
  · by_cases h2 : x < y
    · simp [h, h2]
    · simp [h, h2]


/-! ### products -/
theorem prod_bd {a b : Int} (h1 : -9223372036854775808 ≤ a) (h2 : a ≤ 9223372036854775807) (h3 : -9223372036854775808 ≤ b) (h4 : b ≤ 9223372036854775807) :
    -85070591730234615865843651857942052864 ≤ a * b ∧ a * b ≤ 85070591730234615865843651857942052864 := by
  have e := Int.natAbs_mul a b
  have m : a.natAbs * b.natAbs ≤ 9223372036854775808 * 9223372036854775808 := Nat.mul_le_mul (by omega) (by omega)
  generalize a.natAbs * b.natAbs = u at e m
  omega
theorem agg_ret {a b c d : Int} (h1 : a = b) (h2 : c = d) : Ending.returned (.agg #[.int .i64 a, .int .u64 c]) = .returned (.agg #[.int .i64 b, .int .u64 d]) := by rw [h1, h2]
/-- the two halves of a number of 128 bits -/
def hiOf (x : Int) : Int := x / 18446744073709551616
def loOf (x : Int) : Int := x % 18446744073709551616
theorem halves (x : Int) : x = hiOf x * 18446744073709551616 + loOf x ∧ 0 ≤ loOf x ∧ loOf x < 18446744073709551616 := by unfold hiOf loOf; omega
theorem halves_one {x H L : Int} (h : x = H * 18446744073709551616 + L) (h0 : 0 ≤ L) (h1 : L < 18446744073709551616) : hiOf x = H ∧ loOf x = L := by unfold hiOf loOf; omega
theorem hiOf_bd {x : Int} (h : -85070591730234615865843651857942052864 ≤ x ∧ x ≤ 85070591730234615865843651857942052864) : -4611686018427387904 ≤ hiOf x ∧ hiOf x ≤ 4611686018427387904 := by unfold hiOf; omega
theorem two_up (a b : Int) : (a + 18446744073709551616) * (b + 18446744073709551616) = a * b + 18446744073709551616 * (a + b) + 340282366920938463463374607431768211456 := by
  rw [Int.add_mul, Int.mul_add, Int.mul_add]; omega
theorem one_up (a b : Int) : (a + 18446744073709551616) * b = a * b + 18446744073709551616 * b := by rw [Int.add_mul]
theorem one_up' (a b : Int) : a * (b + 18446744073709551616) = a * b + 18446744073709551616 * a := by rw [Int.mul_add]; omega
theorem wrapu_neg {a : Int} (h1 : -9223372036854775808 ≤ a) (h : a < 0) : IntKind.u64.wrap a = a + 18446744073709551616 := by rw [IntKind.wrap_u64]; omega
/-- how a frame is laid out, under short names -/
theorem Ya {α : Type} (l : List α) (i : Nat) (a : α) : l.toArray.setIfInBounds i a = (l.set i a).toArray := List.setIfInBounds_toArray ..
theorem Yb {α : Type} {x y : α} {xs : List α} : (x :: xs).set 0 y = y :: xs := List.set_cons_zero
theorem Yc {α : Type} {x y : α} {n : Nat} {xs : List α} : (x :: xs).set (n + 1) y = x :: xs.set n y := List.set_cons_succ
end Go.Proofs.Ytakandlehneciaa
