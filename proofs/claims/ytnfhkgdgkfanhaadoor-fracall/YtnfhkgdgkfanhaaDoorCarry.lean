/- math/bits.Add64 and Sub64 over Int, at this program; halves added to and turned. -/
import Derived.Shelf.Spec.BitsCarry
import Derived.Test.YtnfhkgdgkfanhaaDoorWholeB
import Derived.Test.YtnfhkgdgkfanhaaDoorDiv
namespace Go.Proofs.YtnfhkgdgkfanhaaDoor
open Go.RowKit
set_option linter.unusedVariables false

theorem add64_0 (x y : Int) (hx : 0 ≤ x) (hy : 0 ≤ y) (w : World) : (callFunc 92 #[.int .u64 x, .int .u64 y, .int .u64 0]).run Tryd.prog w =
    .ok (.value (.tuple #[.int .u64 ((x + y) % 18446744073709551616), .int .u64 ((x + y) / 18446744073709551616)])) w := by
  rw [run_callFunc_extern Tryd.func92 (by kernel_rfl) (by kernel_rfl) (by kernel_rfl) (e := add64Entry) (by kernel_rfl), run_add64 (P := Tryd.prog) x y 0 hx hy (by omega) (by omega) w]
  simp only [Result.andThen, Int.add_zero]
/-- the borrow of 0 - x - b -/
def bor (x b : Int) : Int := if 0 < x + b then 1 else 0
theorem sub64_any (y b : Int) (hy : 0 ≤ y) (hy' : y < 18446744073709551616) (hb : 0 ≤ b) (hb' : b ≤ 1) (w : World) : (callFunc 93 #[.int .u64 0, .int .u64 y, .int .u64 b]).run Tryd.prog w =
    .ok (.value (.tuple #[.int .u64 ((-y - b) % 18446744073709551616), .int .u64 (bor y b)])) w := by
  obtain ⟨y, rfl⟩ := Int.eq_ofNat_of_zero_le hy
  obtain ⟨b, rfl⟩ := Int.eq_ofNat_of_zero_le hb
  have h := run_sub64 (P := Tryd.prog) 0 y b (by omega) w
  have e1 : (((0 + 18446744073709551616 - y - b) % 18446744073709551616 : Nat) : Int) = (-(y : Int) - b) % 18446744073709551616 := by omega
  have e2 : ((if 0 < y + b then 1 else 0 : Nat) : Int) = bor y b := by unfold bor; split <;> split <;> omega
  rw [run_callFunc_extern Tryd.func93 (by kernel_rfl) (by kernel_rfl) (by kernel_rfl) (e := sub64Entry) (by kernel_rfl)]
  have h' : (sub64Entry #[.int .u64 0, .int .u64 y, .int .u64 b]).run Tryd.prog w = .ok (.tuple #[.int .u64 ((-(y : Int) - b) % 18446744073709551616), .int .u64 (bor y b)]) w := by
    rw [← e1, ← e2]; exact h
  rw [h']
  simp only [Result.andThen]
theorem sub64_0 (y : Int) (hy : 0 ≤ y) (hy' : y < 18446744073709551616) (w : World) : (callFunc 93 #[.int .u64 0, .int .u64 y, .int .u64 0]).run Tryd.prog w =
    .ok (.value (.tuple #[.int .u64 (-y % 18446744073709551616), .int .u64 (bor y 0)])) w := by
  have := sub64_any y 0 hy hy' (by omega) (by omega) w
  rw [show -y - 0 = -y by omega] at this
  exact this
theorem bor_bd (x b : Int) : 0 ≤ bor x b ∧ bor x b ≤ 1 := by unfold bor; split <;> omega

/-! ### over -/
end Go.Proofs.YtnfhkgdgkfanhaaDoor
