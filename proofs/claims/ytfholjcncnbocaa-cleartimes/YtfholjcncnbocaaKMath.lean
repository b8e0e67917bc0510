/- Quotients rounded up: plain numbers; what the times of layer 8 are. -/
import Derived.Test.YtfholjcncnbocaaNum
namespace Go.Proofs.Ytfholjcncnbocaa
open Go.RowKit
set_option linter.unusedVariables false
/-- the least whole number that is not below n / d -/
def up (n d : Int) : Int := n / d + (if n % d = 0 then 0 else 1)
theorem up_ge {n d : Int} (hd : 0 < d) : n ≤ up n d * d := by
  have h := Int.emod_add_mul_ediv n d
  have h2 := Int.emod_lt_of_pos n hd
  unfold up
  rw [Int.add_mul, Int.mul_comm (n / d)]
  split <;> simp <;> omega
theorem up_lt {n d : Int} (hd : 0 < d) : (up n d - 1) * d < n := by
  have h := Int.emod_add_mul_ediv n d
  have h2 := Int.emod_lt_of_pos n hd
  have h3 := Int.emod_nonneg n (show d ≠ 0 by omega)
  unfold up
  split
  · rw [Int.sub_mul, Int.add_mul, Int.mul_comm (n / d)]; simp; omega
  · rw [Int.sub_mul, Int.add_mul, Int.mul_comm (n / d)]; simp; omega
theorem up_le {n d k : Int} (hd : 0 < d) (h : n ≤ k * d) : up n d ≤ k := by
  have h1 := up_lt (n := n) hd
  have h2 : (up n d - 1) * d < k * d := by omega
  have := Int.lt_of_mul_lt_mul_right h2 (by omega)
  omega
theorem up_nn {n d : Int} (hd : 0 < d) (h : 0 ≤ n) : 0 ≤ up n d := by
  have h1 := up_ge (n := n) hd
  by_cases h2 : 0 ≤ up n d
  · exact h2
  · have h3 : up n d * d ≤ -1 * d := Int.mul_le_mul_of_nonneg_right (by omega) (by omega)
    omega
theorem up_add {n d k : Int} (hd : 0 < d) : up (n + k * d) d = up n d + k := by
  unfold up
  rw [Int.add_mul_ediv_right _ _ (by omega), Int.add_mul_emod_self_right]
  omega
/-- more above, or less below, is no less -/
theorem up_mono {n m d : Int} (hd : 0 < d) (h : n ≤ m) : up n d ≤ up m d := up_le hd (by have := up_ge (n := m) hd; omega)
theorem up_anti {n d e : Int} (hd : 0 < d) (he : d ≤ e) (hn : 0 ≤ n) : up n e ≤ up n d := by
  refine up_le (by omega) ?_
  have h1 := up_ge (n := n) hd
  have h2 := up_nn (n := n) hd hn
  have := Int.mul_le_mul_of_nonneg_left he h2
  omega
theorem up_small {n d : Int} (hd : 0 < d) (h : 0 ≤ n) : up n d ≤ n := up_le hd (by have := Int.mul_le_mul_of_nonneg_left (show 1 ≤ d by omega) h; omega)
/-- may yellow, red, flashing be asked for? -/
def yK (s g : Int) : Bool := decide (1 ≤ s ∧ s ≤ 10000 ∧ -200 ≤ g ∧ g ≤ 200)
def rK (a b s : Int) : Bool := decide (0 ≤ a ∧ a ≤ 100000 ∧ 0 ≤ b ∧ b ≤ 100000 ∧ 1 ≤ s ∧ s ≤ 10000)
def fK (a s : Int) : Bool := decide (1 ≤ a ∧ a ≤ 100000 ∧ 1 ≤ s ∧ s ≤ 10000)
def yN (s g : Int) : Int := if yK s g then 10 + up (10000 * s) (610000 + 1962 * g) else 0
def yE (s g : Int) : Int := if yK s g then 0 else 1
def rN (a b s : Int) : Int := if rK a b s then up (10 * (a + b)) s else 0
def rE (a b s : Int) : Int := if rK a b s then 0 else 1
def fN (a s : Int) : Int := if fK a s then up (10 * a) s else 0
def fE (a s : Int) : Int := if fK a s then 0 else 1
end Go.Proofs.Ytfholjcncnbocaa
