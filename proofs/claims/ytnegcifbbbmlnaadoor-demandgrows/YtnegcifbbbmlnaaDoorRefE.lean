/- The document's answer for products, scaled products, divisors and multiples. -/
import Derived.Test.YtnegcifbbbmlnaaDoorRefC
import Derived.Test.YtnegcifbbbmlnaaDoorRefD
import Derived.Test.YtnegcifbbbmlnaaDoorWholeG
import Derived.Test.YtnegcifbbbmlnaaDoorScale
namespace Go.Proofs.YtnegcifbbbmlnaaDoor
open Go.RowKit
set_option linter.unusedVariables false
set_option maxRecDepth 10000

set_option maxHeartbeats 400000 in
theorem rsize_any (a : Int) (w : World) (h1 : -9223372036854775808 ≤ a) (h2 : a ≤ 9223372036854775807) :
    Calls Tryd.prog 40 #[.int .i64 a] w fun e w' => e = .returned (.int .u64 (a.natAbs : Int)) ∧ w' = w := by
  by_cases ha : a < 0
  · go_enter Tryd.func40, Tryd.ntmps40
    go_wp2
    go_ret
    exact ⟨one_ret (by rw [IntKind.wrap_u64, IntKind.wrap_u64]; omega), rfl⟩
  · go_enter Tryd.func40, Tryd.ntmps40
    go_wp2
    go_ret
    exact ⟨one_ret (by omega), rfl⟩

/-- a number of a size and a sign -/
def sg (u : Int) (below : Bool) : Int := if below then -u else u
set_option maxHeartbeats 400000 in
theorem signed_min (w : World) :
    Calls Tryd.prog 59 #[.int .u64 9223372036854775808, .bool true] w fun e w' => e = .returned (.tuple #[.int .i64 (-9223372036854775808), .int .i64 0]) ∧ w' = w := by
  go_enter Tryd.func59, Tryd.ntmps59
  go_wp2
  go_ret2
  exact ⟨rfl, rfl⟩
set_option maxHeartbeats 400000 in
theorem signed_over (u : Int) (below : Bool) (w : World) (h : 9223372036854775807 < u) (hu : u < 18446744073709551616) (hb : below = true → u ≠ 9223372036854775808) :
    Calls Tryd.prog 59 #[.int .u64 u, .bool below] w fun e w' => e = .returned (.tuple #[.int .i64 0, .int .i64 2]) ∧ w' = w := by
  cases below
  · clear hb
    by_cases he : u = 9223372036854775808
    · subst he
      go_enter Tryd.func59, Tryd.ntmps59
      go_wp2
      go_ret2
      exact ⟨rfl, rfl⟩
    · have he' : (u == 9223372036854775808) = false := by simp [he]
      go_enter Tryd.func59, Tryd.ntmps59
      go_wp2
      go_ret2
      exact ⟨rfl, rfl⟩
  · have he' : (u == 9223372036854775808) = false := by simp [hb rfl]
    clear hb
    go_enter Tryd.func59, Tryd.ntmps59
    go_wp2
    go_ret2
    exact ⟨rfl, rfl⟩
set_option maxHeartbeats 400000 in
theorem signed_fits (u : Int) (below : Bool) (w : World) (h0 : 0 ≤ u) (h : u ≤ 9223372036854775807) :
    Calls Tryd.prog 59 #[.int .u64 u, .bool below] w fun e w' => e = .returned (.tuple #[.int .i64 (sg u below), .int .i64 0]) ∧ w' = w := by
  have he' : (u == 9223372036854775808) = false := by simp; omega
  cases below
  · go_enter Tryd.func59, Tryd.ntmps59
    go_wp2
    go_ret2
    exact ⟨two_ret (by simp [sg]) rfl, rfl⟩
  · go_enter Tryd.func59, Tryd.ntmps59
    go_wp2
    go_ret2
    exact ⟨two_ret (by simp [sg]) rfl, rfl⟩
theorem signed_any (u : Int) (below : Bool) (w : World) (h0 : 0 ≤ u) (hu : u < 18446744073709551616) :
    Calls Tryd.prog 59 #[.int .u64 u, .bool below] w fun e w' => e = .returned (.tuple #[.int .i64 (ans (sg u below)), .int .i64 (err (sg u below))]) ∧ w' = w := by
  by_cases h : u ≤ 9223372036854775807
  · have hs : -9223372036854775808 ≤ sg u below ∧ sg u below ≤ 9223372036854775807 := by cases below <;> simp [sg] <;> omega
    rw [ans_yes hs.1 hs.2, err_yes hs.1 hs.2]
    exact signed_fits u below w h0 h
  · by_cases hm : below = true ∧ u = 9223372036854775808
    · obtain ⟨rfl, rfl⟩ := hm
      rw [show sg 9223372036854775808 true = -9223372036854775808 by simp [sg], ans_yes (by omega) (by omega), err_yes (by omega) (by omega)]
      exact signed_min w
    · have hs : sg u below < -9223372036854775808 ∨ 9223372036854775807 < sg u below := by
        cases below
        · simp [sg]; omega
        · have : u ≠ 9223372036854775808 := fun e => hm ⟨rfl, e⟩
          simp [sg]; omega
      rw [ans_no hs, err_no hs]
      exact signed_over u below w (by omega) hu (fun hb e => hm ⟨hb, e⟩)

theorem sizes_mul (a b : Int) : ((a.natAbs : Int) * (b.natAbs : Int)) = ((a * b).natAbs : Int) := by rw [Int.natAbs_mul, Int.natCast_mul]
theorem size_bd {a : Int} (h1 : -9223372036854775808 ≤ a) (h2 : a ≤ 9223372036854775807) : 0 ≤ (a.natAbs : Int) ∧ (a.natAbs : Int) < 18446744073709551616 := by omega
/-- is a product below 0? -/
def bel (a b : Int) : Bool := decide (a * b < 0)
theorem bel_nn {a b : Int} (ha : a < 0) (hb : b < 0) : bel a b = false := by have := Int.mul_pos_of_neg_of_neg ha hb; simp [bel]; omega
theorem bel_np {a b : Int} (ha : a < 0) (hb : 0 < b) : bel a b = true := by have := Int.mul_neg_of_neg_of_pos ha hb; simp [bel]; omega
theorem bel_pn {a b : Int} (ha : 0 < a) (hb : b < 0) : bel a b = true := by have := Int.mul_neg_of_pos_of_neg ha hb; simp [bel]; omega
theorem bel_pp {a b : Int} (ha : 0 < a) (hb : 0 < b) : bel a b = false := by have := Int.mul_pos ha hb; simp [bel]; omega
theorem bel_z1 (b : Int) : bel 0 b = false := by simp [bel]
theorem bel_z2 (a : Int) : bel a 0 = false := by simp [bel]
theorem sg_bel (a b : Int) : sg ((a * b).natAbs : Int) (bel a b) = a * b := by
  unfold sg bel
  by_cases h : a * b < 0
  · simp [h]; omega
  · simp [h]; omega
end Go.Proofs.YtnegcifbbbmlnaaDoor
