/- What products come to. -/
import Derived.Test.YtnfhkgdgkfanhaaDoorShelf
import Derived.Test.YtnfhkgdgkfanhaaDoorWholeA
import Derived.Deep.RegionWith
import Derived.WalkSpells
namespace Go.Proofs.YtnfhkgdgkfanhaaDoor
open Go.RowKit
set_option linter.unusedVariables false

/-- math/bits.Mul64 over Int: the two halves of the product -/
theorem mul64_any (x y : Int) (w : World) (hx0 : 0 ≤ x) (hx : x < 18446744073709551616) (hy0 : 0 ≤ y) (hy : y < 18446744073709551616) :
    Calls Tryd.prog 87 #[.int .u64 x, .int .u64 y] w fun e w' => ∃ hi lo : Int, e = .returned (.tuple #[.int .u64 hi, .int .u64 lo]) ∧ 0 ≤ hi ∧ hi < 18446744073709551616 ∧ 0 ≤ lo ∧ lo < 18446744073709551616 ∧ Hid (x * y = hi * 18446744073709551616 + lo) ∧ w' = w := by
  obtain ⟨x, rfl⟩ := Int.eq_ofNat_of_zero_le hx0
  obtain ⟨y, rfl⟩ := Int.eq_ofNat_of_zero_le hy0
  refine (Tryd.bits_Mul64 x y (by omega) (by omega) w).mono ?_
  rintro e w' ⟨rfl, rfl⟩
  have hm : x * y ≤ 18446744073709551615 * 18446744073709551615 := Nat.mul_le_mul (by omega) (by omega)
  refine ⟨_, _, rfl, by omega, by omega, by omega, by omega, ?_, rfl⟩
  refine hide ?_
  rw [← Int.natCast_mul]
  generalize x * y = u
  omega

set_option maxHeartbeats 400000 in
theorem times_any (a b : Int) (w : World) (h1 : -9223372036854775808 ≤ a) (h2 : a ≤ 9223372036854775807) (h3 : -9223372036854775808 ≤ b) (h4 : b ≤ 9223372036854775807) :
    Calls Tryd.prog 77 #[.int .i64 a, .int .i64 b] w fun e w' => e = .returned (.agg #[.int .i64 (hiOf (a * b)), .int .u64 (loOf (a * b))]) ∧ ∃ c, w' = w.alloc (.cells c 80) := by
  have pb := hide (prod_bd h1 h2 h3 h4)
  by_cases ha : a < 0 <;> by_cases hb : b < 0
  · go_enter Tryd.func77, Tryd.ntmps77
    go_wp2_with fail
    rw [wrapu_neg h1 ha, wrapu_neg h3 hb]
    refine (mul64_any _ _ _ (by omega) (by omega) (by omega) (by omega)).mono ?_
    rintro e w' ⟨hi, lo, rfl, g1, g2, g3, g4, G, rfl⟩
    go_wp2
    refine bodyPost_ret (v := .agg #[.int .i64 (wrap64 (IntKind.u64.wrap (IntKind.u64.wrap (hi - IntKind.u64.wrap b) - IntKind.u64.wrap a))), .int .u64 lo]) (by simp [results, Tryd.results77, go_sem]) rfl ⟨agg_ret ?_ ?_, _, rfl⟩
    all_goals
      have G' := unhide G
      have pb' := unhide pb
      rw [two_up] at G'
      clear G pb
      simp only [hiOf, loOf]
      generalize a * b = P at *
      try simp only [IntKind.wrap_u64, wrap64]
      omega
  · go_enter Tryd.func77, Tryd.ntmps77
    go_wp2_with fail
    rw [wrapu_neg h1 ha]
    refine (mul64_any _ _ _ (by omega) (by omega) (by omega) (by omega)).mono ?_
    rintro e w' ⟨hi, lo, rfl, g1, g2, g3, g4, G, rfl⟩
    go_wp2
    refine bodyPost_ret (v := .agg #[.int .i64 (wrap64 (IntKind.u64.wrap (hi - b))), .int .u64 lo]) (by simp [results, Tryd.results77, go_sem]) rfl ⟨agg_ret ?_ ?_, _, rfl⟩
    all_goals
      have G' := unhide G
      have pb' := unhide pb
      rw [one_up] at G'
      clear G pb
      simp only [hiOf, loOf]
      generalize a * b = P at *
      try simp only [IntKind.wrap_u64, wrap64]
      omega
  · go_enter Tryd.func77, Tryd.ntmps77
    go_wp2_with fail
    rw [wrapu_neg h3 hb]
    refine (mul64_any _ _ _ (by omega) (by omega) (by omega) (by omega)).mono ?_
    rintro e w' ⟨hi, lo, rfl, g1, g2, g3, g4, G, rfl⟩
    go_wp2
    refine bodyPost_ret (v := .agg #[.int .i64 (wrap64 (IntKind.u64.wrap (hi - a))), .int .u64 lo]) (by simp [results, Tryd.results77, go_sem]) rfl ⟨agg_ret ?_ ?_, _, rfl⟩
    all_goals
      have G' := unhide G
      have pb' := unhide pb
      rw [one_up'] at G'
      clear G pb
      simp only [hiOf, loOf]
      generalize a * b = P at *
      try simp only [IntKind.wrap_u64, wrap64]
      omega
  · go_enter Tryd.func77, Tryd.ntmps77
    go_wp2_with fail
    refine (mul64_any _ _ _ (by omega) (by omega) (by omega) (by omega)).mono ?_
    rintro e w' ⟨hi, lo, rfl, g1, g2, g3, g4, G, rfl⟩
    go_wp2
    refine bodyPost_ret (v := .agg #[.int .i64 (wrap64 hi), .int .u64 lo]) (by simp [results, Tryd.results77, go_sem]) rfl ⟨agg_ret ?_ ?_, _, rfl⟩
    all_goals
      have G' := unhide G
      have pb' := unhide pb
      clear G pb
      simp only [hiOf, loOf]
      generalize a * b = P at *
      try simp only [wrap64]
      omega

end Go.Proofs.YtnfhkgdgkfanhaaDoor
