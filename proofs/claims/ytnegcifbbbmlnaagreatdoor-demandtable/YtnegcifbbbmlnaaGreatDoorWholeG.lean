/- What products come to. -/
import Derived.Test.YtnegcifbbbmlnaaGreatDoorShelf
import Derived.Test.YtnegcifbbbmlnaaGreatDoorWholeA
import Derived.Deep.RegionWith
import Derived.WalkSpells
import Derived.Test.YtnegcifbbbmlnaaGreatDoorWholeQ
import Derived.LoopTactic
import Derived.RegionTactic
namespace Go.Proofs.YtnegcifbbbmlnaaGreatDoor
open Go.RowKit
set_option linter.unusedVariables false

/-- math/bits.Mul64 over Int: the two halves of the product -/
theorem mul64_any (x y : Int) (w : World) (hx0 : 0 ≤ x) (hx : x < 18446744073709551616) (hy0 : 0 ≤ y) (hy : y < 18446744073709551616) :
    Calls Tryz.prog 79 #[.int .u64 x, .int .u64 y] w fun e w' => ∃ hi lo : Int, e = .returned (.tuple #[.int .u64 hi, .int .u64 lo]) ∧ 0 ≤ hi ∧ hi < 18446744073709551616 ∧ 0 ≤ lo ∧ lo < 18446744073709551616 ∧ Hid (x * y = hi * 18446744073709551616 + lo) ∧ w' = w := by
  obtain ⟨x, rfl⟩ := Int.eq_ofNat_of_zero_le hx0
  obtain ⟨y, rfl⟩ := Int.eq_ofNat_of_zero_le hy0
  refine (Tryz.bits_Mul64 x y (by omega) (by omega) w).mono ?_
  rintro e w' ⟨rfl, rfl⟩
  have hm : x * y ≤ 18446744073709551615 * 18446744073709551615 := Nat.mul_le_mul (by omega) (by omega)
  refine ⟨_, _, rfl, by omega, by omega, by omega, by omega, ?_, rfl⟩
  refine hide ?_
  rw [← Int.natCast_mul]
  generalize x * y = u
  omega

set_option maxHeartbeats 400000 in
theorem times_any (a b : Int) (w : World) (h1 : -9223372036854775808 ≤ a) (h2 : a ≤ 9223372036854775807) (h3 : -9223372036854775808 ≤ b) (h4 : b ≤ 9223372036854775807) :
    Calls Tryz.prog 62 #[.int .i64 a, .int .i64 b] w fun e w' => e = .returned (.agg #[.int .i64 (hiOf (a * b)), .int .u64 (loOf (a * b))]) ∧ ∃ c, w' = w.alloc (.cells c 109) := by
  have pb := hide (prod_bd h1 h2 h3 h4)
  by_cases ha : a < 0 <;> by_cases hb : b < 0
  · go_enter Tryz.func62, Tryz.ntmps62
    go_wp2_with fail
    rw [wrapu_neg h1 ha, wrapu_neg h3 hb]
    refine (mul64_any _ _ _ (by omega) (by omega) (by omega) (by omega)).mono ?_
    rintro e w' ⟨hi, lo, rfl, g1, g2, g3, g4, G, rfl⟩
    go_wp2
    refine bodyPost_ret (v := .agg #[.int .i64 (wrap64 (IntKind.u64.wrap (IntKind.u64.wrap (hi - IntKind.u64.wrap b) - IntKind.u64.wrap a))), .int .u64 lo]) (by simp [results, Tryz.results62, go_sem]) rfl ⟨agg_ret ?_ ?_, _, rfl⟩
    all_goals
      have G' := uq G
      have pb' := uq pb
      rw [two_up] at G'
      clear G pb
      simp only [hiOf, loOf]
      generalize a * b = P at *
      try simp only [IntKind.wrap_u64, wrap64]
      omega
  · go_enter Tryz.func62, Tryz.ntmps62
    go_wp2_with fail
    rw [wrapu_neg h1 ha]
    refine (mul64_any _ _ _ (by omega) (by omega) (by omega) (by omega)).mono ?_
    rintro e w' ⟨hi, lo, rfl, g1, g2, g3, g4, G, rfl⟩
    go_wp2
    refine bodyPost_ret (v := .agg #[.int .i64 (wrap64 (IntKind.u64.wrap (hi - b))), .int .u64 lo]) (by simp [results, Tryz.results62, go_sem]) rfl ⟨agg_ret ?_ ?_, _, rfl⟩
    all_goals
      have G' := uq G
      have pb' := uq pb
      rw [one_up] at G'
      clear G pb
      simp only [hiOf, loOf]
      generalize a * b = P at *
      try simp only [IntKind.wrap_u64, wrap64]
      omega
  · go_enter Tryz.func62, Tryz.ntmps62
    go_wp2_with fail
    rw [wrapu_neg h3 hb]
    refine (mul64_any _ _ _ (by omega) (by omega) (by omega) (by omega)).mono ?_
    rintro e w' ⟨hi, lo, rfl, g1, g2, g3, g4, G, rfl⟩
    go_wp2
    refine bodyPost_ret (v := .agg #[.int .i64 (wrap64 (IntKind.u64.wrap (hi - a))), .int .u64 lo]) (by simp [results, Tryz.results62, go_sem]) rfl ⟨agg_ret ?_ ?_, _, rfl⟩
    all_goals
      have G' := uq G
      have pb' := uq pb
      rw [one_up'] at G'
      clear G pb
      simp only [hiOf, loOf]
      generalize a * b = P at *
      try simp only [IntKind.wrap_u64, wrap64]
      omega
  · go_enter Tryz.func62, Tryz.ntmps62
    go_wp2_with fail
    refine (mul64_any _ _ _ (by omega) (by omega) (by omega) (by omega)).mono ?_
    rintro e w' ⟨hi, lo, rfl, g1, g2, g3, g4, G, rfl⟩
    go_wp2
    refine bodyPost_ret (v := .agg #[.int .i64 (wrap64 hi), .int .u64 lo]) (by simp [results, Tryz.results62, go_sem]) rfl ⟨agg_ret ?_ ?_, _, rfl⟩
    all_goals
      have G' := uq G
      have pb' := uq pb
      clear G pb
      simp only [hiOf, loOf]
      generalize a * b = P at *
      try simp only [wrap64]
      omega

set_option maxHeartbeats 400000 in
theorem widen_any (a : Int) (w : World) (h1 : -9223372036854775808 ≤ a) (h2 : a ≤ 9223372036854775807) :
    Calls Tryz.prog 63 #[.int .i64 a] w fun e w' => e = .returned (.agg #[.int .i64 (hiOf a), .int .u64 (loOf a)]) ∧ ∃ c, w' = w.alloc (.cells c 109) := by
  by_cases ha : a < 0
  · go_enter Tryz.func63, Tryz.ntmps63
    go_wp2
    exact bodyPost_ret (v := .agg #[.int .i64 (a / 9223372036854775808), .int .u64 (IntKind.u64.wrap a)]) (by simp [results, Tryz.results63, go_sem]) rfl ⟨agg_ret (by unfold hiOf; omega) (by unfold loOf; rw [wrapu_neg h1 ha]; omega), _, rfl⟩
  · go_enter Tryz.func63, Tryz.ntmps63
    go_wp2
    exact bodyPost_ret (v := .agg #[.int .i64 (a / 9223372036854775808), .int .u64 a]) (by simp [results, Tryz.results63, go_sem]) rfl ⟨agg_ret (by unfold hiOf; omega) (by unfold loOf; omega), _, rfl⟩

theorem mul_yes {P low : Int} (hlow : wrap64 (loOf P) = low) (hq : hiOf P = hiOf low) : P = low ∧ -9223372036854775808 ≤ P ∧ P ≤ 9223372036854775807 := by
  unfold hiOf loOf wrap64 at *; omega
theorem mul_no {P low : Int} (hlow : wrap64 (loOf P) = low) (hq : ¬ hiOf P = hiOf low) : P < -9223372036854775808 ∨ 9223372036854775807 < P := by
  unfold hiOf loOf wrap64 at *; omega
theorem mul_lo {P low : Int} (hlow : wrap64 (loOf P) = low) : loOf P = loOf low := by
  unfold loOf wrap64 at *; omega

/-- the end of Mul, for halves H, L of the product, and H2 of its low half widened -/
theorem mul_end (a b H L H2 low : Int) (yes : Bool) (w : World) (g3 : 0 ≤ L) (g4 : L < 18446744073709551616) (hl1 : -9223372036854775808 ≤ low) (hl2 : low ≤ 9223372036854775807) (hA : (H == H2) = yes)
    (Hlow : Hid (wrap64 L = low))
    (T : Hid (∀ w, Calls Tryz.prog 62 #[.int .i64 a, .int .i64 b] w fun e w' => e = .returned (.agg #[.int .i64 H, .int .u64 L]) ∧ ∃ c, w' = w.alloc (.cells c 109)))
    (W : Hid (∀ w, Calls Tryz.prog 63 #[.int .i64 low] w fun e w' => e = .returned (.agg #[.int .i64 H2, .int .u64 L]) ∧ ∃ c, w' = w.alloc (.cells c 109))) :
    Calls Tryz.prog 40 #[.int .i64 a, .int .i64 b] w fun e w' => e = .returned (.tuple #[.int .i64 (if yes then low else 0), .int .i64 (if yes then 0 else 2)]) ∧ Keep w w' := by
  cases yes
  all_goals
    go_enter Tryz.func40, Tryz.ntmps40
    go_wp2_with (go_at_call 62; refine ((uq T) _).mono ?_; rintro e w1 ⟨rfl, c1, rfl⟩)
    rw [uq Hlow]
    go_region_with (go_at_call 63; refine ((uq W) _).mono ?_; rintro e w2 ⟨rfl, c2, rfl⟩)
    all_goals
      go_wp2
      go_ret2
      exact ⟨rfl, by repeat (first | exact Keep.refl _ | apply Keep.drew | apply Keep.alloc)⟩

theorem mul_any (a b : Int) (w : World) (h1 : -9223372036854775808 ≤ a) (h2 : a ≤ 9223372036854775807) (h3 : -9223372036854775808 ≤ b) (h4 : b ≤ 9223372036854775807) :
    Calls Tryz.prog 40 #[.int .i64 a, .int .i64 b] w fun e w' => e = .returned (.tuple #[.int .i64 (ans (a * b)), .int .i64 (err (a * b))]) ∧ Keep w w' := by
  have hb := halves (a * b)
  have hl : -9223372036854775808 ≤ wrap64 (loOf (a * b)) ∧ wrap64 (loOf (a * b)) ≤ 9223372036854775807 := by unfold wrap64; omega
  have hlo := mul_lo (P := a * b) rfl
  by_cases hq : hiOf (a * b) = hiOf (wrap64 (loOf (a * b)))
  · have hy := mul_yes rfl hq
    refine (mul_end a b (hiOf (a * b)) (loOf (a * b)) (hiOf (wrap64 (loOf (a * b)))) (wrap64 (loOf (a * b))) true w hb.2.1 hb.2.2 hl.1 hl.2 (by simp [← hq]) (hide rfl) (hide fun w => times_any a b w h1 h2 h3 h4) (hide fun w => ?_)).mono ?_
    · have hw := widen_any _ w hl.1 hl.2
      rw [← hlo] at hw
      exact hw
    · rintro e w' ⟨rfl, hg⟩
      refine ⟨two_ret ?_ ?_, hg⟩
      · rw [ans_yes hy.2.1 hy.2.2]; simp [← hy.1]
      · rw [err_yes hy.2.1 hy.2.2]; simp
  · have hy := mul_no rfl hq
    refine (mul_end a b (hiOf (a * b)) (loOf (a * b)) (hiOf (wrap64 (loOf (a * b)))) (wrap64 (loOf (a * b))) false w hb.2.1 hb.2.2 hl.1 hl.2 (by simp [hq]) (hide rfl) (hide fun w => times_any a b w h1 h2 h3 h4) (hide fun w => ?_)).mono ?_
    · have hw := widen_any _ w hl.1 hl.2
      rw [← hlo] at hw
      exact hw
    · rintro e w' ⟨rfl, hg⟩
      refine ⟨two_ret ?_ ?_, hg⟩
      · rw [ans_no hy]; simp
      · rw [err_no hy]; simp
end Go.Proofs.YtnegcifbbbmlnaaGreatDoor

namespace Go.Proofs.YtnegcifbbbmlnaaGreatDoor
open Go.RowKit
set_option linter.unusedVariables false

set_option maxHeartbeats 400000 in
theorem size_any (a : Int) (w : World) (h1 : -9223372036854775808 ≤ a) (h2 : a ≤ 9223372036854775807) :
    Calls Tryz.prog 61 #[.int .i64 a] w fun e w' => e = .returned (.int .u64 (a.natAbs : Int)) ∧ w' = w := by
  by_cases ha : a < 0
  · go_enter Tryz.func61, Tryz.ntmps61
    go_wp2
    go_ret
    exact ⟨one_ret (by rw [IntKind.wrap_u64, IntKind.wrap_u64]; omega), rfl⟩
  · go_enter Tryz.func61, Tryz.ntmps61
    go_wp2
    go_ret
    exact ⟨one_ret (by omega), rfl⟩

set_option maxHeartbeats 1000000 in
theorem gcd_core (a b : Int) (x y G : Nat) (w : World) (hx : x ≤ 9223372036854775808) (hy : y ≤ 9223372036854775808) (HG : Hid (Nat.gcd x y = G))
    (S1 : Hid (∀ w, Calls Tryz.prog 61 #[.int .i64 a] w fun e w' => e = .returned (.int .u64 (x : Int)) ∧ w' = w))
    (S2 : Hid (∀ w, Calls Tryz.prog 61 #[.int .i64 b] w fun e w' => e = .returned (.int .u64 (y : Int)) ∧ w' = w)) :
    Calls Tryz.prog 39 #[.int .i64 a, .int .i64 b] w fun e w' => e = .returned (.tuple #[.int .i64 (ans (G : Int)), .int .i64 (err (G : Int))]) ∧ Keep w w' := by
  go_enter Tryz.func39, Tryz.ntmps39
  go_wp2_with fail
  refine (uq S1 _).mono ?_
  rintro e w' ⟨rfl, rfl⟩
  go_wp2_with fail
  refine (uq S2 _).mono ?_
  rintro e w' ⟨rfl, rfl⟩
  go_wp2_with fail
  go_loopw [6, 7] (fun p q wr => ∃ u v : Nat, p = .int .u64 (u : Int) ∧ q = .int .u64 (v : Int) ∧ u ≤ 9223372036854775808 ∧ v ≤ 9223372036854775808 ∧ Hid (Nat.gcd u v = G) ∧ Keep w' wr) (fun _ q _ => (intOf q).toNat)
  case atStart => exact ⟨x, y, rfl, rfl, hx, hy, HG, Keep.refl _⟩
  case round =>
    obtain ⟨u, v, rfl, rfl, hu, hv, Hg, hk⟩ := hrel
    by_cases hz : v = 0
    · subst hz
      have e0 : u = G := by have := uq Hg; simpa using this
      by_cases hf : u ≤ 9223372036854775807
      · have k := ans_yes (n := (u : Int)) (by omega) (by omega)
        have k' := err_yes (n := (u : Int)) (by omega) (by omega)
        rw [e0] at k k'
        have K := hide k
        have K' := hide k'
        have E0 := hide e0
        clear k k' e0
        go_wp2
        go_ret2
        exact ⟨two_ret (by rw [uq K, uq E0]) (by rw [uq K']), hk⟩
      · have k := ans_no (n := (u : Int)) (by omega)
        have k' := err_no (n := (u : Int)) (by omega)
        rw [e0] at k k'
        have K := hide k
        have K' := hide k'
        have E0 := hide e0
        clear k k' e0
        go_wp2
        go_ret2
        exact ⟨two_ret (by rw [uq K]) (by rw [uq K']), hk⟩
    · have hb : ((v : Int) == 0) = false := by simp; omega
      have hb2 : ((v : Int) != 0) = true := by simp; omega
      have hm : u % v < v := Nat.mod_lt _ (by omega)
      have Hg2 : Hid (Nat.gcd v (u % v) = G) := by
        refine hide ?_
        rw [← uq Hg, Nat.gcd_comm u v]
        exact (Nat.gcd_rec v u).symm ▸ (by rw [Nat.gcd_comm])
      go_wp2
      go_region
      all_goals go_wp2
      all_goals go_roundw
      case rel => exact ⟨v, u % v, rfl, by go_num, by omega, by omega, Hg2, hk.drew⟩
      case measure => simp [intOf]; omega

theorem gcd_any (a b : Int) (w : World) (h1 : -9223372036854775808 ≤ a) (h2 : a ≤ 9223372036854775807) (h3 : -9223372036854775808 ≤ b) (h4 : b ≤ 9223372036854775807) :
    Calls Tryz.prog 39 #[.int .i64 a, .int .i64 b] w fun e w' => e = .returned (.tuple #[.int .i64 (ans (Int.gcd a b : Int)), .int .i64 (err (Int.gcd a b : Int))]) ∧ Keep w w' :=
  gcd_core a b a.natAbs b.natAbs (Int.gcd a b) w (by omega) (by omega) (hide rfl) (hide fun w => size_any a w h1 h2) (hide fun w => size_any b w h3 h4)

/-! ### multiples -/
/-! ### products compared -/
end Go.Proofs.YtnegcifbbbmlnaaGreatDoor
