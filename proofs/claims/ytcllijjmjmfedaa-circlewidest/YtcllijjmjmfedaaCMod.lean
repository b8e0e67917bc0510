/- Package circle, one arc: the rest by the cycle, an arc in form, whether a tick is one of its, how many ticks lie between two; the document's answer for the first of them. -/
import Derived.Test.YtcllijjmjmfedaaCFp
import Derived.Test.YtcllijjmjmfedaaExt
import Derived.Test.YtcllijjmjmfedaaProg
import Derived.LoopTactic
import Derived.Deep.DeepCutAuto
import Derived.Deep.DrawnRows
import Derived.Deep.RegionHeld
namespace Go.Proofs.Ytcllijjmjmfedaa
open Go.RowKit
attribute [local go_sem ↓] Go.wp_at_zero Go.wp_at_succ
set_option linter.unusedVariables false
set_option linter.unusedSimpArgs false
set_option maxRecDepth 10000
/-- numbers of 64 bits -/
def In (x : Int) : Prop := -9223372036854775808 ≤ x ∧ x ≤ 9223372036854775807
def InP (a : Pr) : Prop := In a.1 ∧ In a.2
theorem ediv_up {A B : Int} (hB : 0 < B) (h : A % B = 0) : (-A) / B = -(A / B) := by
  have hd := Int.emod_add_mul_ediv A B
  have e : -A = (-(A / B)) * B := by rw [Int.neg_mul, Int.mul_comm (A / B)]; omega
  rw [e, Int.mul_ediv_cancel _ (by omega)]
theorem ediv_up' {A B : Int} (hB : 0 < B) (h : ¬ A % B = 0) : (-A) / B = -(A / B) - 1 := by
  have hd := Int.emod_add_mul_ediv A B
  have hm := Int.emod_nonneg A (show B ≠ 0 by omega)
  have hl := Int.emod_lt_of_pos A hB
  have e : -A = (B - A % B) + (-(A / B) - 1) * B := by rw [Int.sub_mul, Int.neg_mul, Int.mul_comm (A / B)]; omega
  rw [e, Int.add_mul_ediv_right _ _ (by omega), Int.ediv_eq_zero_of_lt (by omega) (by omega)]
  omega
/-- Go's quotient and rest by their sizes -/
theorem go_pos {a b : Int} (ha : 0 ≤ a) (hb : 0 < b) : a.tdiv b = a / b ∧ a.tmod b = a % b := ⟨Int.tdiv_eq_ediv_of_nonneg ha, Int.tmod_eq_emod_of_nonneg ha⟩
theorem go_negpos {a b : Int} (ha : a < 0) (hb : 0 < b) : a.tdiv b = -((-a) / b) ∧ a.tmod b = -((-a) % b) := by
  obtain ⟨c, rfl⟩ : ∃ c, a = -c := ⟨-a, by omega⟩
  rw [Int.neg_tdiv, Int.neg_tmod, Int.neg_neg, Int.tdiv_eq_ediv_of_nonneg (by omega), Int.tmod_eq_emod_of_nonneg (by omega)]
  exact ⟨rfl, rfl⟩
def moA (a b : Int) : Int := if b < 1 then 0 else a % b
def moE (b : Int) : Int := if b < 1 then 1 else 0
theorem mod_low {a b : Int} (ha : a < 0) (hb : 0 < b) : a % b = if a.tmod b < 0 then a.tmod b + b else a.tmod b := by
  have g := (go_negpos ha hb).2
  have hd := Int.emod_add_mul_ediv a b
  have h1 := Int.emod_nonneg (-a) (show b ≠ 0 by omega)
  have h2 := Int.emod_lt_of_pos (-a) hb
  rw [g]
  by_cases h0 : (-a) % b = 0
  · rw [h0]
    have := ediv_up hb h0
    have hz : a % b = 0 := by
      have := Int.emod_emod_of_dvd (-a) (Int.dvd_refl b)
      exact Int.emod_eq_zero_of_dvd ((Int.dvd_neg).1 (Int.dvd_of_emod_eq_zero h0))
    simp [hz]
  · rw [if_pos (by omega)]
    have hdn := Int.emod_add_mul_ediv (-a) b
    have e : a = (-((-a) % b) + b) + (-((-a) / b) - 1) * b := by rw [Int.sub_mul, Int.neg_mul, Int.mul_comm ((-a) / b)]; omega
    conv => lhs; rw [e]
    rw [Int.add_mul_emod_self_right, Int.emod_eq_of_lt (by omega) (by omega)]
set_option maxHeartbeats 400000 in
theorem mod_arg (a b : Int) (w : World) (hb : b < 1) :
    Calls Try.prog 25 #[.int .i64 a, .int .i64 b] w fun e w' => e = .returned (.tuple #[.int .i64 0, .int .i64 1]) ∧ w' = w := by
  go_enter Try.func25, Try.ntmps25
  go_wp2
  go_ret2
  exact ⟨rfl, rfl⟩
set_option maxHeartbeats 400000 in
theorem mod_pos (a b m : Int) (w : World) (ha : 0 ≤ a) (h2 : a ≤ 9223372036854775807) (hb : 1 ≤ b) (h4 : b ≤ 9223372036854775807) (hz : (b == 0) = false) (e2 : a.tmod b = m) (e4 : a % b = m) (m1 : 0 ≤ m) (m2 : m < b) :
    Calls Try.prog 25 #[.int .i64 a, .int .i64 b] w fun e w' => e = .returned (.tuple #[.int .i64 m, .int .i64 0]) ∧ w' = w := by
  go_enter Try.func25, Try.ntmps25
  go_wp2
  go_ret2
  exact ⟨rfl, rfl⟩
set_option maxHeartbeats 400000 in
theorem mod_neg (a b m : Int) (w : World) (h1 : -9223372036854775808 ≤ a) (ha : a < 0) (hb : 1 ≤ b) (h4 : b ≤ 9223372036854775807) (hz : (b == 0) = false) (e2 : a.tmod b = m) (m1 : m < 0) (m2 : -b < m) :
    Calls Try.prog 25 #[.int .i64 a, .int .i64 b] w fun e w' => e = .returned (.tuple #[.int .i64 (m + b), .int .i64 0]) ∧ w' = w := by
  go_enter Try.func25, Try.ntmps25
  go_wp2
  go_ret2
  exact ⟨rfl, rfl⟩
set_option maxHeartbeats 400000 in
theorem mod_nought (a b : Int) (w : World) (h1 : -9223372036854775808 ≤ a) (ha : a < 0) (hb : 1 ≤ b) (h4 : b ≤ 9223372036854775807) (hz : (b == 0) = false) (e2 : a.tmod b = 0) :
    Calls Try.prog 25 #[.int .i64 a, .int .i64 b] w fun e w' => e = .returned (.tuple #[.int .i64 0, .int .i64 0]) ∧ w' = w := by
  go_enter Try.func25, Try.ntmps25
  go_wp2
  go_ret2
  exact ⟨rfl, rfl⟩
theorem mod_any (a b : Int) (w : World) (h1 : -9223372036854775808 ≤ a) (h2 : a ≤ 9223372036854775807) (h3 : -9223372036854775808 ≤ b) (h4 : b ≤ 9223372036854775807) :
    Calls Try.prog 25 #[.int .i64 a, .int .i64 b] w fun e w' => e = .returned (.tuple #[.int .i64 (moA a b), .int .i64 (moE b)]) ∧ w' = w := by
  unfold moA moE
  by_cases hb : b < 1
  · rw [if_pos hb, if_pos hb]
    exact mod_arg a b w hb
  · rw [if_neg hb, if_neg hb]
    have hz : (b == 0) = false := by simp; omega
    by_cases ha : a < 0
    · have g := (go_negpos ha (show 0 < b by omega)).2
      have k1 := Int.emod_nonneg (-a) (show b ≠ 0 by omega)
      have k2 := Int.emod_lt_of_pos (-a) (show 0 < b by omega)
      rw [mod_low ha (by omega)]
      by_cases h0 : a.tmod b < 0
      · rw [if_pos h0]
        exact mod_neg a b _ w h1 ha (by omega) h4 hz rfl h0 (by omega)
      · have e : a.tmod b = 0 := by omega
        rw [if_neg h0, e]
        exact mod_nought a b w h1 ha (by omega) h4 hz e
    · exact mod_pos a b _ w (by omega) h2 (by omega) h4 hz (Int.tmod_eq_emod_of_nonneg (by omega)) rfl (Int.emod_nonneg _ (by omega)) (Int.emod_lt_of_pos _ (by omega))
end Go.Proofs.Ytcllijjmjmfedaa
