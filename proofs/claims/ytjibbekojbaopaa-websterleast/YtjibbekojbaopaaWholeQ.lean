/- Quotients, rounded down and up, and rests: what package whole and the document's answer come to. -/
import Derived.Test.YtjibbekojbaopaaProg
import Derived.Test.YtjibbekojbaopaaLMath
import Derived.WalkKit
import Derived.ProofKit
namespace Go.Proofs.Ytjibbekojbaopaa
open Go.RowKit
set_option linter.unusedVariables false

/-- the greatest whole number that is not above a / b -/
def fl (a b : Int) : Int := if 0 < b then a / b else (-a) / (-b)
/-- the least whole number that is not below a / b -/
def ce (a b : Int) : Int := -(fl (-a) b)
/-- why a / b can't be told, if it can't: 3: b is 0; 2: it does not fit -/
def qe (a b : Int) : Int := if b = 0 then 3 else if a = -9223372036854775808 ∧ b = -1 then 2 else 0

theorem ediv_up {A B : Int} (hB : 0 < B) (h : A % B = 0) : (-A) / B = -(A / B) := by
  have hd := Int.emod_add_mul_ediv A B
  have e : -A = (-(A / B)) * B := by rw [Int.neg_mul, Int.mul_comm (A / B)]; omega
  rw [e, Int.mul_ediv_cancel _ (by omega)]
theorem ediv_up' {A B : Int} (hB : 0 < B) (h : ¬ A % B = 0) : (-A) / B = -(A / B) - 1 := by
  have hd := Int.emod_add_mul_ediv A B
  have hm := Int.emod_nonneg A (show B ≠ 0 by omega)
  have hl := Int.emod_lt_of_pos A hB
  have e : -A = (B - A % B) + (-(A / B) - 1) * B := by rw [Int.sub_mul, Int.neg_mul, Int.mul_comm (A / B)]; omega
  rw [e, Int.add_mul_ediv_right _ _ (by omega), Int.ediv_eq_zero_of_lt (by omega) (by omega)]
  omega
/-- Go's quotient and rest by their sizes -/
theorem go_pos {a b : Int} (ha : 0 ≤ a) (hb : 0 < b) : a.tdiv b = a / b ∧ a.tmod b = a % b := ⟨Int.tdiv_eq_ediv_of_nonneg ha, Int.tmod_eq_emod_of_nonneg ha⟩
theorem go_negpos {a b : Int} (ha : a < 0) (hb : 0 < b) : a.tdiv b = -((-a) / b) ∧ a.tmod b = -((-a) % b) := by
  obtain ⟨c, rfl⟩ : ∃ c, a = -c := ⟨-a, by omega⟩
  rw [Int.neg_tdiv, Int.neg_tmod, Int.neg_neg, Int.tdiv_eq_ediv_of_nonneg (by omega), Int.tmod_eq_emod_of_nonneg (by omega)]
  exact ⟨rfl, rfl⟩
theorem go_posneg {a b : Int} (ha : 0 ≤ a) (hb : b < 0) : a.tdiv b = -(a / (-b)) ∧ a.tmod b = a % (-b) := by
  obtain ⟨c, rfl⟩ : ∃ c, b = -c := ⟨-b, by omega⟩
  rw [Int.tdiv_neg, Int.tmod_neg, Int.neg_neg, Int.tdiv_eq_ediv_of_nonneg (by omega), Int.tmod_eq_emod_of_nonneg (by omega)]
  exact ⟨rfl, rfl⟩
theorem go_negneg {a b : Int} (ha : a < 0) (hb : b < 0) : a.tdiv b = (-a) / (-b) ∧ a.tmod b = -((-a) % (-b)) := by
  obtain ⟨c, rfl⟩ : ∃ c, b = -c := ⟨-b, by omega⟩
  rw [Int.tdiv_neg, Int.tmod_neg, Int.neg_neg]
  have := go_negpos (a := a) (b := c) ha (by omega)
  rw [this.1, this.2, Int.neg_neg]
  exact ⟨rfl, rfl⟩
theorem fl_same {a b : Int} (hb : b ≠ 0) (h : a.tmod b = 0 ∨ (a < 0 ↔ b < 0)) : fl a b = a.tdiv b := by
  unfold fl
  by_cases h1 : 0 < b <;> by_cases h2 : a < 0
  · have g := go_negpos h2 h1
    rw [if_pos h1, g.1]
    rw [g.2] at h
    have := ediv_up (A := -a) h1 (by omega)
    rw [Int.neg_neg] at this
    exact this
  · rw [if_pos h1, (go_pos (by omega) h1).1]
  · have g := go_negneg h2 (show b < 0 by omega)
    rw [if_neg h1, g.1]
  · have g := go_posneg (show 0 ≤ a by omega) (show b < 0 by omega)
    rw [if_neg h1, g.1]
    rw [g.2] at h
    exact ediv_up (by omega) (by omega)
theorem fl_diff {a b : Int} (hb : b ≠ 0) (h : ¬ a.tmod b = 0) (hs : ¬ (a < 0 ↔ b < 0)) : fl a b = a.tdiv b - 1 := by
  unfold fl
  by_cases h1 : 0 < b <;> by_cases h2 : a < 0
  · have g := go_negpos h2 h1
    rw [if_pos h1, g.1]
    rw [g.2] at h
    have := ediv_up' (A := -a) h1 (by omega)
    rw [Int.neg_neg] at this
    exact this
  · omega
  · omega
  · have g := go_posneg (show 0 ≤ a by omega) (show b < 0 by omega)
    rw [if_neg h1, g.1]
    rw [g.2] at h
    exact ediv_up' (by omega) (by omega)
theorem ce_same {a b : Int} (hb : b ≠ 0) (h : a.tmod b = 0 ∨ ¬ (a < 0 ↔ b < 0)) : ce a b = a.tdiv b := by
  unfold ce
  by_cases h0 : a = 0
  · subst h0; simp [fl]
  · rw [fl_same hb (by rw [Int.neg_tmod]; omega), Int.neg_tdiv]; omega
theorem ce_diff {a b : Int} (hb : b ≠ 0) (h : ¬ a.tmod b = 0) (hs : (a < 0 ↔ b < 0)) : ce a b = a.tdiv b + 1 := by
  unfold ce
  have h0 : a ≠ 0 := by intro h0; subst h0; simp at h
  rw [fl_diff hb (by rw [Int.neg_tmod]; omega) (by omega), Int.neg_tdiv]; omega
theorem tdiv_bd {a b : Int} (h1 : -9223372036854775808 ≤ a) (h2 : a ≤ 9223372036854775807) (hb : b ≠ 0) (ho : ¬ (a = -9223372036854775808 ∧ b = -1)) :
    -9223372036854775808 ≤ a.tdiv b ∧ a.tdiv b ≤ 9223372036854775807 := by
  by_cases b1 : b = 1
  · subst b1; simp; omega
  · by_cases b2 : b = -1
    · subst b2; simp; omega
    · have e := Int.natAbs_tdiv a b
      have hle : a.natAbs / b.natAbs ≤ a.natAbs / 2 := Nat.div_le_div_left (by omega) (by omega)
      have e' : (a.tdiv b).natAbs = a.natAbs / b.natAbs := e
      omega
theorem tdiv_bd2 {a b : Int} (h1 : -9223372036854775808 ≤ a) (h2 : a ≤ 9223372036854775807) (hb : b ≠ 0) (hm : ¬ a.tmod b = 0) :
    -4611686018427387904 ≤ a.tdiv b ∧ a.tdiv b ≤ 4611686018427387904 := by
  by_cases b1 : b = 1
  · subst b1; simp at hm
  · by_cases b2 : b = -1
    · subst b2; simp at hm
    · have e' : (a.tdiv b).natAbs = a.natAbs / b.natAbs := Int.natAbs_tdiv a b
      have hle : a.natAbs / b.natAbs ≤ a.natAbs / 2 := Nat.div_le_div_left (by omega) (by omega)
      omega
theorem tmod_zero {a b : Int} (h : a.tmod b = 0) (ha : 0 ≤ a) : a % b = 0 := by rw [← Int.tmod_eq_emod_of_nonneg ha]; exact h
/-! ### the walks -/
set_option maxHeartbeats 400000 in
theorem floor_zero (a : Int) (w : World) (h1 : -9223372036854775808 ≤ a) (h2 : a ≤ 9223372036854775807) :
    Calls Try.prog 32 #[.int .i64 a, .int .i64 0] w fun e w' => e = .returned (.tuple #[.int .i64 0, .int .i64 3]) ∧ w' = w := by
  go_enter Try.func32, Try.ntmps32
  go_wp2
  go_ret2
  exact ⟨rfl, rfl⟩
set_option maxHeartbeats 400000 in
theorem floor_over (w : World) :
    Calls Try.prog 32 #[.int .i64 (-9223372036854775808), .int .i64 (-1)] w fun e w' => e = .returned (.tuple #[.int .i64 0, .int .i64 2]) ∧ w' = w := by
  go_enter Try.func32, Try.ntmps32
  go_wp2
  go_ret2
  exact ⟨rfl, rfl⟩
set_option maxHeartbeats 400000 in
theorem floor_nn0 (a b t : Int) (w : World) (h1 : -9223372036854775808 ≤ a) (h2 : a ≤ 9223372036854775807) (h3 : -9223372036854775808 ≤ b) (h4 : b ≤ 9223372036854775807) (ha : a < 0) (hb : b < 0) (ho : ((a == -9223372036854775808) && (b == -1)) = false) (hz : (b == 0) = false) (e1 : a.tdiv b = t) (e2 : a.tmod b = 0) (t1 : -9223372036854775808 ≤ t) (t2 : t ≤ 9223372036854775807) :
    Calls Try.prog 32 #[.int .i64 a, .int .i64 b] w fun e w' => e = .returned (.tuple #[.int .i64 t, .int .i64 0]) ∧ w' = w := by
  by_cases hx : a = -9223372036854775808
  · have hx1 : (a == -9223372036854775808) = true := by simp [hx]
    have hx2 : (b == -1) = false := by simpa [hx1] using ho
    clear ho hx
    go_enter Try.func32, Try.ntmps32
    go_wp2
    go_ret2
    exact ⟨rfl, rfl⟩
  · have hx1 : (a == -9223372036854775808) = false := by simp [hx]
    clear ho
    go_enter Try.func32, Try.ntmps32
    go_wp2
    go_ret2
    exact ⟨rfl, rfl⟩
set_option maxHeartbeats 400000 in
theorem floor_nn1 (a b t m : Int) (w : World) (h1 : -9223372036854775808 ≤ a) (h2 : a ≤ 9223372036854775807) (h3 : -9223372036854775808 ≤ b) (h4 : b ≤ 9223372036854775807) (ha : a < 0) (hb : b < 0) (ho : ((a == -9223372036854775808) && (b == -1)) = false) (hz : (b == 0) = false) (e1 : a.tdiv b = t) (e2 : a.tmod b = m) (hm : (m == 0) = false) (hm' : ¬ m = 0) (t1 : -4611686018427387904 ≤ t) (t2 : t ≤ 4611686018427387904) :
    Calls Try.prog 32 #[.int .i64 a, .int .i64 b] w fun e w' => e = .returned (.tuple #[.int .i64 (t), .int .i64 0]) ∧ w' = w := by
  have hmn : (m != 0) = true := by simp [hm']
  by_cases hx : a = -9223372036854775808
  · have hx1 : (a == -9223372036854775808) = true := by simp [hx]
    have hx2 : (b == -1) = false := by simpa [hx1] using ho
    clear ho hx
    go_enter Try.func32, Try.ntmps32
    go_wp2
    go_ret2
    exact ⟨rfl, rfl⟩
  · have hx1 : (a == -9223372036854775808) = false := by simp [hx]
    clear ho
    go_enter Try.func32, Try.ntmps32
    go_wp2
    go_ret2
    exact ⟨rfl, rfl⟩
set_option maxHeartbeats 400000 in
theorem floor_pn0 (a b t : Int) (w : World) (h1 : -9223372036854775808 ≤ a) (h2 : a ≤ 9223372036854775807) (h3 : -9223372036854775808 ≤ b) (h4 : b ≤ 9223372036854775807) (ha : 0 ≤ a) (hb : b < 0) (ho : ((a == -9223372036854775808) && (b == -1)) = false) (hz : (b == 0) = false) (e1 : a.tdiv b = t) (e2 : a.tmod b = 0) (e3 : a / b = t) (e4 : a % b = 0) (t1 : -9223372036854775808 ≤ t) (t2 : t ≤ 9223372036854775807) :
    Calls Try.prog 32 #[.int .i64 a, .int .i64 b] w fun e w' => e = .returned (.tuple #[.int .i64 t, .int .i64 0]) ∧ w' = w := by
  have hda : decide (a < 0) = false := by simp; omega
  have hx1 : (a == -9223372036854775808) = false := by simp; omega
  clear ho
  go_enter Try.func32, Try.ntmps32
  go_wp2
  go_ret2
  exact ⟨rfl, rfl⟩
set_option maxHeartbeats 400000 in
theorem floor_pn1 (a b t m : Int) (w : World) (h1 : -9223372036854775808 ≤ a) (h2 : a ≤ 9223372036854775807) (h3 : -9223372036854775808 ≤ b) (h4 : b ≤ 9223372036854775807) (ha : 0 ≤ a) (hb : b < 0) (ho : ((a == -9223372036854775808) && (b == -1)) = false) (hz : (b == 0) = false) (e1 : a.tdiv b = t) (e2 : a.tmod b = m) (e3 : a / b = t) (e4 : a % b = m) (hm : (m == 0) = false) (hm' : ¬ m = 0) (t1 : -4611686018427387904 ≤ t) (t2 : t ≤ 4611686018427387904) :
    Calls Try.prog 32 #[.int .i64 a, .int .i64 b] w fun e w' => e = .returned (.tuple #[.int .i64 (t - 1), .int .i64 0]) ∧ w' = w := by
  have hmn : (m != 0) = true := by simp [hm']
  have hda : decide (a < 0) = false := by simp; omega
  have hx1 : (a == -9223372036854775808) = false := by simp; omega
  clear ho
  go_enter Try.func32, Try.ntmps32
  go_wp2
  go_ret2
  exact ⟨rfl, rfl⟩
set_option maxHeartbeats 400000 in
theorem floor_np0 (a b t : Int) (w : World) (h1 : -9223372036854775808 ≤ a) (h2 : a ≤ 9223372036854775807) (h3 : -9223372036854775808 ≤ b) (h4 : b ≤ 9223372036854775807) (ha : a < 0) (hb : 0 < b) (ho : ((a == -9223372036854775808) && (b == -1)) = false) (hz : (b == 0) = false) (e1 : a.tdiv b = t) (e2 : a.tmod b = 0) (t1 : -9223372036854775808 ≤ t) (t2 : t ≤ 9223372036854775807) :
    Calls Try.prog 32 #[.int .i64 a, .int .i64 b] w fun e w' => e = .returned (.tuple #[.int .i64 t, .int .i64 0]) ∧ w' = w := by
  have hdb : decide (b < 0) = false := by simp; omega
  by_cases hx : a = -9223372036854775808
  · have hx1 : (a == -9223372036854775808) = true := by simp [hx]
    have hx2 : (b == -1) = false := by simpa [hx1] using ho
    clear ho hx
    go_enter Try.func32, Try.ntmps32
    go_wp2
    go_ret2
    exact ⟨rfl, rfl⟩
  · have hx1 : (a == -9223372036854775808) = false := by simp [hx]
    clear ho
    go_enter Try.func32, Try.ntmps32
    go_wp2
    go_ret2
    exact ⟨rfl, rfl⟩
set_option maxHeartbeats 400000 in
theorem floor_np1 (a b t m : Int) (w : World) (h1 : -9223372036854775808 ≤ a) (h2 : a ≤ 9223372036854775807) (h3 : -9223372036854775808 ≤ b) (h4 : b ≤ 9223372036854775807) (ha : a < 0) (hb : 0 < b) (ho : ((a == -9223372036854775808) && (b == -1)) = false) (hz : (b == 0) = false) (e1 : a.tdiv b = t) (e2 : a.tmod b = m) (hm : (m == 0) = false) (hm' : ¬ m = 0) (t1 : -4611686018427387904 ≤ t) (t2 : t ≤ 4611686018427387904) :
    Calls Try.prog 32 #[.int .i64 a, .int .i64 b] w fun e w' => e = .returned (.tuple #[.int .i64 (t - 1), .int .i64 0]) ∧ w' = w := by
  have hmn : (m != 0) = true := by simp [hm']
  have hdb : decide (b < 0) = false := by simp; omega
  by_cases hx : a = -9223372036854775808
  · have hx1 : (a == -9223372036854775808) = true := by simp [hx]
    have hx2 : (b == -1) = false := by simpa [hx1] using ho
    clear ho hx
    go_enter Try.func32, Try.ntmps32
    go_wp2
    go_ret2
    exact ⟨rfl, rfl⟩
  · have hx1 : (a == -9223372036854775808) = false := by simp [hx]
    clear ho
    go_enter Try.func32, Try.ntmps32
    go_wp2
    go_ret2
    exact ⟨rfl, rfl⟩
set_option maxHeartbeats 400000 in
theorem floor_pp0 (a b t : Int) (w : World) (h1 : -9223372036854775808 ≤ a) (h2 : a ≤ 9223372036854775807) (h3 : -9223372036854775808 ≤ b) (h4 : b ≤ 9223372036854775807) (ha : 0 ≤ a) (hb : 0 < b) (ho : ((a == -9223372036854775808) && (b == -1)) = false) (hz : (b == 0) = false) (e1 : a.tdiv b = t) (e2 : a.tmod b = 0) (e3 : a / b = t) (e4 : a % b = 0) (t1 : -9223372036854775808 ≤ t) (t2 : t ≤ 9223372036854775807) :
    Calls Try.prog 32 #[.int .i64 a, .int .i64 b] w fun e w' => e = .returned (.tuple #[.int .i64 t, .int .i64 0]) ∧ w' = w := by
  have hda : decide (a < 0) = false := by simp; omega
  have hdb : decide (b < 0) = false := by simp; omega
  have hx1 : (a == -9223372036854775808) = false := by simp; omega
  clear ho
  go_enter Try.func32, Try.ntmps32
  go_wp2
  go_ret2
  exact ⟨rfl, rfl⟩
set_option maxHeartbeats 400000 in
theorem floor_pp1 (a b t m : Int) (w : World) (h1 : -9223372036854775808 ≤ a) (h2 : a ≤ 9223372036854775807) (h3 : -9223372036854775808 ≤ b) (h4 : b ≤ 9223372036854775807) (ha : 0 ≤ a) (hb : 0 < b) (ho : ((a == -9223372036854775808) && (b == -1)) = false) (hz : (b == 0) = false) (e1 : a.tdiv b = t) (e2 : a.tmod b = m) (e3 : a / b = t) (e4 : a % b = m) (hm : (m == 0) = false) (hm' : ¬ m = 0) (t1 : -4611686018427387904 ≤ t) (t2 : t ≤ 4611686018427387904) :
    Calls Try.prog 32 #[.int .i64 a, .int .i64 b] w fun e w' => e = .returned (.tuple #[.int .i64 (t), .int .i64 0]) ∧ w' = w := by
  have hmn : (m != 0) = true := by simp [hm']
  have hda : decide (a < 0) = false := by simp; omega
  have hdb : decide (b < 0) = false := by simp; omega
  have hx1 : (a == -9223372036854775808) = false := by simp; omega
  clear ho
  go_enter Try.func32, Try.ntmps32
  go_wp2
  go_ret2
  exact ⟨rfl, rfl⟩
set_option maxHeartbeats 400000 in
theorem ceil_zero (a : Int) (w : World) (h1 : -9223372036854775808 ≤ a) (h2 : a ≤ 9223372036854775807) :
    Calls Try.prog 31 #[.int .i64 a, .int .i64 0] w fun e w' => e = .returned (.tuple #[.int .i64 0, .int .i64 3]) ∧ w' = w := by
  go_enter Try.func31, Try.ntmps31
  go_wp2
  go_ret2
  exact ⟨rfl, rfl⟩
set_option maxHeartbeats 400000 in
theorem ceil_over (w : World) :
    Calls Try.prog 31 #[.int .i64 (-9223372036854775808), .int .i64 (-1)] w fun e w' => e = .returned (.tuple #[.int .i64 0, .int .i64 2]) ∧ w' = w := by
  go_enter Try.func31, Try.ntmps31
  go_wp2
  go_ret2
  exact ⟨rfl, rfl⟩
set_option maxHeartbeats 400000 in
theorem ceil_nn0 (a b t : Int) (w : World) (h1 : -9223372036854775808 ≤ a) (h2 : a ≤ 9223372036854775807) (h3 : -9223372036854775808 ≤ b) (h4 : b ≤ 9223372036854775807) (ha : a < 0) (hb : b < 0) (ho : ((a == -9223372036854775808) && (b == -1)) = false) (hz : (b == 0) = false) (e1 : a.tdiv b = t) (e2 : a.tmod b = 0) (t1 : -9223372036854775808 ≤ t) (t2 : t ≤ 9223372036854775807) :
    Calls Try.prog 31 #[.int .i64 a, .int .i64 b] w fun e w' => e = .returned (.tuple #[.int .i64 t, .int .i64 0]) ∧ w' = w := by
  by_cases hx : a = -9223372036854775808
  · have hx1 : (a == -9223372036854775808) = true := by simp [hx]
    have hx2 : (b == -1) = false := by simpa [hx1] using ho
    clear ho hx
    go_enter Try.func31, Try.ntmps31
    go_wp2
    go_ret2
    exact ⟨rfl, rfl⟩
  · have hx1 : (a == -9223372036854775808) = false := by simp [hx]
    clear ho
    go_enter Try.func31, Try.ntmps31
    go_wp2
    go_ret2
    exact ⟨rfl, rfl⟩
set_option maxHeartbeats 400000 in
theorem ceil_nn1 (a b t m : Int) (w : World) (h1 : -9223372036854775808 ≤ a) (h2 : a ≤ 9223372036854775807) (h3 : -9223372036854775808 ≤ b) (h4 : b ≤ 9223372036854775807) (ha : a < 0) (hb : b < 0) (ho : ((a == -9223372036854775808) && (b == -1)) = false) (hz : (b == 0) = false) (e1 : a.tdiv b = t) (e2 : a.tmod b = m) (hm : (m == 0) = false) (hm' : ¬ m = 0) (t1 : -4611686018427387904 ≤ t) (t2 : t ≤ 4611686018427387904) :
    Calls Try.prog 31 #[.int .i64 a, .int .i64 b] w fun e w' => e = .returned (.tuple #[.int .i64 (t + 1), .int .i64 0]) ∧ w' = w := by
  have hmn : (m != 0) = true := by simp [hm']
  by_cases hx : a = -9223372036854775808
  · have hx1 : (a == -9223372036854775808) = true := by simp [hx]
    have hx2 : (b == -1) = false := by simpa [hx1] using ho
    clear ho hx
    go_enter Try.func31, Try.ntmps31
    go_wp2
    go_ret2
    exact ⟨rfl, rfl⟩
  · have hx1 : (a == -9223372036854775808) = false := by simp [hx]
    clear ho
    go_enter Try.func31, Try.ntmps31
    go_wp2
    go_ret2
    exact ⟨rfl, rfl⟩
set_option maxHeartbeats 400000 in
theorem ceil_pn0 (a b t : Int) (w : World) (h1 : -9223372036854775808 ≤ a) (h2 : a ≤ 9223372036854775807) (h3 : -9223372036854775808 ≤ b) (h4 : b ≤ 9223372036854775807) (ha : 0 ≤ a) (hb : b < 0) (ho : ((a == -9223372036854775808) && (b == -1)) = false) (hz : (b == 0) = false) (e1 : a.tdiv b = t) (e2 : a.tmod b = 0) (e3 : a / b = t) (e4 : a % b = 0) (t1 : -9223372036854775808 ≤ t) (t2 : t ≤ 9223372036854775807) :
    Calls Try.prog 31 #[.int .i64 a, .int .i64 b] w fun e w' => e = .returned (.tuple #[.int .i64 t, .int .i64 0]) ∧ w' = w := by
  have hda : decide (a < 0) = false := by simp; omega
  have hx1 : (a == -9223372036854775808) = false := by simp; omega
  clear ho
  go_enter Try.func31, Try.ntmps31
  go_wp2
  go_ret2
  exact ⟨rfl, rfl⟩
set_option maxHeartbeats 400000 in
theorem ceil_pn1 (a b t m : Int) (w : World) (h1 : -9223372036854775808 ≤ a) (h2 : a ≤ 9223372036854775807) (h3 : -9223372036854775808 ≤ b) (h4 : b ≤ 9223372036854775807) (ha : 0 ≤ a) (hb : b < 0) (ho : ((a == -9223372036854775808) && (b == -1)) = false) (hz : (b == 0) = false) (e1 : a.tdiv b = t) (e2 : a.tmod b = m) (e3 : a / b = t) (e4 : a % b = m) (hm : (m == 0) = false) (hm' : ¬ m = 0) (t1 : -4611686018427387904 ≤ t) (t2 : t ≤ 4611686018427387904) :
    Calls Try.prog 31 #[.int .i64 a, .int .i64 b] w fun e w' => e = .returned (.tuple #[.int .i64 (t), .int .i64 0]) ∧ w' = w := by
  have hmn : (m != 0) = true := by simp [hm']
  have hda : decide (a < 0) = false := by simp; omega
  have hx1 : (a == -9223372036854775808) = false := by simp; omega
  clear ho
  go_enter Try.func31, Try.ntmps31
  go_wp2
  go_ret2
  exact ⟨rfl, rfl⟩
set_option maxHeartbeats 400000 in
theorem ceil_np0 (a b t : Int) (w : World) (h1 : -9223372036854775808 ≤ a) (h2 : a ≤ 9223372036854775807) (h3 : -9223372036854775808 ≤ b) (h4 : b ≤ 9223372036854775807) (ha : a < 0) (hb : 0 < b) (ho : ((a == -9223372036854775808) && (b == -1)) = false) (hz : (b == 0) = false) (e1 : a.tdiv b = t) (e2 : a.tmod b = 0) (t1 : -9223372036854775808 ≤ t) (t2 : t ≤ 9223372036854775807) :
    Calls Try.prog 31 #[.int .i64 a, .int .i64 b] w fun e w' => e = .returned (.tuple #[.int .i64 t, .int .i64 0]) ∧ w' = w := by
  have hdb : decide (b < 0) = false := by simp; omega
  by_cases hx : a = -9223372036854775808
  · have hx1 : (a == -9223372036854775808) = true := by simp [hx]
    have hx2 : (b == -1) = false := by simpa [hx1] using ho
    clear ho hx
    go_enter Try.func31, Try.ntmps31
    go_wp2
    go_ret2
    exact ⟨rfl, rfl⟩
  · have hx1 : (a == -9223372036854775808) = false := by simp [hx]
    clear ho
    go_enter Try.func31, Try.ntmps31
    go_wp2
    go_ret2
    exact ⟨rfl, rfl⟩
set_option maxHeartbeats 400000 in
theorem ceil_np1 (a b t m : Int) (w : World) (h1 : -9223372036854775808 ≤ a) (h2 : a ≤ 9223372036854775807) (h3 : -9223372036854775808 ≤ b) (h4 : b ≤ 9223372036854775807) (ha : a < 0) (hb : 0 < b) (ho : ((a == -9223372036854775808) && (b == -1)) = false) (hz : (b == 0) = false) (e1 : a.tdiv b = t) (e2 : a.tmod b = m) (hm : (m == 0) = false) (hm' : ¬ m = 0) (t1 : -4611686018427387904 ≤ t) (t2 : t ≤ 4611686018427387904) :
    Calls Try.prog 31 #[.int .i64 a, .int .i64 b] w fun e w' => e = .returned (.tuple #[.int .i64 (t), .int .i64 0]) ∧ w' = w := by
  have hmn : (m != 0) = true := by simp [hm']
  have hdb : decide (b < 0) = false := by simp; omega
  by_cases hx : a = -9223372036854775808
  · have hx1 : (a == -9223372036854775808) = true := by simp [hx]
    have hx2 : (b == -1) = false := by simpa [hx1] using ho
    clear ho hx
    go_enter Try.func31, Try.ntmps31
    go_wp2
    go_ret2
    exact ⟨rfl, rfl⟩
  · have hx1 : (a == -9223372036854775808) = false := by simp [hx]
    clear ho
    go_enter Try.func31, Try.ntmps31
    go_wp2
    go_ret2
    exact ⟨rfl, rfl⟩
set_option maxHeartbeats 400000 in
theorem ceil_pp0 (a b t : Int) (w : World) (h1 : -9223372036854775808 ≤ a) (h2 : a ≤ 9223372036854775807) (h3 : -9223372036854775808 ≤ b) (h4 : b ≤ 9223372036854775807) (ha : 0 ≤ a) (hb : 0 < b) (ho : ((a == -9223372036854775808) && (b == -1)) = false) (hz : (b == 0) = false) (e1 : a.tdiv b = t) (e2 : a.tmod b = 0) (e3 : a / b = t) (e4 : a % b = 0) (t1 : -9223372036854775808 ≤ t) (t2 : t ≤ 9223372036854775807) :
    Calls Try.prog 31 #[.int .i64 a, .int .i64 b] w fun e w' => e = .returned (.tuple #[.int .i64 t, .int .i64 0]) ∧ w' = w := by
  have hda : decide (a < 0) = false := by simp; omega
  have hdb : decide (b < 0) = false := by simp; omega
  have hx1 : (a == -9223372036854775808) = false := by simp; omega
  clear ho
  go_enter Try.func31, Try.ntmps31
  go_wp2
  go_ret2
  exact ⟨rfl, rfl⟩
set_option maxHeartbeats 400000 in
theorem ceil_pp1 (a b t m : Int) (w : World) (h1 : -9223372036854775808 ≤ a) (h2 : a ≤ 9223372036854775807) (h3 : -9223372036854775808 ≤ b) (h4 : b ≤ 9223372036854775807) (ha : 0 ≤ a) (hb : 0 < b) (ho : ((a == -9223372036854775808) && (b == -1)) = false) (hz : (b == 0) = false) (e1 : a.tdiv b = t) (e2 : a.tmod b = m) (e3 : a / b = t) (e4 : a % b = m) (hm : (m == 0) = false) (hm' : ¬ m = 0) (t1 : -4611686018427387904 ≤ t) (t2 : t ≤ 4611686018427387904) :
    Calls Try.prog 31 #[.int .i64 a, .int .i64 b] w fun e w' => e = .returned (.tuple #[.int .i64 (t + 1), .int .i64 0]) ∧ w' = w := by
  have hmn : (m != 0) = true := by simp [hm']
  have hda : decide (a < 0) = false := by simp; omega
  have hdb : decide (b < 0) = false := by simp; omega
  have hx1 : (a == -9223372036854775808) = false := by simp; omega
  clear ho
  go_enter Try.func31, Try.ntmps31
  go_wp2
  go_ret2
  exact ⟨rfl, rfl⟩
set_option maxHeartbeats 400000 in
theorem rceil_zero (a : Int) (w : World) (h1 : -9223372036854775808 ≤ a) (h2 : a ≤ 9223372036854775807) :
    Calls Try.prog 55 #[.int .i64 a, .int .i64 0] w fun e w' => e = .returned (.tuple #[.int .i64 0, .int .i64 3]) ∧ w' = w := by
  go_enter Try.func55, Try.ntmps55
  go_wp2
  go_ret2
  exact ⟨rfl, rfl⟩
set_option maxHeartbeats 400000 in
theorem rceil_over (w : World) :
    Calls Try.prog 55 #[.int .i64 (-9223372036854775808), .int .i64 (-1)] w fun e w' => e = .returned (.tuple #[.int .i64 0, .int .i64 2]) ∧ w' = w := by
  go_enter Try.func55, Try.ntmps55
  go_wp2
  go_ret2
  exact ⟨rfl, rfl⟩
set_option maxHeartbeats 400000 in
theorem rceil_nn0 (a b t : Int) (w : World) (h1 : -9223372036854775808 ≤ a) (h2 : a ≤ 9223372036854775807) (h3 : -9223372036854775808 ≤ b) (h4 : b ≤ 9223372036854775807) (ha : a < 0) (hb : b < 0) (ho : ((a == -9223372036854775808) && (b == -1)) = false) (hz : (b == 0) = false) (e1 : a.tdiv b = t) (e2 : a.tmod b = 0) (t1 : -9223372036854775808 ≤ t) (t2 : t ≤ 9223372036854775807) :
    Calls Try.prog 55 #[.int .i64 a, .int .i64 b] w fun e w' => e = .returned (.tuple #[.int .i64 t, .int .i64 0]) ∧ w' = w := by
  by_cases hx : a = -9223372036854775808
  · have hx1 : (a == -9223372036854775808) = true := by simp [hx]
    have hx2 : (b == -1) = false := by simpa [hx1] using ho
    clear ho hx
    go_enter Try.func55, Try.ntmps55
    go_wp2
    go_ret2
    exact ⟨rfl, rfl⟩
  · have hx1 : (a == -9223372036854775808) = false := by simp [hx]
    clear ho
    go_enter Try.func55, Try.ntmps55
    go_wp2
    go_ret2
    exact ⟨rfl, rfl⟩
set_option maxHeartbeats 400000 in
theorem rceil_nn1 (a b t m : Int) (w : World) (h1 : -9223372036854775808 ≤ a) (h2 : a ≤ 9223372036854775807) (h3 : -9223372036854775808 ≤ b) (h4 : b ≤ 9223372036854775807) (ha : a < 0) (hb : b < 0) (ho : ((a == -9223372036854775808) && (b == -1)) = false) (hz : (b == 0) = false) (e1 : a.tdiv b = t) (e2 : a.tmod b = m) (hm : (m == 0) = false) (hm' : ¬ m = 0) (t1 : -4611686018427387904 ≤ t) (t2 : t ≤ 4611686018427387904) :
    Calls Try.prog 55 #[.int .i64 a, .int .i64 b] w fun e w' => e = .returned (.tuple #[.int .i64 (t + 1), .int .i64 0]) ∧ w' = w := by
  have hmn : (m != 0) = true := by simp [hm']
  by_cases hx : a = -9223372036854775808
  · have hx1 : (a == -9223372036854775808) = true := by simp [hx]
    have hx2 : (b == -1) = false := by simpa [hx1] using ho
    clear ho hx
    go_enter Try.func55, Try.ntmps55
    go_wp2
    go_ret2
    exact ⟨rfl, rfl⟩
  · have hx1 : (a == -9223372036854775808) = false := by simp [hx]
    clear ho
    go_enter Try.func55, Try.ntmps55
    go_wp2
    go_ret2
    exact ⟨rfl, rfl⟩
set_option maxHeartbeats 400000 in
theorem rceil_pn0 (a b t : Int) (w : World) (h1 : -9223372036854775808 ≤ a) (h2 : a ≤ 9223372036854775807) (h3 : -9223372036854775808 ≤ b) (h4 : b ≤ 9223372036854775807) (ha : 0 ≤ a) (hb : b < 0) (ho : ((a == -9223372036854775808) && (b == -1)) = false) (hz : (b == 0) = false) (e1 : a.tdiv b = t) (e2 : a.tmod b = 0) (e3 : a / b = t) (e4 : a % b = 0) (t1 : -9223372036854775808 ≤ t) (t2 : t ≤ 9223372036854775807) :
    Calls Try.prog 55 #[.int .i64 a, .int .i64 b] w fun e w' => e = .returned (.tuple #[.int .i64 t, .int .i64 0]) ∧ w' = w := by
  have hda : decide (a < 0) = false := by simp; omega
  have hx1 : (a == -9223372036854775808) = false := by simp; omega
  clear ho
  go_enter Try.func55, Try.ntmps55
  go_wp2
  go_ret2
  exact ⟨rfl, rfl⟩
set_option maxHeartbeats 400000 in
theorem rceil_pn1 (a b t m : Int) (w : World) (h1 : -9223372036854775808 ≤ a) (h2 : a ≤ 9223372036854775807) (h3 : -9223372036854775808 ≤ b) (h4 : b ≤ 9223372036854775807) (ha : 0 ≤ a) (hb : b < 0) (ho : ((a == -9223372036854775808) && (b == -1)) = false) (hz : (b == 0) = false) (e1 : a.tdiv b = t) (e2 : a.tmod b = m) (e3 : a / b = t) (e4 : a % b = m) (hm : (m == 0) = false) (hm' : ¬ m = 0) (t1 : -4611686018427387904 ≤ t) (t2 : t ≤ 4611686018427387904) :
    Calls Try.prog 55 #[.int .i64 a, .int .i64 b] w fun e w' => e = .returned (.tuple #[.int .i64 (t), .int .i64 0]) ∧ w' = w := by
  have hmn : (m != 0) = true := by simp [hm']
  have hda : decide (a < 0) = false := by simp; omega
  have hx1 : (a == -9223372036854775808) = false := by simp; omega
  clear ho
  go_enter Try.func55, Try.ntmps55
  go_wp2
  go_ret2
  exact ⟨rfl, rfl⟩
set_option maxHeartbeats 400000 in
theorem rceil_np0 (a b t : Int) (w : World) (h1 : -9223372036854775808 ≤ a) (h2 : a ≤ 9223372036854775807) (h3 : -9223372036854775808 ≤ b) (h4 : b ≤ 9223372036854775807) (ha : a < 0) (hb : 0 < b) (ho : ((a == -9223372036854775808) && (b == -1)) = false) (hz : (b == 0) = false) (e1 : a.tdiv b = t) (e2 : a.tmod b = 0) (t1 : -9223372036854775808 ≤ t) (t2 : t ≤ 9223372036854775807) :
    Calls Try.prog 55 #[.int .i64 a, .int .i64 b] w fun e w' => e = .returned (.tuple #[.int .i64 t, .int .i64 0]) ∧ w' = w := by
  have hdb : decide (b < 0) = false := by simp; omega
  by_cases hx : a = -9223372036854775808
  · have hx1 : (a == -9223372036854775808) = true := by simp [hx]
    have hx2 : (b == -1) = false := by simpa [hx1] using ho
    clear ho hx
    go_enter Try.func55, Try.ntmps55
    go_wp2
    go_ret2
    exact ⟨rfl, rfl⟩
  · have hx1 : (a == -9223372036854775808) = false := by simp [hx]
    clear ho
    go_enter Try.func55, Try.ntmps55
    go_wp2
    go_ret2
    exact ⟨rfl, rfl⟩
set_option maxHeartbeats 400000 in
theorem rceil_np1 (a b t m : Int) (w : World) (h1 : -9223372036854775808 ≤ a) (h2 : a ≤ 9223372036854775807) (h3 : -9223372036854775808 ≤ b) (h4 : b ≤ 9223372036854775807) (ha : a < 0) (hb : 0 < b) (ho : ((a == -9223372036854775808) && (b == -1)) = false) (hz : (b == 0) = false) (e1 : a.tdiv b = t) (e2 : a.tmod b = m) (hm : (m == 0) = false) (hm' : ¬ m = 0) (t1 : -4611686018427387904 ≤ t) (t2 : t ≤ 4611686018427387904) :
    Calls Try.prog 55 #[.int .i64 a, .int .i64 b] w fun e w' => e = .returned (.tuple #[.int .i64 (t), .int .i64 0]) ∧ w' = w := by
  have hmn : (m != 0) = true := by simp [hm']
  have hdb : decide (b < 0) = false := by simp; omega
  by_cases hx : a = -9223372036854775808
  · have hx1 : (a == -9223372036854775808) = true := by simp [hx]
    have hx2 : (b == -1) = false := by simpa [hx1] using ho
    clear ho hx
    go_enter Try.func55, Try.ntmps55
    go_wp2
    go_ret2
    exact ⟨rfl, rfl⟩
  · have hx1 : (a == -9223372036854775808) = false := by simp [hx]
    clear ho
    go_enter Try.func55, Try.ntmps55
    go_wp2
    go_ret2
    exact ⟨rfl, rfl⟩
set_option maxHeartbeats 400000 in
theorem rceil_pp0 (a b t : Int) (w : World) (h1 : -9223372036854775808 ≤ a) (h2 : a ≤ 9223372036854775807) (h3 : -9223372036854775808 ≤ b) (h4 : b ≤ 9223372036854775807) (ha : 0 ≤ a) (hb : 0 < b) (ho : ((a == -9223372036854775808) && (b == -1)) = false) (hz : (b == 0) = false) (e1 : a.tdiv b = t) (e2 : a.tmod b = 0) (e3 : a / b = t) (e4 : a % b = 0) (t1 : -9223372036854775808 ≤ t) (t2 : t ≤ 9223372036854775807) :
    Calls Try.prog 55 #[.int .i64 a, .int .i64 b] w fun e w' => e = .returned (.tuple #[.int .i64 t, .int .i64 0]) ∧ w' = w := by
  have hda : decide (a < 0) = false := by simp; omega
  have hdb : decide (b < 0) = false := by simp; omega
  have hx1 : (a == -9223372036854775808) = false := by simp; omega
  clear ho
  go_enter Try.func55, Try.ntmps55
  go_wp2
  go_ret2
  exact ⟨rfl, rfl⟩
set_option maxHeartbeats 400000 in
theorem rceil_pp1 (a b t m : Int) (w : World) (h1 : -9223372036854775808 ≤ a) (h2 : a ≤ 9223372036854775807) (h3 : -9223372036854775808 ≤ b) (h4 : b ≤ 9223372036854775807) (ha : 0 ≤ a) (hb : 0 < b) (ho : ((a == -9223372036854775808) && (b == -1)) = false) (hz : (b == 0) = false) (e1 : a.tdiv b = t) (e2 : a.tmod b = m) (e3 : a / b = t) (e4 : a % b = m) (hm : (m == 0) = false) (hm' : ¬ m = 0) (t1 : -4611686018427387904 ≤ t) (t2 : t ≤ 4611686018427387904) :
    Calls Try.prog 55 #[.int .i64 a, .int .i64 b] w fun e w' => e = .returned (.tuple #[.int .i64 (t + 1), .int .i64 0]) ∧ w' = w := by
  have hmn : (m != 0) = true := by simp [hm']
  have hda : decide (a < 0) = false := by simp; omega
  have hdb : decide (b < 0) = false := by simp; omega
  have hx1 : (a == -9223372036854775808) = false := by simp; omega
  clear ho
  go_enter Try.func55, Try.ntmps55
  go_wp2
  go_ret2
  exact ⟨rfl, rfl⟩
/-! ### whole -/
def flA (a b : Int) : Int := if qe a b = 0 then fl a b else 0
def ceA (a b : Int) : Int := if qe a b = 0 then ce a b else 0
theorem qe_zero (a : Int) : qe a 0 = 3 := by simp [qe]
theorem qe_over : qe (-9223372036854775808) (-1) = 2 := by simp [qe]
theorem qe_ok {a b : Int} (hb : b ≠ 0) (ho : ¬ (a = -9223372036854775808 ∧ b = -1)) : qe a b = 0 := by simp [qe, hb, ho]
theorem floor_any (a b : Int) (w : World) (h1 : -9223372036854775808 ≤ a) (h2 : a ≤ 9223372036854775807) (h3 : -9223372036854775808 ≤ b) (h4 : b ≤ 9223372036854775807) :
    Calls Try.prog 32 #[.int .i64 a, .int .i64 b] w fun e w' => e = .returned (.tuple #[.int .i64 (flA a b), .int .i64 (qe a b)]) ∧ w' = w := by
  by_cases hb : b = 0
  · subst hb
    rw [show flA a 0 = 0 by simp [flA, qe_zero], qe_zero]
    exact floor_zero a w h1 h2
  · by_cases ho : a = -9223372036854775808 ∧ b = -1
    · obtain ⟨rfl, rfl⟩ := ho
      rw [show flA (-9223372036854775808) (-1) = 0 by simp [flA, qe_over], qe_over]
      exact floor_over w
    · rw [show flA a b = fl a b by simp [flA, qe_ok hb ho], qe_ok hb ho]
      have ho' : ((a == -9223372036854775808) && (b == -1)) = false := by
        by_cases h : a = -9223372036854775808 <;> simp_all
      have hz : (b == 0) = false := by simp [hb]
      have tb := tdiv_bd h1 h2 hb ho
      by_cases hm : a.tmod b = 0
      · rw [fl_same hb (.inl hm)]
        by_cases ha : a < 0 <;> by_cases hn : b < 0
        · exact floor_nn0 a b _ w h1 h2 h3 h4 ha hn ho' hz rfl hm tb.1 tb.2
        · exact floor_np0 a b _ w h1 h2 h3 h4 ha (by omega) ho' hz rfl hm tb.1 tb.2
        · exact floor_pn0 a b _ w h1 h2 h3 h4 (by omega) hn ho' hz rfl hm (Int.tdiv_eq_ediv_of_nonneg (by omega)).symm (tmod_zero hm (by omega)) tb.1 tb.2
        · exact floor_pp0 a b _ w h1 h2 h3 h4 (by omega) (by omega) ho' hz rfl hm (Int.tdiv_eq_ediv_of_nonneg (by omega)).symm (tmod_zero hm (by omega)) tb.1 tb.2
      · have tc := tdiv_bd2 h1 h2 hb hm
        have hmb : (a.tmod b == 0) = false := by simp [hm]
        by_cases ha : a < 0 <;> by_cases hn : b < 0
        · rw [fl_same hb (.inr (by omega))]
          exact floor_nn1 a b _ _ w h1 h2 h3 h4 ha hn ho' hz rfl rfl hmb hm tc.1 tc.2
        · rw [fl_diff hb hm (by omega)]
          exact floor_np1 a b _ _ w h1 h2 h3 h4 ha (by omega) ho' hz rfl rfl hmb hm tc.1 tc.2
        · rw [fl_diff hb hm (by omega)]
          exact floor_pn1 a b _ _ w h1 h2 h3 h4 (by omega) hn ho' hz rfl rfl (Int.tdiv_eq_ediv_of_nonneg (by omega)).symm (Int.tmod_eq_emod_of_nonneg (by omega)).symm hmb hm tc.1 tc.2
        · rw [fl_same hb (.inr (by omega))]
          exact floor_pp1 a b _ _ w h1 h2 h3 h4 (by omega) (by omega) ho' hz rfl rfl (Int.tdiv_eq_ediv_of_nonneg (by omega)).symm (Int.tmod_eq_emod_of_nonneg (by omega)).symm hmb hm tc.1 tc.2
theorem ceil_any (a b : Int) (w : World) (h1 : -9223372036854775808 ≤ a) (h2 : a ≤ 9223372036854775807) (h3 : -9223372036854775808 ≤ b) (h4 : b ≤ 9223372036854775807) :
    Calls Try.prog 31 #[.int .i64 a, .int .i64 b] w fun e w' => e = .returned (.tuple #[.int .i64 (ceA a b), .int .i64 (qe a b)]) ∧ w' = w := by
  by_cases hb : b = 0
  · subst hb
    rw [show ceA a 0 = 0 by simp [ceA, qe_zero], qe_zero]
    exact ceil_zero a w h1 h2
  · by_cases ho : a = -9223372036854775808 ∧ b = -1
    · obtain ⟨rfl, rfl⟩ := ho
      rw [show ceA (-9223372036854775808) (-1) = 0 by simp [ceA, qe_over], qe_over]
      exact ceil_over w
    · rw [show ceA a b = ce a b by simp [ceA, qe_ok hb ho], qe_ok hb ho]
      have ho' : ((a == -9223372036854775808) && (b == -1)) = false := by
        by_cases h : a = -9223372036854775808 <;> simp_all
      have hz : (b == 0) = false := by simp [hb]
      have tb := tdiv_bd h1 h2 hb ho
      by_cases hm : a.tmod b = 0
      · rw [ce_same hb (.inl hm)]
        by_cases ha : a < 0 <;> by_cases hn : b < 0
        · exact ceil_nn0 a b _ w h1 h2 h3 h4 ha hn ho' hz rfl hm tb.1 tb.2
        · exact ceil_np0 a b _ w h1 h2 h3 h4 ha (by omega) ho' hz rfl hm tb.1 tb.2
        · exact ceil_pn0 a b _ w h1 h2 h3 h4 (by omega) hn ho' hz rfl hm (Int.tdiv_eq_ediv_of_nonneg (by omega)).symm (tmod_zero hm (by omega)) tb.1 tb.2
        · exact ceil_pp0 a b _ w h1 h2 h3 h4 (by omega) (by omega) ho' hz rfl hm (Int.tdiv_eq_ediv_of_nonneg (by omega)).symm (tmod_zero hm (by omega)) tb.1 tb.2
      · have tc := tdiv_bd2 h1 h2 hb hm
        have hmb : (a.tmod b == 0) = false := by simp [hm]
        by_cases ha : a < 0 <;> by_cases hn : b < 0
        · rw [ce_diff hb hm (by omega)]
          exact ceil_nn1 a b _ _ w h1 h2 h3 h4 ha hn ho' hz rfl rfl hmb hm tc.1 tc.2
        · rw [ce_same hb (.inr (by omega))]
          exact ceil_np1 a b _ _ w h1 h2 h3 h4 ha (by omega) ho' hz rfl rfl hmb hm tc.1 tc.2
        · rw [ce_same hb (.inr (by omega))]
          exact ceil_pn1 a b _ _ w h1 h2 h3 h4 (by omega) hn ho' hz rfl rfl (Int.tdiv_eq_ediv_of_nonneg (by omega)).symm (Int.tmod_eq_emod_of_nonneg (by omega)).symm hmb hm tc.1 tc.2
        · rw [ce_diff hb hm (by omega)]
          exact ceil_pp1 a b _ _ w h1 h2 h3 h4 (by omega) (by omega) ho' hz rfl rfl (Int.tdiv_eq_ediv_of_nonneg (by omega)).symm (Int.tmod_eq_emod_of_nonneg (by omega)).symm hmb hm tc.1 tc.2
theorem rceil_any (a b : Int) (w : World) (h1 : -9223372036854775808 ≤ a) (h2 : a ≤ 9223372036854775807) (h3 : -9223372036854775808 ≤ b) (h4 : b ≤ 9223372036854775807) :
    Calls Try.prog 55 #[.int .i64 a, .int .i64 b] w fun e w' => e = .returned (.tuple #[.int .i64 (ceA a b), .int .i64 (qe a b)]) ∧ w' = w := by
  by_cases hb : b = 0
  · subst hb
    rw [show ceA a 0 = 0 by simp [ceA, qe_zero], qe_zero]
    exact rceil_zero a w h1 h2
  · by_cases ho : a = -9223372036854775808 ∧ b = -1
    · obtain ⟨rfl, rfl⟩ := ho
      rw [show ceA (-9223372036854775808) (-1) = 0 by simp [ceA, qe_over], qe_over]
      exact rceil_over w
    · rw [show ceA a b = ce a b by simp [ceA, qe_ok hb ho], qe_ok hb ho]
      have ho' : ((a == -9223372036854775808) && (b == -1)) = false := by
        by_cases h : a = -9223372036854775808 <;> simp_all
      have hz : (b == 0) = false := by simp [hb]
      have tb := tdiv_bd h1 h2 hb ho
      by_cases hm : a.tmod b = 0
      · rw [ce_same hb (.inl hm)]
        by_cases ha : a < 0 <;> by_cases hn : b < 0
        · exact rceil_nn0 a b _ w h1 h2 h3 h4 ha hn ho' hz rfl hm tb.1 tb.2
        · exact rceil_np0 a b _ w h1 h2 h3 h4 ha (by omega) ho' hz rfl hm tb.1 tb.2
        · exact rceil_pn0 a b _ w h1 h2 h3 h4 (by omega) hn ho' hz rfl hm (Int.tdiv_eq_ediv_of_nonneg (by omega)).symm (tmod_zero hm (by omega)) tb.1 tb.2
        · exact rceil_pp0 a b _ w h1 h2 h3 h4 (by omega) (by omega) ho' hz rfl hm (Int.tdiv_eq_ediv_of_nonneg (by omega)).symm (tmod_zero hm (by omega)) tb.1 tb.2
      · have tc := tdiv_bd2 h1 h2 hb hm
        have hmb : (a.tmod b == 0) = false := by simp [hm]
        by_cases ha : a < 0 <;> by_cases hn : b < 0
        · rw [ce_diff hb hm (by omega)]
          exact rceil_nn1 a b _ _ w h1 h2 h3 h4 ha hn ho' hz rfl rfl hmb hm tc.1 tc.2
        · rw [ce_same hb (.inr (by omega))]
          exact rceil_np1 a b _ _ w h1 h2 h3 h4 ha (by omega) ho' hz rfl rfl hmb hm tc.1 tc.2
        · rw [ce_same hb (.inr (by omega))]
          exact rceil_pn1 a b _ _ w h1 h2 h3 h4 (by omega) hn ho' hz rfl rfl (Int.tdiv_eq_ediv_of_nonneg (by omega)).symm (Int.tmod_eq_emod_of_nonneg (by omega)).symm hmb hm tc.1 tc.2
        · rw [ce_diff hb hm (by omega)]
          exact rceil_pp1 a b _ _ w h1 h2 h3 h4 (by omega) (by omega) ho' hz rfl rfl (Int.tdiv_eq_ediv_of_nonneg (by omega)).symm (Int.tmod_eq_emod_of_nonneg (by omega)).symm hmb hm tc.1 tc.2
/-! ### rests -/
end Go.Proofs.Ytjibbekojbaopaa
