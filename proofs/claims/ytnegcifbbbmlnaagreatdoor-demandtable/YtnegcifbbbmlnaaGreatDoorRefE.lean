/- What Scale comes to: the product by a third number, rounded down, or that it does not fit. -/
import Derived.Test.YtnegcifbbbmlnaaGreatDoorFracC
import Derived.Test.YtnegcifbbbmlnaaGreatDoorRefC
import Derived.Test.YtnegcifbbbmlnaaGreatDoorWholeG
namespace Go.Proofs.YtnegcifbbbmlnaaGreatDoor
open Go.RowKit
set_option linter.unusedVariables false

theorem over_big {H L c : Int} (g3 : 0 ≤ L) (k1 : 1 ≤ c) (h : c ≤ H) : 18446744073709551616 ≤ (H * 18446744073709551616 + L) / c := by
  refine (Int.le_ediv_iff_mul_le (by omega)).2 ?_
  omega
theorem floor_neg {P c : Int} (k1 : 1 ≤ c) : -((-P + (c - 1)) / c) = P / c := by
  have hd := Int.emod_add_mul_ediv P c
  have hm := Int.emod_nonneg P (show c ≠ 0 by omega)
  have hl := Int.emod_lt_of_pos P (show 0 < c by omega)
  have e : -P + (c - 1) = (c - 1 - P % c) + (-(P / c)) * c := by rw [Int.neg_mul, Int.mul_comm (P / c) c]; omega
  rw [e, Int.add_mul_ediv_right _ _ (by omega), Int.ediv_eq_zero_of_lt (by omega) (by omega)]
  omega

set_option maxHeartbeats 400000 in
theorem below_yes (H L H2 L2 c q : Int) (w : World) (k1 : 1 ≤ c) (k2 : c ≤ 9223372036854775807) (hq : 0 ≤ q) (hq2 : q ≤ 9223372036854775808)
    (PL : Hid (∀ w, Calls Tryz.prog 81 #[.agg #[.int .i64 H, .int .u64 L], .int .u64 (c - 1)] w fun e w' => e = .returned (.agg #[.int .i64 H2, .int .u64 L2]) ∧ Keep w w'))
    (OV : Hid (∀ w, Calls Tryz.prog 67 #[.agg #[.int .i64 H2, .int .u64 L2], .int .i64 c] w fun e w' => e = .returned (.tuple #[.int .u64 q, .bool true]) ∧ Keep w w')) :
    Calls Tryz.prog 65 #[.agg #[.int .i64 H, .int .u64 L], .int .i64 c] w fun e w' => e = .returned (.tuple #[.int .i64 (-q), .int .i64 0]) ∧ Keep w w' := by
  have hc1 : 0 ≤ c - 1 := by omega
  go_enter Tryz.func65, Tryz.ntmps65
  go_wp2_with fail
  refine (uq PL _).mono ?_
  rintro e w1 ⟨rfl, hk1⟩
  go_wp2_with fail
  refine (uq OV _).mono ?_
  rintro e w2 ⟨rfl, hk2⟩
  go_wp2_with fail
  go_ret2
  exact ⟨two_ret (by rw [IntKind.wrap_u64]; unfold wrap64; omega) rfl, (((Keep.refl _).alloc _).trans hk1).trans hk2⟩
set_option maxHeartbeats 400000 in
theorem below_no (H L H2 L2 c q : Int) (ok : Bool) (w : World) (k1 : 1 ≤ c) (k2 : c ≤ 9223372036854775807) (hq : ok = true → 9223372036854775808 < q)
    (PL : Hid (∀ w, Calls Tryz.prog 81 #[.agg #[.int .i64 H, .int .u64 L], .int .u64 (c - 1)] w fun e w' => e = .returned (.agg #[.int .i64 H2, .int .u64 L2]) ∧ Keep w w'))
    (OV : Hid (∀ w, Calls Tryz.prog 67 #[.agg #[.int .i64 H2, .int .u64 L2], .int .i64 c] w fun e w' => e = .returned (.tuple #[.int .u64 q, .bool ok]) ∧ Keep w w')) :
    Calls Tryz.prog 65 #[.agg #[.int .i64 H, .int .u64 L], .int .i64 c] w fun e w' => e = .returned (.tuple #[.int .i64 0, .int .i64 2]) ∧ Keep w w' := by
  have hc1 : 0 ≤ c - 1 := by omega
  cases ok
  · clear hq
    go_enter Tryz.func65, Tryz.ntmps65
    go_wp2_with fail
    refine (uq PL _).mono ?_
    rintro e w1 ⟨rfl, hk1⟩
    go_wp2_with fail
    refine (uq OV _).mono ?_
    rintro e w2 ⟨rfl, hk2⟩
    go_wp2_with fail
    go_ret2
    exact ⟨rfl, (((Keep.refl _).alloc _).trans hk1).trans hk2⟩
  · have hq' := hq rfl
    clear hq
    go_enter Tryz.func65, Tryz.ntmps65
    go_wp2_with fail
    refine (uq PL _).mono ?_
    rintro e w1 ⟨rfl, hk1⟩
    go_wp2_with fail
    refine (uq OV _).mono ?_
    rintro e w2 ⟨rfl, hk2⟩
    go_wp2_with fail
    go_ret2
    exact ⟨rfl, (((Keep.refl _).alloc _).trans hk1).trans hk2⟩

/-- p / c of a number from 0 on, by its halves -/
theorem over_any (x c : Int) (w : World) (h1 : 0 ≤ x) (h2 : x < 170141183460469231731687303715884105728) (k1 : 1 ≤ c) (k2 : c ≤ 9223372036854775807) :
    Calls Tryz.prog 67 #[.agg #[.int .i64 (hiOf x), .int .u64 (loOf x)], .int .i64 c] w fun e w' => e = .returned (.tuple #[.int .u64 (if c ≤ hiOf x then 0 else x / c), .bool (!decide (c ≤ hiOf x))]) ∧ Keep w w' := by
  have hb := halves x
  have hH : 0 ≤ hiOf x ∧ hiOf x ≤ 9223372036854775807 := by unfold hiOf; omega
  by_cases h : c ≤ hiOf x
  · rw [if_pos h, decide_eq_true h]
    exact over_no _ _ c w hH.1 hH.2 hb.2.1 hb.2.2 k1 k2 h
  · rw [if_neg h, decide_eq_false h]
    exact over_yes _ _ c _ w hH.1 hH.2 hb.2.1 hb.2.2 k1 k2 (by omega) (hide (by rw [← hb.1]))

theorem below_any (x c : Int) (w : World) (h1 : 0 < x) (h2 : x ≤ 85070591730234615865843651857942052864) (k1 : 1 ≤ c) (k2 : c ≤ 9223372036854775807) :
    Calls Tryz.prog 65 #[.agg #[.int .i64 (hiOf x), .int .u64 (loOf x)], .int .i64 c] w fun e w' => e = .returned (.tuple #[.int .i64 (ans (-x / c)), .int .i64 (err (-x / c))]) ∧ Keep w w' := by
  have PL : Hid (∀ w, Calls Tryz.prog 81 #[.agg #[.int .i64 (hiOf x), .int .u64 (loOf x)], .int .u64 (c - 1)] w fun e w' => e = .returned (.agg #[.int .i64 (hiOf (x + (c - 1))), .int .u64 (loOf (x + (c - 1)))]) ∧ Keep w w') :=
    fun w => plus_any x (c - 1) w (by omega) (by omega) (by omega) (by omega)
  have OV : ∀ w, _ := fun w => over_any (x + (c - 1)) c w (by omega) (by omega) k1 k2
  have hf := floor_neg (P := -x) k1
  rw [Int.neg_neg] at hf
  have hb := halves (x + (c - 1))
  have hq0 : 0 ≤ (x + (c - 1)) / c := Int.ediv_nonneg (by omega) (by omega)
  by_cases h : c ≤ hiOf (x + (c - 1))
  · have hbig := over_big hb.2.1 k1 h
    rw [← hb.1] at hbig
    rw [ans_no (by omega), err_no (by omega)]
    refine below_no _ _ _ _ c _ _ w k1 k2 ?_ PL OV
    intro hh; simp [h] at hh
  · simp only [if_neg h, decide_eq_false h, Bool.not_false] at OV
    by_cases hbig : (x + (c - 1)) / c ≤ 9223372036854775808
    · rw [ans_yes (by omega) (by omega), err_yes (by omega) (by omega), ← hf]
      exact below_yes _ _ _ _ c _ w k1 k2 hq0 hbig PL OV
    · rw [ans_no (by omega), err_no (by omega)]
      exact below_no _ _ _ _ c _ _ w k1 k2 (fun _ => by omega) PL OV

/-! ### Scale -/
set_option maxHeartbeats 400000 in
theorem scale_low (a b c H L H2 L2 v e0 : Int) (w : World) (k1 : 1 ≤ c) (k2 : c ≤ 9223372036854775807) (hH : H < 0)
    (T : Hid (∀ w, Calls Tryz.prog 62 #[.int .i64 a, .int .i64 b] w fun e w' => e = .returned (.agg #[.int .i64 H, .int .u64 L]) ∧ ∃ c, w' = w.alloc (.cells c 109)))
    (O : Hid (∀ w, Calls Tryz.prog 66 #[.agg #[.int .i64 H, .int .u64 L]] w fun e w' => e = .returned (.agg #[.int .i64 H2, .int .u64 L2]) ∧ Keep w w'))
    (B : Hid (∀ w, Calls Tryz.prog 65 #[.agg #[.int .i64 H2, .int .u64 L2], .int .i64 c] w fun e w' => e = .returned (.tuple #[.int .i64 v, .int .i64 e0]) ∧ Keep w w')) :
    Calls Tryz.prog 43 #[.int .i64 a, .int .i64 b, .int .i64 c] w fun e w' => e = .returned (.tuple #[.int .i64 v, .int .i64 e0]) ∧ Keep w w' := by
  go_enter Tryz.func43, Tryz.ntmps43
  go_wp2_with fail
  refine (uq T _).mono ?_
  rintro e w1 ⟨rfl, c1, rfl⟩
  go_wp2_with fail
  refine (uq O _).mono ?_
  rintro e w2 ⟨rfl, hk1⟩
  go_wp2_with fail
  refine (uq B _).mono ?_
  rintro e w3 ⟨rfl, hk2⟩
  go_wp2_with fail
  go_ret2
  exact ⟨rfl, ((((Keep.refl _).alloc _).alloc _).trans hk1).trans hk2⟩
set_option maxHeartbeats 400000 in
theorem scale_high (a b c H L q : Int) (ok fits : Bool) (w : World) (k1 : 1 ≤ c) (k2 : c ≤ 9223372036854775807) (hH : ¬ H < 0) (hq0 : 0 ≤ q) (hq : ok = true → fits = true → q ≤ 9223372036854775807) (hq' : ok = true → fits = false → 9223372036854775807 < q) (hno : ok = false → fits = false)
    (T : Hid (∀ w, Calls Tryz.prog 62 #[.int .i64 a, .int .i64 b] w fun e w' => e = .returned (.agg #[.int .i64 H, .int .u64 L]) ∧ ∃ c, w' = w.alloc (.cells c 109)))
    (OV : Hid (∀ w, Calls Tryz.prog 67 #[.agg #[.int .i64 H, .int .u64 L], .int .i64 c] w fun e w' => e = .returned (.tuple #[.int .u64 q, .bool ok]) ∧ Keep w w')) :
    Calls Tryz.prog 43 #[.int .i64 a, .int .i64 b, .int .i64 c] w fun e w' => e = .returned (.tuple #[.int .i64 (if fits then q else 0), .int .i64 (if fits then 0 else 2)]) ∧ Keep w w' := by
  cases ok
  · rw [hno rfl]
    clear hq hq' hno
    go_enter Tryz.func43, Tryz.ntmps43
    go_wp2_with fail
    refine (uq T _).mono ?_
    rintro e w1 ⟨rfl, c1, rfl⟩
    go_wp2_with fail
    refine (uq OV _).mono ?_
    rintro e w2 ⟨rfl, hk1⟩
    go_wp2_with fail
    go_ret2
    exact ⟨rfl, (((Keep.refl _).alloc _).alloc _).trans hk1⟩
  · cases fits
    · have hq2 := hq' rfl rfl
      clear hq hq' hno
      go_enter Tryz.func43, Tryz.ntmps43
      go_wp2_with fail
      refine (uq T _).mono ?_
      rintro e w1 ⟨rfl, c1, rfl⟩
      go_wp2_with fail
      refine (uq OV _).mono ?_
      rintro e w2 ⟨rfl, hk1⟩
      go_wp2_with fail
      go_ret2
      exact ⟨rfl, (((Keep.refl _).alloc _).alloc _).trans hk1⟩
    · have hq2 := hq rfl rfl
      clear hq hq' hno
      go_enter Tryz.func43, Tryz.ntmps43
      go_wp2_with fail
      refine (uq T _).mono ?_
      rintro e w1 ⟨rfl, c1, rfl⟩
      go_wp2_with fail
      refine (uq OV _).mono ?_
      rintro e w2 ⟨rfl, hk1⟩
      go_wp2_with fail
      go_ret2
      exact ⟨rfl, (((Keep.refl _).alloc _).alloc _).trans hk1⟩

theorem scale_any (a b c : Int) (w : World) (h1 : -9223372036854775808 ≤ a) (h2 : a ≤ 9223372036854775807) (h3 : -9223372036854775808 ≤ b) (h4 : b ≤ 9223372036854775807) (k1 : 1 ≤ c) (k2 : c ≤ 9223372036854775807) :
    Calls Tryz.prog 43 #[.int .i64 a, .int .i64 b, .int .i64 c] w fun e w' => e = .returned (.tuple #[.int .i64 (ans (a * b / c)), .int .i64 (err (a * b / c))]) ∧ Keep w w' := by
  have pb := prod_bd h1 h2 h3 h4
  have hb := halves (a * b)
  by_cases hH : hiOf (a * b) < 0
  · refine scale_low a b c _ _ _ _ _ _ w k1 k2 hH (hide fun w => times_any a b w h1 h2 h3 h4) (hide fun w => opposite_any (a * b) w pb.1 pb.2) (hide fun w => ?_)
    have := below_any (-(a * b)) c w (by unfold hiOf at hH; omega) (by omega) k1 k2
    rw [Int.neg_neg] at this
    exact this
  · have h0 : 0 ≤ a * b := by unfold hiOf at hH; omega
    have hq0 : 0 ≤ a * b / c := Int.ediv_nonneg h0 (by omega)
    have OV : ∀ w, _ := fun w => over_any (a * b) c w h0 (by omega) k1 k2
    by_cases h : c ≤ hiOf (a * b)
    · have hbig := over_big hb.2.1 k1 h
      rw [← hb.1] at hbig
      rw [ans_no (by omega), err_no (by omega)]
      simp only [if_pos h, decide_eq_true h, Bool.not_true] at OV
      exact scale_high a b c _ _ 0 false false w k1 k2 hH (by omega) (by simp) (by simp) (by simp) (hide fun w => times_any a b w h1 h2 h3 h4) OV
    · simp only [if_neg h, decide_eq_false h, Bool.not_false] at OV
      by_cases hbig : a * b / c ≤ 9223372036854775807
      · rw [ans_yes (by omega) (by omega), err_yes (by omega) (by omega)]
        exact scale_high a b c _ _ _ true true w k1 k2 hH hq0 (fun _ _ => hbig) (by simp) (by simp) (hide fun w => times_any a b w h1 h2 h3 h4) OV
      · rw [ans_no (by omega), err_no (by omega)]
        exact scale_high a b c _ _ (a * b / c) true false w k1 k2 hH hq0 (by simp) (fun _ _ => by omega) (by simp) (hide fun w => times_any a b w h1 h2 h3 h4) OV
end Go.Proofs.YtnegcifbbbmlnaaGreatDoor

namespace Go.Proofs.YtnegcifbbbmlnaaGreatDoor
open Go.RowKit
set_option linter.unusedVariables false
set_option maxRecDepth 10000

set_option maxHeartbeats 400000 in
theorem rsize_any (a : Int) (w : World) (h1 : -9223372036854775808 ≤ a) (h2 : a ≤ 9223372036854775807) :
    Calls Tryz.prog 31 #[.int .i64 a] w fun e w' => e = .returned (.int .u64 (a.natAbs : Int)) ∧ w' = w := by
  by_cases ha : a < 0
  · go_enter Tryz.func31, Tryz.ntmps31
    go_wp2
    go_ret
    exact ⟨one_ret (by rw [IntKind.wrap_u64, IntKind.wrap_u64]; omega), rfl⟩
  · go_enter Tryz.func31, Tryz.ntmps31
    go_wp2
    go_ret
    exact ⟨one_ret (by omega), rfl⟩

/-- a number of a size and a sign -/
def sg (u : Int) (below : Bool) : Int := if below then -u else u
set_option maxHeartbeats 400000 in
theorem signed_min (w : World) :
    Calls Tryz.prog 75 #[.int .u64 9223372036854775808, .bool true] w fun e w' => e = .returned (.tuple #[.int .i64 (-9223372036854775808), .int .i64 0]) ∧ w' = w := by
  go_enter Tryz.func75, Tryz.ntmps75
  go_wp2
  go_ret2
  exact ⟨rfl, rfl⟩
set_option maxHeartbeats 400000 in
theorem signed_over (u : Int) (below : Bool) (w : World) (h : 9223372036854775807 < u) (hu : u < 18446744073709551616) (hb : below = true → u ≠ 9223372036854775808) :
    Calls Tryz.prog 75 #[.int .u64 u, .bool below] w fun e w' => e = .returned (.tuple #[.int .i64 0, .int .i64 2]) ∧ w' = w := by
  cases below
  · clear hb
    by_cases he : u = 9223372036854775808
    · subst he
      go_enter Tryz.func75, Tryz.ntmps75
      go_wp2
      go_ret2
      exact ⟨rfl, rfl⟩
    · have he' : (u == 9223372036854775808) = false := by simp [he]
      go_enter Tryz.func75, Tryz.ntmps75
      go_wp2
      go_ret2
      exact ⟨rfl, rfl⟩
  · have he' : (u == 9223372036854775808) = false := by simp [hb rfl]
    clear hb
    go_enter Tryz.func75, Tryz.ntmps75
    go_wp2
    go_ret2
    exact ⟨rfl, rfl⟩
set_option maxHeartbeats 400000 in
theorem signed_fits (u : Int) (below : Bool) (w : World) (h0 : 0 ≤ u) (h : u ≤ 9223372036854775807) :
    Calls Tryz.prog 75 #[.int .u64 u, .bool below] w fun e w' => e = .returned (.tuple #[.int .i64 (sg u below), .int .i64 0]) ∧ w' = w := by
  have he' : (u == 9223372036854775808) = false := by simp; omega
  cases below
  · go_enter Tryz.func75, Tryz.ntmps75
    go_wp2
    go_ret2
    exact ⟨two_ret (by simp [sg]) rfl, rfl⟩
  · go_enter Tryz.func75, Tryz.ntmps75
    go_wp2
    go_ret2
    exact ⟨two_ret (by simp [sg]) rfl, rfl⟩
theorem signed_any (u : Int) (below : Bool) (w : World) (h0 : 0 ≤ u) (hu : u < 18446744073709551616) :
    Calls Tryz.prog 75 #[.int .u64 u, .bool below] w fun e w' => e = .returned (.tuple #[.int .i64 (ans (sg u below)), .int .i64 (err (sg u below))]) ∧ w' = w := by
  by_cases h : u ≤ 9223372036854775807
  · have hs : -9223372036854775808 ≤ sg u below ∧ sg u below ≤ 9223372036854775807 := by cases below <;> simp [sg] <;> omega
    rw [ans_yes hs.1 hs.2, err_yes hs.1 hs.2]
    exact signed_fits u below w h0 h
  · by_cases hm : below = true ∧ u = 9223372036854775808
    · obtain ⟨rfl, rfl⟩ := hm
      rw [show sg 9223372036854775808 true = -9223372036854775808 by simp [sg], ans_yes (by omega) (by omega), err_yes (by omega) (by omega)]
      exact signed_min w
    · have hs : sg u below < -9223372036854775808 ∨ 9223372036854775807 < sg u below := by
        cases below
        · simp [sg]; omega
        · have : u ≠ 9223372036854775808 := fun e => hm ⟨rfl, e⟩
          simp [sg]; omega
      rw [ans_no hs, err_no hs]
      exact signed_over u below w (by omega) hu (fun hb e => hm ⟨hb, e⟩)

/-- is a product below 0? -/
def bel (a b : Int) : Bool := decide (a * b < 0)
end Go.Proofs.YtnegcifbbbmlnaaGreatDoor
