/- The document's answer for fractions, numbers by parts: a division by doubling. -/
import Derived.Test.YtdgmndjofbdgeaaRefI
import Derived.Test.YtdgmndjofbdgeaaRefH
import Derived.Test.YtdgmndjofbdgeaaFracA
namespace Go.Proofs.Ytdgmndjofbdgeaa
open Go.RowKit
set_option linter.unusedVariables false
set_option maxRecDepth 10000
/-- what is left of a, and how often multiples of b were taken away from it -/
def DbInv (a b c q : Int) (j : Nat) : Prop := 0 ≤ c ∧ c < b * 2 ^ j ∧ 0 ≤ q ∧ a = q * (b * 2 ^ j) + c
theorem db_start {a b : Int} {k : Nat} (h0 : 0 ≤ a) (h : a < b * 2 ^ k) : DbInv a b a 0 k := ⟨h0, h, by omega, by simp⟩
theorem db_yes {a b c d q : Int} {i : Nat} (h : DbInv a b c q (i + 1)) (hd : d = b * 2 ^ i) (hle : d ≤ c) : DbInv a b (c - d) (q * 2 + 1) i := by
  obtain ⟨h1, h2, h3, h4⟩ := h
  rw [← pow_step, ← hd] at h2 h4
  refine ⟨by omega, by rw [← hd]; omega, by omega, ?_⟩
  rw [← hd, h4, Int.add_mul, Int.mul_assoc]; omega
theorem db_no {a b c d q : Int} {i : Nat} (h : DbInv a b c q (i + 1)) (hd : d = b * 2 ^ i) (hle : ¬ d ≤ c) : DbInv a b c (q * 2) i := by
  obtain ⟨h1, h2, h3, h4⟩ := h
  rw [← pow_step, ← hd] at h2 h4
  refine ⟨h1, by rw [← hd]; omega, by omega, ?_⟩
  rw [← hd, h4, Int.mul_assoc]
theorem db_bd {a b c q : Int} {i : Nat} (h : DbInv a b c q (i + 1)) (hb : 1 ≤ b) (ha : a < b * 18446744073709551616) : 0 ≤ q ∧ q ≤ 9223372036854775807 := by
  obtain ⟨h1, h2, h3, h4⟩ := h
  refine ⟨h3, ?_⟩
  have p1 : (1 : Int) ≤ 2 ^ i := Int.pow_pos (by omega)
  have p2 : b * 1 ≤ b * 2 ^ i := Int.mul_le_mul_of_nonneg_left p1 (by omega)
  have p3 : q * (2 * b) ≤ q * (b * 2 ^ (i + 1)) := by
    refine Int.mul_le_mul_of_nonneg_left ?_ h3
    rw [← pow_step]; omega
  have p4 : q * (2 * b) < b * 18446744073709551616 := by omega
  by_cases hq : q ≤ 9223372036854775807
  · exact hq
  · exfalso
    have p5 : 9223372036854775808 * (2 * b) ≤ q * (2 * b) := Int.mul_le_mul_of_nonneg_right (by omega) (by omega)
    omega
theorem db_end {a b c q : Int} (h : DbInv a b c q 0) (hb : 1 ≤ b) : q = a / b := by
  obtain ⟨h1, h2, h3, h4⟩ := h
  have e : a = c + b * q := by rw [h4]; simp [Int.mul_comm]; omega
  rw [e, Int.add_mul_ediv_left _ _ (by omega), Int.ediv_eq_zero_of_lt h1 (by simpa using h2)]
  omega
theorem div_more {a b : Int} {k : Nat} (hb : 1 ≤ b) (hk : 64 < k) (h : b * 2 ^ (k - 1) ≤ a) : ¬ a / b < 18446744073709551616 := by
  obtain ⟨d, hd⟩ : ∃ d, k - 1 = 64 + d := ⟨k - 1 - 64, by omega⟩
  rw [hd, Int.pow_add] at h
  have p1 : (1 : Int) ≤ 2 ^ d := Int.pow_pos (by omega)
  have e : (2 : Int) ^ 64 = 18446744073709551616 := by decide
  rw [e] at h
  have p2 : b * (18446744073709551616 * 1) ≤ b * (18446744073709551616 * 2 ^ d) := Int.mul_le_mul_of_nonneg_left (by omega) (by omega)
  intro hlt
  have := Int.lt_mul_of_ediv_lt (by omega) hlt
  omega
theorem div_less {a b : Int} {k : Nat} (hb : 1 ≤ b) (hk : k ≤ 64) (h : a < b * 2 ^ k) : a < b * 18446744073709551616 := by
  obtain ⟨d, hd⟩ : ∃ d, 64 = k + d := ⟨64 - k, by omega⟩
  have e : (2 : Int) ^ 64 = 18446744073709551616 := by decide
  rw [hd, Int.pow_add] at e
  have p1 : (1 : Int) ≤ 2 ^ d := Int.pow_pos (by omega)
  have p0 : (1 : Int) ≤ 2 ^ k := Int.pow_pos (by omega)
  have p2 : 2 ^ k * (1 : Int) ≤ 2 ^ k * 2 ^ d := Int.mul_le_mul_of_nonneg_left p1 (by omega)
  have p3 : b * (2 ^ k * 1) ≤ b * (2 ^ k * 2 ^ d) := Int.mul_le_mul_of_nonneg_left p2 (by omega)
  rw [e] at p3
  rw [Int.mul_one] at p3
  omega
theorem div_lt {a b : Int} (hb : 1 ≤ b) (h : a < b * 18446744073709551616) : a / b < 18446744073709551616 := Int.ediv_lt_of_lt_mul (by omega) (by rw [Int.mul_comm]; exact h)
/-- what a division answers: the quotient, or that it is 2^64 or more -/
def DPost (a b X : Int) (Y : Bool) : Prop := (a / b < 18446744073709551616 → X = a / b ∧ Y = true) ∧ (¬ a / b < 18446744073709551616 → X = 0 ∧ Y = false)
theorem dret {x y : Int} (h : x = y) : Ending.returned (.tuple #[.int .u64 x, .bool true]) = .returned (.tuple #[.int .u64 y, .bool true]) := by rw [h]
set_option maxHeartbeats 1000000 in
theorem divided_small (va vb : Value) (A B : List Int) (w : World) (ra : Sl w va A) (rb : Sl w vb B) (hA : Dig A) (hB : Dig B) (ha : A.length ≤ 20) (hb : B.length ≤ 20) (hlt : val A < val B) :
    Calls Try.prog 54 #[va, vb] w fun e w' => e = .returned (.tuple #[.int .u64 0, .bool true]) ∧ w' = w := by
  have O := hide (order_sl vb va B A w rb ra hB hA (by omega) (by omega))
  have hc : 0 < cm (val B) (val A) := by
    have := cm_le (x := val B) (y := val A)
    omega
  generalize cm (val B) (val A) = c at *
  have hcb : decide (c ≤ 0) = false := by simp; omega
  clear ra rb hlt
  go_enter Try.func54, Try.ntmps54
  go_wp2_with fail
  go_loop [7, 8] (fun l t => l = .slice none 0 0 ∧ t = vb) (fun _ _ => 0)
  case atStart => exact ⟨rfl, rfl⟩
  case round =>
    obtain ⟨rfl, rfl⟩ := hrel
    go_wp2_with fail
    refine (uq O).mono ?_
    rintro e w1 ⟨rfl, rfl⟩
    go_wp2_with fail
    go_loop [6, 9] (fun q i => q = .int .u64 0 ∧ i = .int .i64 (-1)) (fun _ _ => 0)
    case atStart => exact ⟨rfl, rfl⟩
    case round =>
      obtain ⟨rfl, rfl⟩ := hrel
      go_wp2
      go_ret2
      exact ⟨rfl, rfl⟩
set_option maxHeartbeats 4000000 in
theorem divided_big (va vb : Value) (A B : List Int) (w : World) (ra : Sl w va A) (rb : Sl w vb B) (hA : Dig A) (hB : Dig B) (ha : A.length ≤ 20) (hb : B.length ≤ 20) (hb1 : 1 ≤ val B) (hle0 : val B ≤ val A) (X : Int) (Y : Bool) (HXY : DPost (val A) (val B) X Y) :
    Calls Try.prog 54 #[va, vb] w fun e w' => e = .returned (.tuple #[.int .u64 X, .bool Y]) ∧ Keep w w' := by
  obtain ⟨i0, hi, hz0, hz1, hz2⟩ := info_of infoS
  have hab : val A < pw 20 := Int.lt_of_lt_of_le (val_bd hA).2 (pw_mono ha)
  have hB0 : 0 < B.length := by
    cases B with
    | nil => simp [val] at hb1
    | cons => simp
  obtain ⟨b, hbe⟩ : ∃ b, b = val B := ⟨_, rfl⟩
  obtain ⟨a, hae⟩ : ∃ a, a = val A := ⟨_, rfl⟩
  rw [← hbe] at hb1 hle0 HXY
  rw [← hae] at hle0 hab HXY
  have HBE := hide hbe
  have HAE := hide hae
  clear hbe hae
  go_enter Try.func54, Try.ntmps54
  go_wp2_with fail
  go_loopw [7, 8] (fun lv tv wr => ∃ (k : Nat) (vs : List Value) (L : List Int), k ≤ 320 ∧ wr.ownsRow w.heap.size 79 1 lv k vs ∧ Tws b wr k vs ∧ Sl wr tv L ∧ Dig L ∧ L.length ≤ 20 + k ∧ 0 < L.length ∧ Hid (val L = b * 2 ^ k) ∧ Hid (k = 0 ∨ b * 2 ^ (k - 1) ≤ a) ∧ Keep w wr) (fun lv _ _ => 400 - lenOf lv)
  case atStart => exact ⟨0, [], B, by omega, World.ownsRow_nil _ _ _ _, ⟨rfl, fun i hi => by omega⟩, rb, hB, by omega, hB0, hide (by rw [uq HBE]; simp), hide (.inl rfl), Keep.refl _⟩
  case round =>
    obtain ⟨k, vs, L, hk, hown, htw, hsl, hdl, hll, hl0, HV, HP, hkeep⟩ := hrel
    have O := hide (order_sl _ va L A wr hsl (ra.keep hkeep) hdl hA (by omega) (by omega))
    by_cases hle : b * 2 ^ k ≤ a
    · have hk2 := pow_bd hb1 hle hab
      have hcm : cm (val L) (val A) ≤ 0 := by rw [cm_le, uq HV, ← uq HAE]; exact hle
      generalize cm (val L) (val A) = c at *
      obtain ⟨gt, capt, et, hgt⟩ := hsl
      subst et
      have hsl : Sl wr (.slice (some ⟨gt, 0, none⟩) L.length capt) L := ⟨gt, capt, rfl, hgt⟩
      have a3 : k + 1 ≤ maxLen := by unfold maxLen; omega
      have HSL := hide hsl
      have HTW := hide htw
      have hsz := Below.size hkeep
      have HLE0 := hide hle
      clear hsl htw hgt hle hle0 ra rb
      go_wp2_with fail
      refine (uq O).mono ?_
      rintro e wr ⟨rfl, rfl⟩
      go_wp2_with (first | (at_builtin; refine wpList_append_own _ rfl _ _ 114 rfl w.heap.size 79 i0 (.slice none 0 0) 1 24 Try.underlying114 hi hz0 hz1 hz2 rfl (by decide) _ _ _ rfl (World.ownsRow.alloc hown _) ⟨wr.heap.size, 0, none⟩ 1 1 [.slice (some ⟨gt, 0, none⟩) L.length capt] rfl rfl (cell_one_new _ _ _) (one_slice _ _ _) a3 (by omega) (by simp; omega) ?_) | fail)
      intro v' w1 hown' hgrow _
      have hb1' : Keep w w1 := below_grown_any hown hkeep hgrow
      have hal : Keep wr (wr.alloc (.cells #[.slice (some ⟨gt, 0, none⟩) L.length capt] 79)) := (Keep.refl wr).alloc _
      have hrb := row_block (World.ownsRow.alloc hown (.cells #[.slice (some ⟨gt, 0, none⟩) L.length capt] 79))
      have hsl1 : Sl w1 (.slice (some ⟨gt, 0, none⟩) L.length capt) L := ((uq HSL).keep hal).grown hgrow (by decide) hrb
      have htw1 := (((uq HTW).keep hal).grown hgrow (by decide) hrb).snoc hsl1 hdl (by omega) (uq HV)
      have TW := hide (twice_any _ L w1 hsl1 hdl (by omega) hl0)
      have HT1 := hide htw1
      have hlen := row_len hown
      have hlen' := row_len hown'
      have HLN := hide hlen
      have HLN' := hide hlen'
      have HOWN := hide hown'
      have HB1 := hide hb1'
      clear hown hown' hgrow hal hrb hsl1 htw1 HSL HTW hkeep hlen hlen' hb1'
      go_wp2_with fail
      refine (uq TW).mono ?_
      rintro e w2 ⟨v2, l2, rfl, s2, d2, ⟨p0, p1, p2⟩, k2⟩
      have own2 := row_keep (uq HOWN) k2
      have tw2 := (uq HT1).keep k2
      have HP2 : Hid (k + 1 = 0 ∨ b * 2 ^ (k + 1 - 1) ≤ a) := hide (.inr (by simpa using uq HLE0))
      have HV2 : Hid (val l2 = b * 2 ^ (k + 1)) := by rw [p2, uq HV, pow_step]; exact hide rfl
      have HB2 : Hid (Keep w w2) := hide ((uq HB1).trans k2)
      have OWN2 := hide own2
      have TW2 := hide tw2
      have S2 := hide s2
      clear own2 tw2 s2 p2 k2
      go_wp2
      go_roundw
      case rel => exact ⟨k + 1, _, l2, by omega, uq OWN2, uq TW2, uq S2, d2, by omega, p0, HV2, HP2, uq HB2⟩
      case measure =>
        have h1 := uq HLN
        have h2 := uq HLN'
        simp [h1, h2]; omega
    · have hcm : 0 < cm (val L) (val A) := by
        have h := cm_le (x := val L) (y := val A)
        rw [uq HV, ← uq HAE] at h
        have : ¬ cm (val L) (val A) ≤ 0 := by rw [cm_le, uq HV, ← uq HAE]; exact hle
        omega
      generalize cm (val L) (val A) = c at *
      have hcb : decide (c ≤ 0) = false := by simp; omega
      have hk0 : 0 < k := by
        rcases Nat.eq_zero_or_pos k with h | h
        · subst h
          exact absurd (by simpa using hle0) hle
        · exact h
      obtain ⟨g, cap, rfl, _, hlt⟩ := row_form hown hk0
      have halt : a < b * 2 ^ k := by omega
      by_cases h64 : 64 < k
      · have hno := div_more hb1 h64 (by rcases uq HP with h | h <;> omega)
        obtain ⟨e1, e2⟩ := HXY.2 hno
        subst e1 e2
        clear hsl htw hown hle hle0 ra rb HV HP halt hno HXY
        go_wp2_with fail
        refine (uq O).mono ?_
        rintro e wr ⟨rfl, rfl⟩
        go_wp2
        go_ret2
        exact ⟨rfl, hkeep⟩
      have hal := div_less hb1 (by omega) halt
      have hyes := div_lt hb1 hal
      obtain ⟨e1, e2⟩ := HXY.1 hyes
      subst e2
      have E1 := hide e1
      have HAL := hide hal
      clear hal hyes e1 HP HXY
      have HR := hide (db_start (a := a) (b := b) (k := k) (by omega) (by omega))
      have HTW := hide htw
      have HOWN := hide hown
      have RA := hide (ra.keep hkeep)
      clear hsl htw hown hle hle0 ra rb HV halt
      go_wp2_with fail
      refine (uq O).mono ?_
      rintro e wr ⟨rfl, rfl⟩
      go_wp2_with fail
      obtain ⟨wo, rfl⟩ : ∃ wo, wo = wr := ⟨_, rfl⟩
      go_loopw [0, 6, 9] (fun av qv iv wi => ∃ (j : Nat) (C : List Int) (q : Int), qv = .int .u64 q ∧ iv = .int .i64 ((j : Int) - 1) ∧ j ≤ k ∧ Sl wi av C ∧ Dig C ∧ C.length ≤ A.length ∧ Hid (DbInv a b (val C) q j) ∧ Keep wo wi) (fun _ _ iv _ => (intOf iv + 1).toNat)
      case atStart => exact ⟨k, A, 0, rfl, rfl, Nat.le_refl _, uq RA, hA, Nat.le_refl _, by rw [← uq HAE]; exact HR, Keep.refl _⟩
      case round =>
        obtain ⟨j, C, q, rfl, rfl, hj, hsc, hdc, hlc, HI, hki⟩ := hrel
        by_cases hj0 : j = 0
        · subst hj0
          have he := db_end (uq HI) hb1
          have HE := hide he
          have HK := hide (Keep.trans hkeep hki)
          have HSC := hide hsc
          clear he hsc hki hkeep
          rw [show (((0 : Nat) : Int) - 1) = -1 by rfl]
          go_wp2
          go_ret2
          exact ⟨dret (by rw [uq HE, uq E1]), uq HK⟩
        · obtain ⟨i, rfl⟩ : ∃ i, j = i + 1 := ⟨j - 1, by omega⟩
          rw [show (((i + 1 : Nat) : Int) - 1) = (i : Int) by omega]
          obtain ⟨M, gm, capm, em, hsm, hdm, hlm, hvm⟩ := tws_at ((uq HTW).keep hki) (show i < k by omega)
          have hcell : wr.cell? ⟨g, i, none⟩ = some (.slice (some ⟨gm, 0, none⟩) M.length capm) := by
            rw [Below.cell (p := ⟨g, i, none⟩) hki hlt, row_at (uq HOWN) i (by omega), em]
          have hM0 : 0 < M.length ∨ M.length = 0 := by omega
          obtain ⟨hq0, hq1⟩ := db_bd (uq HI) hb1 (uq HAL)
          have hw1 : IntKind.u64.wrap (q * 2) = q * 2 := by rw [IntKind.wrap_u64]; omega
          have hw2 : IntKind.u64.wrap (q * 2 + 1) = q * 2 + 1 := by rw [IntKind.wrap_u64]; omega
          have O2 := hide (order_sl _ _ M C wr hsm hsc hdm hdc (by omega) (by omega))
          by_cases hle : val M ≤ val C
          · have hcm2 : cm (val M) (val C) ≤ 0 := by rw [cm_le]; exact hle
            have HI2 := hide (db_yes (uq HI) hvm hle)
            have MI := hide (minus_sl _ _ C M wr hsc hsm hdc hdm (by omega) (by omega) hle)
            generalize cm (val M) (val C) = c2 at *
            clear hsm hsc hvm hle em HI O
            go_wp2_with fail
            refine (uq O2).mono ?_
            rintro e wr ⟨rfl, rfl⟩
            go_wp2_with fail
            refine (uq MI).mono ?_
            rintro e w2 ⟨v2, l2, rfl, r2, d2, ⟨m0, m1⟩, k2⟩
            have TR := hide (trim_any v2 l2 w2 r2.cases d2 (by omega))
            have M1 := hide m1
            clear r2 m1
            go_wp2_with fail
            refine (uq TR).mono ?_
            rintro e w3 ⟨v3, l3, rfl, s3, d3, ⟨q0, q1⟩, k3⟩
            have HI3 : Hid (DbInv a b (val l3) (q * 2 + 1) i) := by rw [q1, uq M1]; exact HI2
            have HK3 := hide ((Keep.trans hki k2).trans k3)
            have S3 := hide s3
            clear s3 q1 HI2 k2 k3
            go_wp2
            go_roundw
            case rel => exact ⟨i, l3, q * 2 + 1, rfl, by go_num, by omega, uq S3, d3, by omega, HI3, uq HK3⟩
            case measure => simp [intOf] <;> omega
          · have hcm2 : 0 < cm (val M) (val C) := by
              have : ¬ cm (val M) (val C) ≤ 0 := by rw [cm_le]; exact hle
              omega
            have HI2 := hide (db_no (uq HI) hvm hle)
            generalize cm (val M) (val C) = c2 at *
            have hcb2 : decide (c2 ≤ 0) = false := by simp; omega
            have HSC := hide hsc
            clear hsm hsc hvm hle em HI O
            go_wp2_with fail
            refine (uq O2).mono ?_
            rintro e wr ⟨rfl, rfl⟩
            go_wp2
            go_roundw
            case rel => exact ⟨i, C, q * 2, rfl, by go_num, by omega, uq HSC, hdc, hlc, HI2, hki⟩
            case measure => simp [intOf] <;> omega
theorem divided_any (va vb : Value) (A B : List Int) (w : World) (ra : Sl w va A) (rb : Sl w vb B) (hA : Dig A) (hB : Dig B) (ha : A.length ≤ 20) (hb : B.length ≤ 20) (hb1 : 1 ≤ val B) :
    Calls Try.prog 54 #[va, vb] w fun e w' => e = .returned (.tuple #[.int .u64 (if val A / val B < 18446744073709551616 then val A / val B else 0), .bool (decide (val A / val B < 18446744073709551616))]) ∧ Keep w w' := by
  by_cases h : val B ≤ val A
  · exact divided_big va vb A B w ra rb hA hB ha hb hb1 h _ _ (⟨fun h => ⟨if_pos h, by simpa using h⟩, fun h => ⟨if_neg h, by simpa using h⟩⟩)
  · refine (divided_small va vb A B w ra rb hA hB ha hb (by omega)).mono ?_
    rintro e w' ⟨rfl, rfl⟩
    rw [Int.ediv_eq_zero_of_lt (val_bd hA).1 (by omega)]
    exact ⟨rfl, Keep.refl _⟩
end Go.Proofs.Ytdgmndjofbdgeaa

namespace Go.Proofs.Ytdgmndjofbdgeaa
open Go.RowKit
set_option linter.unusedVariables false
set_option maxRecDepth 10000

set_option maxHeartbeats 400000 in
theorem rsize_any (a : Int) (w : World) (h1 : -9223372036854775808 ≤ a) (h2 : a ≤ 9223372036854775807) :
    Calls Try.prog 36 #[.int .i64 a] w fun e w' => e = .returned (.int .u64 (a.natAbs : Int)) ∧ w' = w := by
  by_cases ha : a < 0
  · go_enter Try.func36, Try.ntmps36
    go_wp2
    go_ret
    exact ⟨one_ret (by rw [IntKind.wrap_u64, IntKind.wrap_u64]; omega), rfl⟩
  · go_enter Try.func36, Try.ntmps36
    go_wp2
    go_ret
    exact ⟨one_ret (by omega), rfl⟩

/-- a number of a size and a sign -/
def sg (u : Int) (below : Bool) : Int := if below then -u else u
set_option maxHeartbeats 400000 in
theorem signed_min (w : World) :
    Calls Try.prog 61 #[.int .u64 9223372036854775808, .bool true] w fun e w' => e = .returned (.tuple #[.int .i64 (-9223372036854775808), .int .i64 0]) ∧ w' = w := by
  go_enter Try.func61, Try.ntmps61
  go_wp2
  go_ret2
  exact ⟨rfl, rfl⟩
set_option maxHeartbeats 400000 in
theorem signed_over (u : Int) (below : Bool) (w : World) (h : 9223372036854775807 < u) (hu : u < 18446744073709551616) (hb : below = true → u ≠ 9223372036854775808) :
    Calls Try.prog 61 #[.int .u64 u, .bool below] w fun e w' => e = .returned (.tuple #[.int .i64 0, .int .i64 2]) ∧ w' = w := by
  cases below
  · clear hb
    by_cases he : u = 9223372036854775808
    · subst he
      go_enter Try.func61, Try.ntmps61
      go_wp2
      go_ret2
      exact ⟨rfl, rfl⟩
    · have he' : (u == 9223372036854775808) = false := by simp [he]
      go_enter Try.func61, Try.ntmps61
      go_wp2
      go_ret2
      exact ⟨rfl, rfl⟩
  · have he' : (u == 9223372036854775808) = false := by simp [hb rfl]
    clear hb
    go_enter Try.func61, Try.ntmps61
    go_wp2
    go_ret2
    exact ⟨rfl, rfl⟩
set_option maxHeartbeats 400000 in
theorem signed_fits (u : Int) (below : Bool) (w : World) (h0 : 0 ≤ u) (h : u ≤ 9223372036854775807) :
    Calls Try.prog 61 #[.int .u64 u, .bool below] w fun e w' => e = .returned (.tuple #[.int .i64 (sg u below), .int .i64 0]) ∧ w' = w := by
  have he' : (u == 9223372036854775808) = false := by simp; omega
  cases below
  · go_enter Try.func61, Try.ntmps61
    go_wp2
    go_ret2
    exact ⟨two_ret (by simp [sg]) rfl, rfl⟩
  · go_enter Try.func61, Try.ntmps61
    go_wp2
    go_ret2
    exact ⟨two_ret (by simp [sg]) rfl, rfl⟩
theorem signed_any (u : Int) (below : Bool) (w : World) (h0 : 0 ≤ u) (hu : u < 18446744073709551616) :
    Calls Try.prog 61 #[.int .u64 u, .bool below] w fun e w' => e = .returned (.tuple #[.int .i64 (ans (sg u below)), .int .i64 (err (sg u below))]) ∧ w' = w := by
  by_cases h : u ≤ 9223372036854775807
  · have hs : -9223372036854775808 ≤ sg u below ∧ sg u below ≤ 9223372036854775807 := by cases below <;> simp [sg] <;> omega
    rw [ans_yes hs.1 hs.2, err_yes hs.1 hs.2]
    exact signed_fits u below w h0 h
  · by_cases hm : below = true ∧ u = 9223372036854775808
    · obtain ⟨rfl, rfl⟩ := hm
      rw [show sg 9223372036854775808 true = -9223372036854775808 by simp [sg], ans_yes (by omega) (by omega), err_yes (by omega) (by omega)]
      exact signed_min w
    · have hs : sg u below < -9223372036854775808 ∨ 9223372036854775807 < sg u below := by
        cases below
        · simp [sg]; omega
        · have : u ≠ 9223372036854775808 := fun e => hm ⟨rfl, e⟩
          simp [sg]; omega
      rw [ans_no hs, err_no hs]
      exact signed_over u below w (by omega) hu (fun hb e => hm ⟨hb, e⟩)

/-- is a product below 0? -/
def bel (a b : Int) : Bool := decide (a * b < 0)
end Go.Proofs.Ytdgmndjofbdgeaa
