/- Roots: what package whole and the document's answer come to. -/
import Derived.Test.YtaebjfdadiegjaaRefF
import Derived.Laws.Bits64b
namespace Go.Proofs.Ytaebjfdadiegjaa
open Go.RowKit
set_option linter.unusedVariables false

/-- s is the root of n, rounded down -/
def IsRoot (n s : Int) : Prop := 0 ≤ s ∧ s * s ≤ n ∧ n < (s + 1) * (s + 1)
theorem root_nat : ∀ n : Nat, ∃ s : Nat, s * s ≤ n ∧ n < (s + 1) * (s + 1)
  | 0 => ⟨0, by simp⟩
  | n + 1 => by
    obtain ⟨s, h1, h2⟩ := root_nat n
    by_cases h : (s + 1) * (s + 1) ≤ n + 1
    · refine ⟨s + 1, h, ?_⟩
      have e : (s + 1 + 1) * (s + 1 + 1) = (s + 1) * (s + 1) + (s + 1) + (s + 1) + 1 := by rw [Nat.mul_succ, Nat.succ_mul]; omega
      omega
    · exact ⟨s, by omega, by omega⟩
theorem root_ex {n : Int} (h : 0 ≤ n) : ∃ s, IsRoot n s := by
  obtain ⟨m, rfl⟩ := Int.eq_ofNat_of_zero_le h
  obtain ⟨s, h1, h2⟩ := root_nat m
  refine ⟨(s : Int), by omega, ?_, ?_⟩
  · rw [← Int.natCast_mul]; omega
  · rw [show ((s : Int) + 1) = ((s + 1 : Nat) : Int) by omega, ← Int.natCast_mul]; omega
theorem root_le {n s t : Int} (h : IsRoot n s) (ht : 0 ≤ t) : t * t ≤ n ↔ t ≤ s := by
  obtain ⟨h0, h1, h2⟩ := h
  constructor
  · intro hh
    by_cases hc : t ≤ s
    · exact hc
    · have := Int.mul_le_mul (show s + 1 ≤ t by omega) (show s + 1 ≤ t by omega) (by omega) ht
      omega
  · intro hh
    have := Int.mul_le_mul hh hh ht h0
    omega
theorem root_lt {n s : Int} (h : IsRoot n s) (hn : n ≤ 9223372036854775807) : s < 4294967296 := by
  by_cases hc : s < 4294967296
  · exact hc
  · have := Int.mul_le_mul (show (4294967296 : Int) ≤ s by omega) (show (4294967296 : Int) ≤ s by omega) (by omega) h.1
    have := h.2.1
    omega
def RInv (S r : Int) (j : Nat) : Prop := 0 ≤ r ∧ r ≤ S ∧ S < r + 2 ^ j ∧ r + 2 ^ j ≤ 4294967296
theorem ri_start {S : Int} (h0 : 0 ≤ S) (h1 : S < 4294967296) : RInv S 0 32 := ⟨by omega, h0, by simpa using h1, by decide⟩
theorem ri_t {S r : Int} {i : Nat} (h : RInv S r (i + 1)) : 0 ≤ r + 2 ^ i ∧ r + 2 ^ i < 4294967296 ∧ (0 : Int) < 2 ^ i ∧ (2 : Int) ^ i < 4294967296 := by
  obtain ⟨h1, h2, h3, h4⟩ := h
  have := two_pos i
  rw [Int.pow_succ] at h3 h4
  omega
theorem ri_yes {S r : Int} {i : Nat} (h : RInv S r (i + 1)) (ht : r + 2 ^ i ≤ S) : RInv S (r + 2 ^ i) i := by
  obtain ⟨h1, h2, h3, h4⟩ := h
  have := two_pos i
  rw [Int.pow_succ] at h3 h4
  exact ⟨by omega, ht, by omega, by omega⟩
theorem ri_no {S r : Int} {i : Nat} (h : RInv S r (i + 1)) (ht : ¬ r + 2 ^ i ≤ S) : RInv S r i := by
  obtain ⟨h1, h2, h3, h4⟩ := h
  have := two_pos i
  rw [Int.pow_succ] at h3 h4
  exact ⟨by omega, by omega, by omega, by omega⟩
theorem ri_end {S r : Int} (h : RInv S r 0) : r = S := by
  obtain ⟨h1, h2, h3, h4⟩ := h
  simp at h3
  omega
theorem square_bd {t : Int} (h0 : 0 ≤ t) (h1 : t < 4294967296) : 0 ≤ t * t ∧ t * t < 18446744073709551616 := by
  have := Int.mul_le_mul (show t ≤ 4294967295 by omega) (show t ≤ 4294967295 by omega) h0 (by omega)
  have := Int.mul_nonneg h0 h0
  omega
theorem or_bit {r : Int} {i : Nat} (h0 : 0 ≤ r) (h1 : r < 4294967296) (hp : (2 : Int) ^ i < 4294967296) (hm : ∃ m : Nat, r = (m : Int) * 2 ^ (i + 1)) : bits .or .u64 r (2 ^ i) = r + 2 ^ i := by
  obtain ⟨m, rfl⟩ := hm
  have c1 : ((m : Int) * 2 ^ (i + 1)) = ((m * 2 ^ (i + 1) : Nat) : Int) := by simp
  have c2 : ((2 : Int) ^ i) = ((2 ^ i : Nat) : Int) := by simp
  rw [c1] at h1 ⊢
  rw [c2] at hp ⊢
  have hor : m * 2 ^ (i + 1) ||| 2 ^ i = m * 2 ^ (i + 1) + 2 ^ i := by
    rw [Nat.mul_comm m]
    exact (Nat.two_pow_add_eq_or_of_lt (Nat.pow_lt_pow_right (by omega) (by omega)) m).symm
  rw [bits_or_u64_nat _ _ (by omega) (by omega), hor]
  omega
theorem bit_half (i : Nat) : (2 : Int) ^ (i + 1) / 2 = 2 ^ i := by rw [Int.pow_succ]; omega

set_option maxHeartbeats 400000 in
theorem sqrt_arg (n : Int) (w : World) (h : n < 0) :
    Calls Try.prog 30 #[.int .i64 n] w fun e w' => e = .returned (.tuple #[.int .i64 0, .int .i64 1]) ∧ w' = w := by
  go_enter Try.func30, Try.ntmps30
  go_wp2
  go_ret2
  exact ⟨rfl, rfl⟩
set_option maxHeartbeats 400000 in
theorem rsqrt_arg (n : Int) (w : World) (h : n < 0) :
    Calls Try.prog 31 #[.int .i64 n] w fun e w' => e = .returned (.tuple #[.int .i64 0, .int .i64 1]) ∧ w' = w := by
  go_enter Try.func31, Try.ntmps31
  go_wp2
  go_ret2
  exact ⟨rfl, rfl⟩

/-- the bit that is tried next: 2 to the j - 1, or none -/
def bitAt (j : Nat) : Int := if j = 0 then 0 else 2 ^ (j - 1)
theorem bitAt_succ (i : Nat) : bitAt (i + 1) = 2 ^ i := by simp [bitAt]
theorem bitAt_zero : bitAt 0 = 0 := by simp [bitAt]
theorem bitAt_half (i : Nat) : (2 : Int) ^ i / 2 = bitAt i := by
  cases i with
  | zero => rfl
  | succ i => rw [bit_half, bitAt_succ]
set_option maxHeartbeats 1000000 in
theorem sqrt_any (n S : Int) (w : World) (h0 : 0 ≤ n) (h1 : n ≤ 9223372036854775807) (HS : Hid (IsRoot n S)) (hS0 : 0 ≤ S) (hS1 : S < 4294967296) :
    Calls Try.prog 30 #[.int .i64 n] w fun e w' => e = .returned (.tuple #[.int .i64 S, .int .i64 0]) ∧ w' = w := by
  go_enter Try.func30, Try.ntmps30
  go_wp2
  go_loop [4, 5] (fun rv bv => ∃ (j : Nat) (r p : Int), rv = .int .u64 r ∧ bv = .int .u64 p ∧ Hid (p = bitAt j) ∧ RInv S r j ∧ Hid (∃ m : Nat, r = (m : Int) * 2 ^ j)) (fun _ bv => (intOf bv).toNat)
  case atStart => exact ⟨32, 0, 2147483648, rfl, rfl, hide (by decide), ri_start hS0 hS1, hide ⟨0, by simp⟩⟩
  case round =>
    obtain ⟨j, r, p, rfl, rfl, HP, inv, HM⟩ := hrel
    by_cases hj : j = 0
    · subst hj
      have hp : p = 0 := by rw [unhide HP, bitAt_zero]
      have hr := ri_end inv
      subst hp
      subst hr
      clear inv
      go_wp2
      go_ret2
      exact ⟨rfl, rfl⟩
    · obtain ⟨i, rfl⟩ : ∃ i, j = i + 1 := ⟨j - 1, by omega⟩
      have hp : p = 2 ^ i := by rw [unhide HP, bitAt_succ]
      obtain ⟨t1, t2, t3, t4⟩ := ri_t inv
      have r0 : 0 ≤ r := inv.1
      have hor := or_bit r0 (by omega) t4 (unhide HM)
      have sq := square_bd t1 t2
      have hle := root_le (unhide HS) t1
      have hhalf := bitAt_half i
      rw [← hp] at t1 t2 t3 t4 hor sq hle hhalf
      obtain ⟨t, ht⟩ : ∃ t, t = r + p := ⟨_, rfl⟩
      rw [← ht] at t1 t2 hor sq hle
      obtain ⟨T, hT⟩ : ∃ T, T = t * t := ⟨_, rfl⟩
      have eT : IntKind.u64.wrap (t * t) = T := by rw [IntKind.wrap_u64, hT]; omega
      rw [← hT] at sq hle
      obtain ⟨sq1, sq2⟩ := sq
      have HH := hide hhalf
      by_cases hc : T ≤ n
      · have hts := hle.1 hc
        have HI : Hid (RInv S t i) := by
          refine hide ?_
          rw [ht, hp]
          exact ri_yes inv (by rw [← hp, ← ht]; exact hts)
        have HM2 : Hid (∃ m : Nat, t = (m : Int) * 2 ^ i) := by
          obtain ⟨m, hm⟩ := unhide HM
          refine hide ⟨2 * m + 1, ?_⟩
          rw [ht, hp, hm, Int.pow_succ]
          rw [show ((2 * m + 1 : Nat) : Int) = 2 * (m : Int) + 1 by omega, Int.add_mul, Int.mul_assoc, Int.mul_comm (2 ^ i) 2, Int.mul_left_comm]
          omega
        clear hle hT ht hp inv hhalf hts
        go_wp2
        go_round
        case rel => exact ⟨i, t, p / 2, rfl, rfl, HH, unhide HI, HM2⟩
        case measure => simp [intOf]; omega
      · have hts : ¬ t ≤ S := fun h => hc (hle.2 h)
        have HI : Hid (RInv S r i) := by
          refine hide ?_
          exact ri_no inv (by rw [← hp, ← ht]; exact hts)
        have HM2 : Hid (∃ m : Nat, r = (m : Int) * 2 ^ i) := by
          obtain ⟨m, hm⟩ := unhide HM
          refine hide ⟨2 * m, ?_⟩
          rw [hm, Int.pow_succ]
          rw [show ((2 * m : Nat) : Int) = 2 * (m : Int) by omega, Int.mul_comm (2 ^ i) 2, Int.mul_left_comm, Int.mul_assoc]
        clear hle hT ht hp inv hhalf hts
        go_wp2
        go_round
        case rel => exact ⟨i, r, p / 2, rfl, rfl, HH, unhide HI, HM2⟩
        case measure => simp [intOf]; omega

set_option maxHeartbeats 1000000 in
theorem rsqrt_any (n S : Int) (w : World) (h0 : 0 ≤ n) (h1 : n ≤ 9223372036854775807) (HS : Hid (IsRoot n S)) (hS0 : 0 ≤ S) (hS1 : S < 4294967296) :
    Calls Try.prog 31 #[.int .i64 n] w fun e w' => e = .returned (.tuple #[.int .i64 S, .int .i64 0]) ∧ Keep w w' := by
  go_enter Try.func31, Try.ntmps31
  go_wp2_with fail
  go_loopw [4, 5] (fun rv kv wr => ∃ (j : Nat) (r : Int), kv = .int .i64 ((j : Int) - 1) ∧ j ≤ 32 ∧ rv = .int .i64 r ∧ RInv S r j ∧ Keep w wr) (fun _ kv _ => (intOf kv + 1).toNat)
  case atStart => exact ⟨32, 0, rfl, by omega, rfl, ri_start hS0 hS1, Keep.refl _⟩
  case round =>
    obtain ⟨j, r, rfl, hj, rfl, inv, hk⟩ := hrel
    by_cases hj0 : j = 0
    · subst hj0
      have hq := ri_end inv
      subst hq
      rw [show (((0 : Nat) : Int) - 1) = -1 by rfl]
      clear inv
      go_wp2
      go_ret2
      exact ⟨rfl, hk⟩
    · obtain ⟨i, rfl⟩ : ∃ i, j = i + 1 := ⟨j - 1, by omega⟩
      rw [show (((i + 1 : Nat) : Int) - 1) = (i : Int) by omega]
      have ht := ri_t inv
      have r0 : 0 ≤ r := inv.1
      obtain ⟨t1, t2, t3, t4⟩ := ht
      have hle := root_le (unhide HS) t1
      have HLE := hide hle
      by_cases hc : r + 2 ^ i ≤ S
      · have HI := hide (ri_yes inv hc)
        have hsq := hle.2 hc
        have HSQ := hide hsq
        clear hle hsq inv
        go_wp2_with fail
        refine (times_ref _ _ _ t1 (by omega) t1 (by omega)).mono ?_
        rintro e w1 ⟨v1, l1, rfl, r1, d1, ⟨n0, n1, n2⟩, bb1⟩
        have kb1 : Keep _ w1 := bb1
        have N2 := hide n2
        clear n2
        go_wp2_with fail
        refine (parts_any n _ h0 (by omega)).mono ?_
        rintro e w2 ⟨v2, l2, rfl, r2, d2, ⟨m0, m1⟩, bb2⟩
        have kb2 : Keep _ w2 := bb2
        have O1 := hide (order_any v1 v2 l1 l2 _ _ w2 (r1.keep kb2) r2 d1 d2 n0 (by omega) (by omega) (by omega))
        have hcm : cm (val l1) (val l2) ≤ 0 := by rw [cm_le, unhide N2, m1]; exact unhide HSQ
        clear r1 r2 m1 HLE
        generalize cm (val l1) (val l2) = cv at *
        have hcb : decide (cv ≤ 0) = true := by simp; omega
        generalize hpw : (2 : Int) ^ i = pi at *
        have HPW := hide hpw
        clear hpw
        go_wp2_with fail
        refine (unhide O1).mono ?_
        rintro e w3 ⟨rfl, rfl⟩
        go_wp2
        go_roundw
        case rel => exact ⟨i, _, by go_num, by omega, rfl, unhide HI, (hk.trans kb1).trans kb2⟩
        case measure => simp [intOf] <;> omega
      · have HI := hide (ri_no inv hc)
        have hsq : n < (r + 2 ^ i) * (r + 2 ^ i) := Int.not_le.1 fun h => hc (hle.1 h)
        have HSQ := hide hsq
        clear hle hsq inv hc
        go_wp2_with fail
        refine (times_ref _ _ _ t1 (by omega) t1 (by omega)).mono ?_
        rintro e w1 ⟨v1, l1, rfl, r1, d1, ⟨n0, n1, n2⟩, bb1⟩
        have kb1 : Keep _ w1 := bb1
        have N2 := hide n2
        clear n2
        go_wp2_with fail
        refine (parts_any n _ h0 (by omega)).mono ?_
        rintro e w2 ⟨v2, l2, rfl, r2, d2, ⟨m0, m1⟩, bb2⟩
        have kb2 : Keep _ w2 := bb2
        have O1 := hide (order_any v1 v2 l1 l2 _ _ w2 (r1.keep kb2) r2 d1 d2 n0 (by omega) (by omega) (by omega))
        have hcm : 0 < cm (val l1) (val l2) := by
          have h := cm_le (x := val l1) (y := val l2)
          rw [unhide N2, m1] at h ⊢
          have := unhide HSQ
          omega
        clear r1 r2 m1 HLE
        generalize cm (val l1) (val l2) = cv at *
        have hcb : decide (cv ≤ 0) = false := by simp; omega
        generalize hpw : (2 : Int) ^ i = pi at *
        have HPW := hide hpw
        clear hpw hcm
        go_wp2_with fail
        refine (unhide O1).mono ?_
        rintro e w3 ⟨rfl, rfl⟩
        go_wp2
        go_roundw
        case rel => exact ⟨i, _, by go_num, by omega, rfl, unhide HI, (hk.trans kb1).trans kb2⟩
        case measure => simp [intOf] <;> omega
end Go.Proofs.Ytaebjfdadiegjaa
