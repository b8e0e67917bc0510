/- Plain numbers: how a long quotient is found by halves (school division, as math/bits.Div64 goes about it). -/
import Derived.Test.YtdgmndjofbdgeaaLMath
import Derived.Lib.BitFns
import Derived.Laws.Bits64b
namespace Go.Proofs.Ytdgmndjofbdgeaa
open Go.RowKit
set_option linter.unusedVariables false

/-- the true quotient of three halves by two -/
def dq (U u y1 y0 : Int) : Int := (U * 4294967296 + u) / (y1 * 4294967296 + y0)
/-- what holds at each round's head -/
def DInv (U u y1 y0 q r : Int) : Prop := q * y1 + r = U ∧ 0 ≤ r ∧ r < 4294967296 ∧ dq U u y1 y0 ≤ q ∧ q ≤ 4294967297 ∧ 0 ≤ q

theorem dq_nonneg {U u y1 y0 : Int} (hU : 0 ≤ U) (hu : 0 ≤ u) (h1 : 0 < y1) (h0 : 0 ≤ y0) : 0 ≤ dq U u y1 y0 :=
  Int.ediv_nonneg (by omega) (by omega)
theorem mul_Y (q y1 y0 : Int) : q * (y1 * 4294967296 + y0) = q * y1 * 4294967296 + q * y0 := by rw [Int.mul_add, Int.mul_assoc]
theorem dq_mul_le {U u y1 y0 : Int} (h1 : 0 < y1) (h0 : 0 ≤ y0) : dq U u y1 y0 * y1 * 4294967296 + dq U u y1 y0 * y0 ≤ U * 4294967296 + u := by
  rw [← mul_Y]; exact Int.ediv_mul_le _ (by omega)
theorem dinit {U u y1 y0 : Int} (hU : 0 ≤ U) (hUY : U < y1 * 4294967296 + y0) (hu : 0 ≤ u) (hu' : u < 4294967296) (h1 : 2147483648 ≤ y1) (h1' : y1 < 4294967296) (h0 : 0 ≤ y0) (h0' : y0 < 4294967296) :
    DInv U u y1 y0 (U / y1) (U - U / y1 * y1) := by
  have hd := Int.emod_add_mul_ediv U y1
  have hm := Int.emod_nonneg U (show y1 ≠ 0 by omega)
  have hl := Int.emod_lt_of_pos U (show 0 < y1 by omega)
  have hq0 : 0 ≤ U / y1 := Int.ediv_nonneg hU (by omega)
  rw [Int.mul_comm y1] at hd
  refine ⟨by omega, by omega, by omega, ?_, ?_, hq0⟩
  · refine (Int.le_ediv_iff_mul_le (by omega)).2 ?_
    have hle := dq_mul_le (U := U) (u := u) (y1 := y1) (y0 := y0) (by omega) h0
    have hn := Int.mul_nonneg (dq_nonneg hU hu (show 0 < y1 by omega) h0) h0
    omega
  · have : U / y1 < 4294967298 := by
      refine Int.ediv_lt_of_lt_mul (by omega) ?_
      omega
    omega
theorem dq_lt {U u y1 y0 : Int} (hUY : U < y1 * 4294967296 + y0) (hu' : u < 4294967296) (h1 : 2147483648 ≤ y1) (h0 : 0 ≤ y0) : dq U u y1 y0 < 4294967296 := by
  refine Int.ediv_lt_of_lt_mul (by omega) ?_
  omega
theorem dgo1 {U u y1 y0 q r : Int} (hUY : U < y1 * 4294967296 + y0) (hu' : u < 4294967296) (h1 : 2147483648 ≤ y1) (h0 : 0 ≤ y0)
    (hq : 4294967296 ≤ q) : dq U u y1 y0 ≤ q - 1 := by
  have := dq_lt hUY hu' h1 h0; omega
theorem dgo2 {U u y1 y0 q r : Int} (h1 : 2147483648 ≤ y1) (h0 : 0 ≤ y0) (hi : q * y1 + r = U) (hq : 4294967296 * r + u < q * y0) : dq U u y1 y0 ≤ q - 1 := by
  have : dq U u y1 y0 < q := by
    refine Int.ediv_lt_of_lt_mul (by omega) ?_
    rw [mul_Y]; omega
  omega
theorem dround {U y1 q r : Int} (hi : q * y1 + r = U) : (q - 1) * y1 + (r + y1) = U := by rw [Int.sub_mul]; omega
theorem dend1 {U u y1 y0 q r : Int} (h1 : 2147483648 ≤ y1) (h0 : 0 ≤ y0) (h0' : y0 < 4294967296) (hu : 0 ≤ u) (hi : q * y1 + r = U) (hq : q ≤ 4294967296) (hq0 : 0 ≤ q) (hr : 4294967296 ≤ r) (hQ : dq U u y1 y0 ≤ q) : dq U u y1 y0 = q := by
  have hp : q * y0 ≤ 4294967296 * 4294967295 := Int.mul_le_mul hq (by omega) h0 (by omega)
  have : q ≤ dq U u y1 y0 := by
    refine (Int.le_ediv_iff_mul_le (by omega)).2 ?_
    rw [mul_Y]; omega
  omega
theorem dend2 {U u y1 y0 q r : Int} (h1 : 2147483648 ≤ y1) (h0 : 0 ≤ y0) (hi : q * y1 + r = U) (ht : q * y0 ≤ 4294967296 * r + u) (hQ : dq U u y1 y0 ≤ q) : dq U u y1 y0 = q := by
  have : q ≤ dq U u y1 y0 := by
    refine (Int.le_ediv_iff_mul_le (by omega)).2 ?_
    rw [mul_Y]; omega
  omega
theorem dprod {q y0 : Int} (hq0 : 0 ≤ q) (hq : q < 4294967296) (h0 : 0 ≤ y0) (h0' : y0 < 4294967296) : 0 ≤ q * y0 ∧ q * y0 < 18446744073709551616 := by
  have := Int.mul_le_mul (show q ≤ 4294967295 by omega) (show y0 ≤ 4294967295 by omega) h0 (by omega)
  exact ⟨Int.mul_nonneg hq0 h0, by omega⟩
/-- the rest behind a step -/
theorem drest {U u y1 y0 q : Int} (h1 : 2147483648 ≤ y1) (h0 : 0 ≤ y0) (hQ : dq U u y1 y0 = q) :
    0 ≤ U * 4294967296 + u - q * (y1 * 4294967296 + y0) ∧ U * 4294967296 + u - q * (y1 * 4294967296 + y0) < y1 * 4294967296 + y0 := by
  have hd := Int.emod_add_mul_ediv (U * 4294967296 + u) (y1 * 4294967296 + y0)
  have hm := Int.emod_nonneg (U * 4294967296 + u) (show y1 * 4294967296 + y0 ≠ 0 by omega)
  have hl := Int.emod_lt_of_pos (U * 4294967296 + u) (show 0 < y1 * 4294967296 + y0 by omega)
  have e : (U * 4294967296 + u) / (y1 * 4294967296 + y0) = q := hQ
  rw [e, Int.mul_comm (y1 * 4294967296 + y0) q] at hd
  omega
/-- both steps together -/
theorem dboth {U V y1 y0 q1 q0 R : Int} (h1 : 2147483648 ≤ y1) (h0 : 0 ≤ y0) (hV : 0 ≤ V) (hR : R = U * 4294967296 + V / 4294967296 - q1 * (y1 * 4294967296 + y0)) (hQ : dq R (V % 4294967296) y1 y0 = q0) :
    (U * 18446744073709551616 + V) / (y1 * 4294967296 + y0) = q1 * 4294967296 + q0 := by
  have hr := drest h1 h0 hQ
  generalize hY : y1 * 4294967296 + y0 = Y at *
  have hpos : 0 < Y := by omega
  have e : U * 18446744073709551616 + V = (R * 4294967296 + V % 4294967296 - q0 * Y) + (q1 * 4294967296 + q0) * Y := by
    rw [Int.add_mul, Int.mul_right_comm]; omega
  rw [e, Int.add_mul_ediv_right _ _ (by omega), Int.ediv_eq_zero_of_lt (by omega) (by omega)]
  omega
theorem dstart {U y1 y0 : Int} (hU : 0 ≤ U) (hUY : U < y1 * 4294967296 + y0) (h1 : 2147483648 ≤ y1) (h1' : y1 < 4294967296) (h0' : y0 < 4294967296) :
    IntKind.u64.wrap (U - IntKind.u64.wrap (U / y1 * y1)) = U - U / y1 * y1 := by
  have hd := Int.emod_add_mul_ediv U y1
  have hm := Int.emod_nonneg U (show y1 ≠ 0 by omega)
  have hl := Int.emod_lt_of_pos U (show 0 < y1 by omega)
  have hq0 : 0 ≤ U / y1 * y1 := Int.mul_nonneg (Int.ediv_nonneg hU (by omega)) (by omega)
  rw [Int.mul_comm y1] at hd
  rw [IntKind.wrap_u64, IntKind.wrap_u64]
  omega
theorem dwrap {U u y1 y0 q Y : Int} (hY : Y = y1 * 4294967296 + y0) (h1 : 2147483648 ≤ y1) (h1' : y1 < 4294967296) (h0 : 0 ≤ y0) (h0' : y0 < 4294967296) (hQ : dq U u y1 y0 = q) :
    IntKind.u64.wrap (IntKind.u64.wrap (IntKind.u64.wrap (U * 4294967296) + u) - IntKind.u64.wrap (q * Y)) = U * 4294967296 + u - q * Y := by
  subst hY
  have := drest h1 h0 hQ
  rw [IntKind.wrap_u64, IntKind.wrap_u64, IntKind.wrap_u64, IntKind.wrap_u64]
  generalize q * (y1 * 4294967296 + y0) = P at *
  omega
theorem dpos {q y0 P t : Int} (hP : P = q * y0) (hq : 0 ≤ q) (ht : t < P) (h0 : 0 ≤ t) : 1 ≤ q := by
  by_cases h : q = 0
  · subst h; simp at hP; omega
  · omega

/-! ### the shift -/
theorem bl_aux : ∀ (f x : Nat), 0 < x → x < 2 ^ f → 1 ≤ Lib.bitLenAux f x ∧ Lib.bitLenAux f x ≤ f ∧ 2 ^ (Lib.bitLenAux f x - 1) ≤ x ∧ x < 2 ^ Lib.bitLenAux f x
  | 0, x, h, hx => by simp at hx; omega
  | f + 1, x, h, hx => by
    have e : Lib.bitLenAux (f + 1) x = 1 + Lib.bitLenAux f (x / 2) := by
      simp [Lib.bitLenAux]; omega
    rw [e]
    by_cases h2 : x / 2 = 0
    · rw [h2]
      have : Lib.bitLenAux f 0 = 0 := by cases f <;> simp [Lib.bitLenAux]
      rw [this]
      have : x = 1 := by omega
      subst this
      simp
    · have hp : 2 ^ (f + 1) = 2 * 2 ^ f := by rw [Nat.pow_succ]; omega
      obtain ⟨k1, k2, k3, k4⟩ := bl_aux f (x / 2) (by omega) (by omega)
      generalize hL : Lib.bitLenAux f (x / 2) = L at *
      have e1 : 2 ^ (1 + L) = 2 * 2 ^ L := by rw [Nat.add_comm, Nat.pow_succ]; omega
      have e2 : 2 ^ (1 + L - 1) = 2 * 2 ^ (L - 1) := by
        rw [show 1 + L - 1 = (L - 1) + 1 by omega, Nat.pow_succ]; omega
      refine ⟨by omega, by omega, ?_, ?_⟩
      · rw [e2]; omega
      · rw [e1]; omega
theorem bl_shift (x : Nat) (h : 0 < x) (hx : x < 18446744073709551616) : Lib.bitLen x ≤ 64 ∧ 64 - Lib.bitLen x ≤ 63 ∧ 9223372036854775808 ≤ x * 2 ^ (64 - Lib.bitLen x) ∧ x * 2 ^ (64 - Lib.bitLen x) < 18446744073709551616 := by
  obtain ⟨k1, k2, k3, k4⟩ := bl_aux 64 x h (by simpa using hx)
  change 1 ≤ Lib.bitLen x at k1
  change Lib.bitLen x ≤ 64 at k2
  change 2 ^ (Lib.bitLen x - 1) ≤ x at k3
  change x < 2 ^ Lib.bitLen x at k4
  generalize Lib.bitLen x = L at *
  have e1 : 2 ^ (L - 1) * 2 ^ (64 - L) = 9223372036854775808 := by rw [← Nat.pow_add, show L - 1 + (64 - L) = 63 by omega]
  have e2 : 2 ^ L * 2 ^ (64 - L) = 18446744073709551616 := by rw [← Nat.pow_add, show L + (64 - L) = 64 by omega]
  have p : 0 < 2 ^ (64 - L) := Nat.pow_pos (by omega)
  refine ⟨k2, by omega, ?_, ?_⟩
  · rw [← e1]; exact Nat.mul_le_mul_right _ k3
  · rw [← e2]; exact Nat.mul_lt_mul_of_pos_right k4 p
theorem dshift_nat (h l y s : Nat) (hs : s ≤ 63) (h1 : h < y) (hl : l < 18446744073709551616) (hy : y * 2 ^ s < 18446744073709551616) :
    h * 2 ^ s < 18446744073709551616 ∧ l / 2 ^ (64 - s) < 2 ^ s ∧ l / 2 ^ (64 - s) < 18446744073709551616 ∧ (h * 2 ^ s ||| l / 2 ^ (64 - s)) = h * 2 ^ s + l / 2 ^ (64 - s)
      ∧ (h * 18446744073709551616 + l) * 2 ^ s = (h * 2 ^ s + l / 2 ^ (64 - s)) * 18446744073709551616 + l * 2 ^ s % 18446744073709551616 ∧ h * 2 ^ s + l / 2 ^ (64 - s) < y * 2 ^ s := by
  have eM : 2 ^ (64 - s) * 2 ^ s = 18446744073709551616 := by rw [← Nat.pow_add, show 64 - s + s = 64 by omega]
  have p : 0 < 2 ^ s := Nat.pow_pos (by omega)
  have hm : h * 2 ^ s + 2 ^ s ≤ y * 2 ^ s := by rw [← Nat.succ_mul]; exact Nat.mul_le_mul_right _ h1
  have hz : l / 2 ^ (64 - s) < 2 ^ s := by
    refine Nat.div_lt_of_lt_mul ?_
    rw [eM]; exact hl
  have hd : 2 ^ (64 - s) * (l / 2 ^ (64 - s)) + l % 2 ^ (64 - s) = l := Nat.div_add_mod _ _
  have hr : l % 2 ^ (64 - s) < 2 ^ (64 - s) := Nat.mod_lt _ (Nat.pow_pos (by omega))
  have hp : l * 2 ^ s = (l / 2 ^ (64 - s)) * 18446744073709551616 + l % 2 ^ (64 - s) * 2 ^ s := by
    rw [← eM]
    conv => lhs; rw [← hd]
    rw [Nat.add_mul, Nat.mul_comm (2 ^ (64 - s)) (l / 2 ^ (64 - s)), Nat.mul_assoc]
  have hq : l % 2 ^ (64 - s) * 2 ^ s < 18446744073709551616 := by rw [← eM]; exact Nat.mul_lt_mul_of_pos_right hr p
  refine ⟨by omega, hz, by omega, ?_, ?_, by omega⟩
  · rw [Nat.mul_comm h]; exact (Nat.two_pow_add_eq_or_of_lt hz h).symm
  · rw [Nat.add_mul, Nat.mul_right_comm, hp]; omega
theorem dshift (hi lo y : Int) (s : Nat) (hs : s ≤ 63) (h0 : 0 ≤ hi) (h1 : hi < y) (h3 : 0 ≤ lo) (h4 : lo < 18446744073709551616) (hy : y * 2 ^ s < 18446744073709551616) :
    IntKind.u64.wrap (y * 2 ^ s) = y * 2 ^ s ∧ IntKind.u64.wrap (hi * 2 ^ s) = hi * 2 ^ s ∧ bits .or .u64 (hi * 2 ^ s) (lo / 2 ^ (64 - s)) = hi * 2 ^ s + lo / 2 ^ (64 - s)
      ∧ (hi * 18446744073709551616 + lo) * 2 ^ s = (hi * 2 ^ s + lo / 2 ^ (64 - s)) * 18446744073709551616 + IntKind.u64.wrap (lo * 2 ^ s) ∧ 0 ≤ hi * 2 ^ s + lo / 2 ^ (64 - s) ∧ hi * 2 ^ s + lo / 2 ^ (64 - s) < y * 2 ^ s := by
  obtain ⟨h, rfl⟩ := Int.eq_ofNat_of_zero_le h0
  obtain ⟨l, rfl⟩ := Int.eq_ofNat_of_zero_le h3
  obtain ⟨y, rfl⟩ := Int.eq_ofNat_of_zero_le (show 0 ≤ y by omega)
  have c3 : ((y : Int) * 2 ^ s) = ((y * 2 ^ s : Nat) : Int) := by simp
  have hy' : y * 2 ^ s < 18446744073709551616 := by rw [c3] at hy; omega
  obtain ⟨k1, k2, k3, k4, k5, k6⟩ := dshift_nat h l y s hs (by omega) (by omega) hy'
  have c1 : ((h : Int) * 2 ^ s) = ((h * 2 ^ s : Nat) : Int) := by simp
  have c2 : ((l : Int) / 2 ^ (64 - s)) = ((l / 2 ^ (64 - s) : Nat) : Int) := by simp
  have c4 : ((l : Int) * 2 ^ s) = ((l * 2 ^ s : Nat) : Int) := by simp
  have c5 : ((h : Int) * 18446744073709551616 + l) * 2 ^ s = (((h * 18446744073709551616 + l) * 2 ^ s : Nat) : Int) := by simp
  rw [c5, c1, c2, c3, c4, bits_or_u64_nat _ _ k1 k3, k4, k5]
  refine ⟨?_, ?_, rfl, ?_, by omega, by omega⟩
  · rw [IntKind.wrap_u64]; omega
  · rw [IntKind.wrap_u64]; omega
  · rw [IntKind.wrap_u64]; omega
theorem dmask (a : Int) (h0 : 0 ≤ a) (h : a < 18446744073709551616) : bits .and .u64 a 4294967295 = a % 4294967296 := by
  obtain ⟨a, rfl⟩ := Int.eq_ofNat_of_zero_le h0
  have h := bits_and_u64_nat a 4294967295 (by omega) (by omega)
  have e : a &&& 4294967295 = a % 4294967296 := Nat.and_two_pow_sub_one_eq_mod a 32
  rw [e] at h
  exact h
theorem dscale (n y : Int) (s : Nat) : n * 2 ^ s / (y * 2 ^ s) = n / y := Int.mul_ediv_mul_of_pos_left n y (Int.pow_pos (by omega))
end Go.Proofs.Ytdgmndjofbdgeaa
