/- Plain numbers: fractions in lowest terms; sums and products of fractions. No program is met here. -/
import Derived.Test.YtdgmndjofbdgeaaLMath
import Derived.Test.YtdgmndjofbdgeaaProg
import Derived.WalkKit
import Derived.ProofKit
namespace Go.Proofs.Ytdgmndjofbdgeaa
open Go.RowKit
set_option linter.unusedVariables false

/-- is a fraction right? -/
def rt (n d : Int) : Bool := decide (1 ≤ d ∧ Int.gcd n d = 1)
/-- what a fraction counts as -/
def cn (n d : Int) : Int := if rt n d then n else 0
def cd (n d : Int) : Int := if rt n d then d else 1
/-- the two numbers of a right fraction -/
def Rt (n d : Int) : Prop := 1 ≤ d ∧ Int.gcd n d = 1 ∧ -9223372036854775808 ≤ n ∧ n ≤ 9223372036854775807 ∧ d ≤ 9223372036854775807
theorem rt_counted (n d : Int) (h1 : -9223372036854775808 ≤ n) (h2 : n ≤ 9223372036854775807) (h4 : d ≤ 9223372036854775807) : Rt (cn n d) (cd n d) := by
  unfold cn cd
  by_cases h : rt n d = true
  · have h' := h
    simp only [rt, decide_eq_true_eq] at h'
    simp only [h, if_true]
    exact ⟨h'.1, h'.2, h1, h2, h4⟩
  · simp only [h, if_false, Bool.false_eq_true]
    exact ⟨by omega, by simp, by omega, by omega, by omega⟩
theorem Rt.rt {n d : Int} (h : Rt n d) : rt n d = true := by simp only [Proofs.Ytdgmndjofbdgeaa.rt, decide_eq_true_eq]; exact ⟨h.1, h.2.1⟩
theorem Rt.cn {n d : Int} (h : Rt n d) : cn n d = n := by simp [Proofs.Ytdgmndjofbdgeaa.cn, h.rt]
theorem Rt.cd {n d : Int} (h : Rt n d) : cd n d = d := by simp [Proofs.Ytdgmndjofbdgeaa.cd, h.rt]
/-- lowest terms -/
def rn (N D : Int) : Int := N / (Int.gcd N D : Int)
def rd (N D : Int) : Int := D / (Int.gcd N D : Int)
/-- the answer of two exact numbers: both, where both fit; else the zero fraction and 2 -/
def pN (n d : Int) : Int := if fit n && fit d then n else 0
def pD (n d : Int) : Int := if fit n && fit d then d else 0
def pE (n d : Int) : Int := if fit n && fit d then 0 else 2
/-- a fraction as a value -/
def fr (n d : Int) : Value := .agg #[.int .i64 n, .int .i64 d]
/-- an answer as a value: a fraction and an error -/
def fv (n d : Int) : Value := .tuple #[.agg #[.int .i64 (pN n d), .int .i64 (pD n d)], .int .i64 (pE n d)]

theorem nat_low {n d N D : Nat} (hd : 0 < d) (hD : 0 < D) (hg : Nat.gcd n d = 1) (h : n * D = N * d) : ∃ k, 0 < k ∧ N = n * k ∧ D = d * k ∧ Nat.gcd N D = k := by
  have h1 : d ∣ n * D := ⟨N, by rw [h, Nat.mul_comm]⟩
  have h2 : d ∣ D := Nat.Coprime.dvd_of_dvd_mul_left (Nat.Coprime.symm hg) h1
  obtain ⟨k, rfl⟩ := h2
  have hk : 0 < k := Nat.pos_of_mul_pos_left hD
  have e : N = n * k := by
    have : N * d = (n * k) * d := by rw [← h, Nat.mul_assoc, Nat.mul_comm d k]
    exact Nat.eq_of_mul_eq_mul_right hd this
  subst e
  refine ⟨k, hk, rfl, rfl, ?_⟩
  rw [Nat.gcd_mul_right, hg, Nat.one_mul]
theorem int_low {n d N D : Int} (hd : 0 < d) (hD : 0 < D) (hg : Int.gcd n d = 1) (h : n * D = N * d) : ∃ k : Int, 0 < k ∧ N = n * k ∧ D = d * k ∧ (Int.gcd N D : Int) = k := by
  have e : n.natAbs * D.natAbs = N.natAbs * d.natAbs := by rw [← Int.natAbs_mul, ← Int.natAbs_mul, h]
  obtain ⟨k, hk, e1, e2, e3⟩ := nat_low (n := n.natAbs) (d := d.natAbs) (N := N.natAbs) (D := D.natAbs) (by omega) (by omega) hg e
  have eD : D = d * k := by
    have := congrArg (Nat.cast (R := Int)) e2
    rw [Int.natCast_mul, Int.natAbs_of_nonneg (by omega), Int.natAbs_of_nonneg (by omega)] at this
    exact this
  refine ⟨k, by omega, ?_, eD, by rw [Int.gcd]; omega⟩
  rw [eD, Int.mul_comm d, ← Int.mul_assoc] at h
  exact (Int.eq_of_mul_eq_mul_right (by omega) h).symm
/-- lowest terms are one pair alone -/
theorem red_one {n d N D : Int} (hd : 0 < d) (hD : 0 < D) (hg : Int.gcd n d = 1) (h : n * D = N * d) : rn N D = n ∧ rd N D = d := by
  obtain ⟨k, hk, e1, e2, e3⟩ := int_low hd hD hg h
  unfold rn rd
  rw [e3, e1, e2]
  exact ⟨Int.mul_ediv_cancel _ (by omega), Int.mul_ediv_cancel _ (by omega)⟩
theorem red_spec {N D : Int} (hD : 0 < D) : 0 < rd N D ∧ Int.gcd (rn N D) (rd N D) = 1 ∧ rn N D * D = N * rd N D := by
  have hg : 0 < Int.gcd N D := Int.gcd_pos_of_ne_zero_right _ (by omega)
  obtain ⟨a, ha⟩ := Int.gcd_dvd_left N D
  obtain ⟨b, hb⟩ := Int.gcd_dvd_right N D
  obtain ⟨g, eg⟩ : ∃ g : Int, g = (Int.gcd N D : Int) := ⟨_, rfl⟩
  have hg' : 0 < g := by omega
  rw [← eg] at ha hb
  have e1 : rn N D = a := by
    unfold rn
    rw [← eg]
    conv => lhs; rw [ha]
    exact Int.mul_ediv_cancel_left _ (by omega)
  have e2 : rd N D = b := by
    unfold rd
    rw [← eg]
    conv => lhs; rw [hb]
    exact Int.mul_ediv_cancel_left _ (by omega)
  rw [e1, e2]
  refine ⟨?_, ?_, ?_⟩
  · rcases Int.lt_trichotomy b 0 with h | h | h
    · have := Int.mul_neg_of_pos_of_neg hg' h
      omega
    · rw [h, Int.mul_zero] at hb
      omega
    · exact h
  · have h3 : Int.gcd (g * a) (g * b) = g.natAbs * Int.gcd a b := Int.gcd_mul_left ..
    rw [← ha, ← hb] at h3
    have h4 : g.natAbs * 1 = g.natAbs * Int.gcd a b := by rw [← h3]; omega
    exact (Nat.eq_of_mul_eq_mul_left (by omega) h4).symm
  · conv => lhs; rw [hb]
    conv => rhs; rw [ha]
    rw [Int.mul_left_comm, Int.mul_assoc]
/-! ### products -/
/-! ### sums -/
theorem cop_sum {x y : Int} {A B : Nat} (hAB : Nat.gcd A B = 1) (hy : Nat.gcd y.natAbs A = 1) : Nat.gcd (x * A + y * B).natAbs A = 1 := by
  have h1 := Nat.gcd_dvd_left (x * A + y * B).natAbs A
  have h2 := Nat.gcd_dvd_right (x * A + y * B).natAbs A
  generalize Nat.gcd (x * A + y * B).natAbs A = g at h1 h2
  have h3 : (g : Int) ∣ x * A + y * B := Int.ofNat_dvd_left.2 h1
  have h4 : (g : Int) ∣ x * A := Int.dvd_trans (Int.natCast_dvd_natCast.2 h2) (Int.dvd_mul_left _ _)
  have h5 : (g : Int) ∣ y * B := (Int.dvd_iff_dvd_of_dvd_add h3).1 h4
  have h6 : g ∣ y.natAbs * B := by
    have := Int.ofNat_dvd_left.1 h5
    rwa [Int.natAbs_mul, Int.natAbs_natCast] at this
  have h7 : Nat.gcd (y.natAbs * B) A = 1 := Nat.Coprime.mul_left hy (Nat.Coprime.symm hAB)
  exact Nat.eq_one_of_dvd_one (h7 ▸ Nat.dvd_gcd h6 h2)
theorem plus_low {x y : Int} {pd qd c L : Nat} (hc : Nat.gcd pd qd = c) (hL : Nat.gcd (x * (qd / c : Nat) + y * (pd / c : Nat)).natAbs c = L) (hp : Nat.gcd x.natAbs pd = 1) (hq : Nat.gcd y.natAbs qd = 1) (h1 : 0 < pd) (h2 : 0 < qd) :
    Nat.gcd ((x * (qd / c : Nat) + y * (pd / c : Nat)).natAbs / L) ((pd / c) * (qd / L)) = 1
    ∧ (x * (qd / c : Nat) + y * (pd / c : Nat)) / (L : Int) * ((pd : Int) * qd) = (x * qd + y * pd) * (((pd / c) * (qd / L) : Nat) : Int)
    ∧ 0 < (pd / c) * (qd / L) ∧ 0 < L ∧ 0 < c ∧ (L : Int) ∣ (x * (qd / c : Nat) + y * (pd / c : Nat)) := by
  have c0 : 0 < c := by rw [← hc]; exact Nat.gcd_pos_of_pos_left _ h1
  have ca : c ∣ pd := by rw [← hc]; exact Nat.gcd_dvd_left pd qd
  have cb : c ∣ qd := by rw [← hc]; exact Nat.gcd_dvd_right pd qd
  have cc : Nat.gcd (pd / c) (qd / c) = 1 := by
    have := Nat.coprime_div_gcd_div_gcd (m := pd) (n := qd) (by rw [hc]; exact c0)
    rwa [hc] at this
  obtain ⟨B, rfl⟩ := ca
  obtain ⟨A, rfl⟩ := cb
  rw [Nat.mul_div_cancel_left _ c0] at *
  rw [Nat.mul_div_cancel_left _ c0] at *
  have a1 : Nat.gcd x.natAbs B = 1 := Nat.Coprime.coprime_mul_left_right (k := c) hp
  have a2 : Nat.gcd y.natAbs A = 1 := Nat.Coprime.coprime_mul_left_right (k := c) hq
  have n1 := cop_sum (x := x) (y := y) (A := A) (B := B) (Nat.Coprime.symm cc) a2
  have n2 := cop_sum (x := y) (y := x) (A := B) (B := A) cc a1
  rw [Int.add_comm] at n2
  obtain ⟨N, hN⟩ : ∃ N : Int, N = x * A + y * B := ⟨_, rfl⟩
  rw [← hN] at n1 n2 hL ⊢
  have L0 : 0 < L := by rw [← hL]; exact Nat.gcd_pos_of_pos_right _ c0
  have la : L ∣ N.natAbs := by rw [← hL]; exact Nat.gcd_dvd_left _ _
  have lb : L ∣ c := by rw [← hL]; exact Nat.gcd_dvd_right _ _
  have lc : Nat.gcd (N.natAbs / L) (c / L) = 1 := by
    have := Nat.coprime_div_gcd_div_gcd (m := N.natAbs) (n := c) (by rw [hL]; exact L0)
    rwa [hL] at this
  have n3 : Nat.gcd (N.natAbs / L) A = 1 := Nat.Coprime.coprime_div_left n1 la
  have n4 : Nat.gcd (N.natAbs / L) B = 1 := Nat.Coprime.coprime_div_left n2 la
  have li : (L : Int) ∣ N := Int.ofNat_dvd_left.2 la
  obtain ⟨m, rfl⟩ := lb
  rw [Nat.mul_div_cancel_left _ L0] at lc
  have e : L * m * A / L = m * A := by rw [Nat.mul_assoc]; exact Nat.mul_div_cancel_left _ L0
  rw [e]
  have B0 : 0 < B := Nat.pos_of_mul_pos_left h1
  have A0 : 0 < A := Nat.pos_of_mul_pos_left h2
  have m0 : 0 < m := Nat.pos_of_mul_pos_left c0
  refine ⟨Nat.Coprime.mul_right n4 (Nat.Coprime.mul_right lc n3), ?_, Nat.mul_pos B0 (Nat.mul_pos m0 A0), L0, c0, li⟩
  obtain ⟨T, hT⟩ := li
  have e2 : N / (L : Int) = T := by rw [hT]; exact Int.mul_ediv_cancel_left _ (by omega)
  rw [e2]
  have e3 : x * ((L * m * A : Nat) : Int) + y * ((L * m * B : Nat) : Int) = (L * m : Nat) * (L * T) := by
    rw [← hT, hN]
    simp only [Int.natCast_mul, Int.mul_add, Int.mul_left_comm]
  rw [e3]
  simp only [Int.natCast_mul]
  ac_rfl
end Go.Proofs.Ytdgmndjofbdgeaa

namespace Go.Proofs.Ytdgmndjofbdgeaa
open Go.RowKit
set_option linter.unusedVariables false

/-- the greatest whole number that is not above a / b -/
def fl (a b : Int) : Int := if 0 < b then a / b else (-a) / (-b)
/-- the least whole number that is not below a / b -/
def ce (a b : Int) : Int := -(fl (-a) b)
/-! ### the walks -/
end Go.Proofs.Ytdgmndjofbdgeaa
