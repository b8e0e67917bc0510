/- Plain numbers: cycles that are allowed, and the cycle that the formula asks for. No program is met here. -/
import Derived.Test.YtjibbekojbaopaaDMath
import Derived.Test.YtjibbekojbaopaaWholeQ
namespace Go.Proofs.Ytjibbekojbaopaa
open Go.RowKit
set_option linter.unusedVariables false
set_option linter.unusedSimpArgs false
namespace Wb
open W
/-! ### cycles that are allowed -/
/-- may there be cycles? -/
def okC (mn mx st : Int) : Prop := 1 ≤ mn ∧ mn ≤ mx ∧ mx ≤ 6000 ∧ 1 ≤ st
instance (mn mx st : Int) : Decidable (okC mn mx st) := by unfold okC; infer_instance
def cnt (mn mx st : Int) : Int := if okC mn mx st then (mx - mn) / st + 1 else 0
/-- the greatest one -/
def gtC (mn mx st : Int) : Int := mn + (mx - mn) / st * st
def alw (mn mx st c : Int) : Int × Bool :=
  if okC mn mx st then (if gtC mn mx st < c then (gtC mn mx st, false) else (mn + ce ((if c < mn then mn else c) - mn) st * st, true)) else (0, false)
theorem ce_spec {a b : Int} (hb : 0 < b) : a ≤ ce a b * b ∧ ce a b * b < a + b := by
  unfold ce fl
  rw [if_pos hb]
  have h1 := Int.emod_add_mul_ediv (-a) b
  have h2 := Int.emod_nonneg (-a) (show b ≠ 0 by omega)
  have h3 := Int.emod_lt_of_pos (-a) hb
  rw [Int.neg_mul, Int.mul_comm]
  omega
theorem div_spec {a b : Int} (hb : 0 < b) : a / b * b ≤ a ∧ a < a / b * b + b := by
  have h1 := Int.emod_add_mul_ediv a b
  have h2 := Int.emod_nonneg a (show b ≠ 0 by omega)
  have h3 := Int.emod_lt_of_pos a hb
  rw [Int.mul_comm]
  omega
/-- two multiples that are nearer than one are the same -/
theorem mult_one {k q s : Int} (hs : 0 < s) (h1 : k * s < q * s + s) (h2 : q * s < k * s + s) : k = q := by
  have a1 : k * s < (q + 1) * s := by rw [Int.add_mul]; omega
  have a2 : q * s < (k + 1) * s := by rw [Int.add_mul]; omega
  have b1 := Int.lt_of_mul_lt_mul_right a1 (by omega)
  have b2 := Int.lt_of_mul_lt_mul_right a2 (by omega)
  omega
theorem mult_lt {k q s : Int} (hs : 0 < s) (h1 : k * s < q * s + s) : k ≤ q := by
  have a1 : k * s < (q + 1) * s := by rw [Int.add_mul]; omega
  have b1 := Int.lt_of_mul_lt_mul_right a1 (by omega)
  omega
theorem gt_le {mn mx st : Int} (h : okC mn mx st) : mn ≤ gtC mn mx st ∧ gtC mn mx st ≤ mx ∧ mx < gtC mn mx st + st := by
  obtain ⟨h1, h2, h3, h4⟩ := h
  have d := div_spec (a := mx - mn) (b := st) (by omega)
  have z : 0 ≤ (mx - mn) / st * st := Int.mul_nonneg (Int.ediv_nonneg (by omega) (by omega)) (by omega)
  unfold gtC
  omega
theorem mx_of (c mn : Int) : ∃ x, (if c < mn then mn else c) = x ∧ mn ≤ x ∧ c ≤ x ∧ ((c < mn ∧ x = mn) ∨ (¬ c < mn ∧ x = c)) := by
  by_cases h : c < mn
  · exact ⟨mn, if_pos h, by omega, by omega, .inl ⟨h, rfl⟩⟩
  · exact ⟨c, if_neg h, by omega, by omega, .inr ⟨h, rfl⟩⟩
theorem alw_yes {mn mx st c : Int} (h : okC mn mx st) (hc : ¬ gtC mn mx st < c) : alw mn mx st c = (mn + ce ((if c < mn then mn else c) - mn) st * st, true) := by
  unfold alw; rw [if_pos h, if_neg hc]
theorem alw_no {mn mx st c : Int} (h : okC mn mx st) (hc : gtC mn mx st < c) : alw mn mx st c = (gtC mn mx st, false) := by
  unfold alw; rw [if_pos h, if_pos hc]
theorem alw_none {mn mx st c : Int} (h : ¬ okC mn mx st) : alw mn mx st c = (0, false) := by unfold alw; rw [if_neg h]
/-- where a count from the least one on ends -/
theorem cnt_end {mn mx st k : Int} (h : okC mn mx st) (h1 : mn + k * st ≤ mx) (h2 : mx - (mn + k * st) < st) : cnt mn mx st = k + 1 := by
  unfold cnt
  rw [if_pos h]
  obtain ⟨g1, g2, g3, g4⟩ := h
  have d := div_spec (a := mx - mn) (b := st) (by omega)
  rw [mult_one (k := (mx - mn) / st) (q := k) (s := st) (by omega) (by omega) (by omega)]
theorem alw_end {mn mx st k c : Int} (h : okC mn mx st) (h0 : 0 ≤ k) (h1 : mn + k * st ≤ mx) (h2 : k = 0 ∨ mn + k * st - st < c) (h3 : c ≤ mn + k * st ∨ mx - (mn + k * st) < st) : alw mn mx st c = (mn + k * st, decide (c ≤ mn + k * st)) := by
  have g := gt_le h
  have h' := h
  obtain ⟨g1, g2, g3, g4⟩ := h'
  have d := div_spec (a := mx - mn) (b := st) (by omega)
  have e : mx - (mn + k * st) < st → gtC mn mx st = mn + k * st := by
    intro hl
    unfold gtC
    rw [mult_one (k := (mx - mn) / st) (q := k) (s := st) (by omega) (by omega) (by omega)]
  by_cases hc : c ≤ mn + k * st
  · have hkq : k ≤ (mx - mn) / st := mult_lt (s := st) (by omega) (by omega)
    have hkm : k * st ≤ (mx - mn) / st * st := Int.mul_le_mul_of_nonneg_right hkq (by omega)
    rw [alw_yes h (by unfold gtC; omega), decide_eq_true hc]
    obtain ⟨x, ex, x1, x2, x3⟩ := mx_of c mn
    rw [ex]
    have cs := ce_spec (a := x - mn) (b := st) (by omega)
    have kz : 0 ≤ k * st := Int.mul_nonneg h0 (by omega)
    rw [mult_one (k := ce (x - mn) st) (q := k) (s := st) (by omega) ?_ ?_]
    · omega
    · rcases h2 with h2 | h2
      · subst h2
        simp only [Int.zero_mul] at *
        omega
      · omega
  · have hl : mx - (mn + k * st) < st := by omega
    rw [alw_no h (by rw [e hl]; omega), decide_eq_false hc, e hl]
/-- what is told is between the bounds, a number of steps above the least one, and told again -/
theorem alw_in {mn mx st c : Int} (h : okC mn mx st) : ∃ k, 0 ≤ k ∧ (alw mn mx st c).1 = mn + k * st ∧ mn + k * st ≤ mx ∧ (alw mn mx st c).2 = decide (c ≤ mn + k * st) ∧ (c ≤ mn + k * st → k = 0 ∨ mn + k * st - st < c) ∧ (¬ c ≤ mn + k * st → mx - (mn + k * st) < st) := by
  have g := gt_le h
  have h' := h
  obtain ⟨g1, g2, g3, g4⟩ := h'
  by_cases hc : gtC mn mx st < c
  · rw [alw_no h hc]
    refine ⟨(mx - mn) / st, Int.ediv_nonneg (by omega) (by omega), rfl, ?_, ?_, ?_, ?_⟩
    · exact g.2.1
    · exact (decide_eq_false (by unfold gtC at hc; omega)).symm
    · intro h5; unfold gtC at hc; omega
    · intro _; unfold gtC at g; omega
  · rw [alw_yes h hc]
    obtain ⟨x, ex, x1, x2, x3⟩ := mx_of c mn
    rw [ex]
    have cs := ce_spec (a := x - mn) (b := st) (by omega)
    have d := div_spec (a := mx - mn) (b := st) (by omega)
    unfold gtC at hc g
    have hz : 0 ≤ ce (x - mn) st := by
      have : -1 * st < ce (x - mn) st * st := by omega
      have := Int.lt_of_mul_lt_mul_right this (by omega)
      omega
    have hq : ce (x - mn) st ≤ (mx - mn) / st := mult_lt (s := st) (by omega) (by omega)
    have hm : ce (x - mn) st * st ≤ (mx - mn) / st * st := Int.mul_le_mul_of_nonneg_right hq (by omega)
    refine ⟨ce (x - mn) st, hz, rfl, ?_, ?_, ?_, ?_⟩
    · omega
    · exact (decide_eq_true (by omega)).symm
    · intro _
      by_cases hcm : c < mn
      · left
        refine mult_one (s := st) (by omega) (by omega) (by omega)
      · right
        omega
    · intro h5; omega
/-- what is told is told again -/
theorem alw_again {mn mx st c : Int} (h : okC mn mx st) : alw mn mx st (alw mn mx st c).1 = ((alw mn mx st c).1, true) := by
  obtain ⟨k, k0, e1, h1, e2, _, _⟩ := alw_in (c := c) h
  rw [e1]
  have h' := h
  obtain ⟨g1, g2, g3, g4⟩ := h'
  rw [alw_end h k0 h1 (.inr (by omega)) (.inl (by omega))]
  simp
/-! ### the cycle that the formula asks for -/
def subF (a b c d : Int) : A3 := low (cn a b * cd c d + -cn c d * cd a b) (cd a b * cd c d)
def dvC (lost n d : Int) : A3 := divF (ofF (3 * lost + 100) 2).1 (ofF (3 * lost + 100) 2).2.1 (subF 1 1 n d).1 (subF 1 1 n d).2.1
/-- may these be asked? -/
def okY (lost n d : Int) : Prop := 0 ≤ lost ∧ lost ≤ 600000 ∧ 0 ≤ n ∧ rt n d = true
instance (lost n d : Int) : Decidable (okY lost n d) := by unfold okY; infer_instance
def cyC (lost n d : Int) : Int := if okY lost n d ∧ n < d ∧ (dvC lost n d).2.2 = 0 then ceA (cn (dvC lost n d).1 (dvC lost n d).2.1) (cd (dvC lost n d).1 (dvC lost n d).2.1) else 0
def cyB (lost n d : Int) : Bool := decide (okY lost n d ∧ n < d ∧ (dvC lost n d).2.2 = 0)
def cyE (lost n d : Int) : Int := if okY lost n d then (if n < d then (dvC lost n d).2.2 else 0) else 1
theorem rt11 : Rt 1 1 := ⟨by omega, by decide, by omega, by omega, by omega⟩
theorem gcd_less {n d : Int} (h : Int.gcd n d = 1) : Int.gcd (d - n) d = 1 := by
  have h1 : ((Int.gcd (d - n) d : Nat) : Int) ∣ n := by
    have a1 : ((Int.gcd (d - n) d : Nat) : Int) ∣ d - n := Int.gcd_dvd_left ..
    have a2 : ((Int.gcd (d - n) d : Nat) : Int) ∣ d := Int.gcd_dvd_right ..
    have := Int.dvd_sub a2 a1
    rwa [show d - (d - n) = n by omega] at this
  have h2 : ((Int.gcd (d - n) d : Nat) : Int) ∣ d := Int.gcd_dvd_right ..
  have h3 := Int.dvd_coe_gcd h1 h2
  rw [h] at h3
  have := Int.eq_one_of_dvd_one (by omega) h3
  omega
/-- a right sum below 1 leaves a right fraction -/
theorem left_rt {n d : Int} (hr : Rt n d) (h0 : 0 ≤ n) (h : n < d) : Rt (d - n) d := by
  obtain ⟨r1, r2, r3, r4, r5⟩ := hr
  exact ⟨r1, gcd_less r2, by omega, by omega, r5⟩
theorem sub_left {n d : Int} (hr : Rt n d) (h0 : 0 ≤ n) (h : n < d) : subF 1 1 n d = (d - n, d, 0) := by
  unfold subF
  rw [rt11.cn, rt11.cd, hr.cn, hr.cd]
  refine low_of (by have := hr.1; omega) (left_rt hr h0 h) ?_
  rw [Int.one_mul, Int.mul_one, show d + -n = d - n by omega]
theorem of_left {n d : Int} (hr : Rt n d) (h0 : 0 ≤ n) (h : n < d) : ofF (d - n) d = (d - n, d, 0) := by
  have r1 := hr.1
  unfold ofF
  rw [if_neg (by omega), decide_eq_false (by omega)]
  refine low_of (by omega) (left_rt hr h0 h) ?_
  rw [show ((d.natAbs : Nat) : Int) = d by omega]
  simp [sgn]
theorem of_two {N : Int} (h0 : 0 ≤ N) (h : N ≤ 9223372036854775807) : (ofF N 2).2.2 = 0 ∧ Rt (ofF N 2).1 (ofF N 2).2.1 ∧ (ofF N 2).1 * 2 = N * (ofF N 2).2.1 := by
  have e : ofF N 2 = low N 2 := by
    unfold ofF
    rw [if_neg (by omega), decide_eq_false (by omega)]
    simp [sgn]
  obtain ⟨s1, s2, s3⟩ := red_spec (N := N) (D := 2) (by omega)
  have hg : (Int.gcd N 2 : Int) ≤ 2 ∧ 1 ≤ (Int.gcd N 2 : Int) := by
    have h1 : Int.gcd N 2 ≤ 2 := Nat.le_of_dvd (by omega) (Nat.gcd_dvd_right _ _)
    have h2 : 0 < Int.gcd N 2 := Int.gcd_pos_of_ne_zero_right _ (by omega)
    omega
  have b1 : 0 ≤ rn N 2 ∧ rn N 2 ≤ N := by
    unfold rn
    constructor
    · exact Int.ediv_nonneg h0 (by omega)
    · exact Int.ediv_le_self _ h0
  have b2 : rd N 2 ≤ 2 := by unfold rd; exact Int.ediv_le_self _ (by omega)
  have e2 : low N 2 = (rn N 2, rd N 2, 0) := by
    unfold low
    obtain ⟨a, b, c⟩ := pair_yes (n := rn N 2) (d := rd N 2) (fit_yes (by omega) (by omega)) (fit_yes (by omega) (by omega))
    rw [a, b, c]
  rw [e, e2]
  exact ⟨rfl, ⟨by show 1 ≤ rd N 2; omega, s2, by show -9223372036854775808 ≤ rn N 2; omega, by show rn N 2 ≤ 9223372036854775807; omega, by show rd N 2 ≤ 9223372036854775807; omega⟩, s3⟩
/-- the quotient, where it fits: what it is worth -/
theorem dv_val {lost n d : Int} (h : okY lost n d) (hr : Rt n d) (hl : n < d) (he : (dvC lost n d).2.2 = 0) :
    Rt (dvC lost n d).1 (dvC lost n d).2.1 ∧ (dvC lost n d).1 * ((ofF (3 * lost + 100) 2).2.1 * (d - n)) = (ofF (3 * lost + 100) 2).1 * d * (dvC lost n d).2.1 := by
  obtain ⟨l0, l1, n0, r0⟩ := h
  have es := sub_left hr n0 hl
  obtain ⟨w0, wr, wv⟩ := of_two (N := 3 * lost + 100) (by omega) (by omega)
  have lr := left_rt hr n0 hl
  have hd : 0 < d := by have := hr.1; omega
  have e : dvC lost n d = low ((ofF (3 * lost + 100) 2).1 * d) ((ofF (3 * lost + 100) 2).2.1 * (d - n)) := by
    unfold dvC divF
    rw [es]
    simp only []
    rw [lr.cn, if_neg (by omega), wr.cn, wr.cd, lr.cd, decide_eq_false (by omega), show (((d - n).natAbs : Nat) : Int) = d - n by omega]
    simp [sgn]
  have hp : 0 < (ofF (3 * lost + 100) 2).2.1 * (d - n) := Int.mul_pos (by have := wr.1; omega) (by omega)
  rw [e] at he ⊢
  refine ⟨?_, low_val hp he⟩
  rcases low_ok (N := (ofF (3 * lost + 100) 2).1 * d) hp with ⟨_, h⟩ | ⟨h, _⟩
  · exact h
  · exact absurd he h
theorem sub_err {n d : Int} (hr : Rt n d) (h0 : 0 ≤ n) (h : n < d) : (subF 1 1 n d).2.2 = 0 := by rw [sub_left hr h0 h]
/-- the cycle is not below the quotient, one less is -/
theorem cyc_least {lost n d : Int} (h : okY lost n d) (hr : Rt n d) (hl : n < d) (he : (dvC lost n d).2.2 = 0) :
    1 ≤ cyC lost n d ∧ cyC lost n d ≤ 9223372036854775807 ∧ (ofF (3 * lost + 100) 2).1 * d ≤ cyC lost n d * ((ofF (3 * lost + 100) 2).2.1 * (d - n)) ∧ (cyC lost n d - 1) * ((ofF (3 * lost + 100) 2).2.1 * (d - n)) < (ofF (3 * lost + 100) 2).1 * d := by
  obtain ⟨vr, vv⟩ := dv_val h hr hl he
  obtain ⟨w0, wr, wv⟩ := of_two (N := 3 * lost + 100) (by have := h.1; omega) (by have := h.2.1; omega)
  unfold cyC
  rw [if_pos ⟨h, hl, he⟩, vr.cn, vr.cd]
  have hv : 0 < (dvC lost n d).2.1 := by have := vr.1; omega
  have ec : ceA (dvC lost n d).1 (dvC lost n d).2.1 = ce (dvC lost n d).1 (dvC lost n d).2.1 := by
    unfold ceA
    rw [if_pos (qe_ok (by omega) (by omega))]
  rw [ec]
  obtain ⟨c1, c2⟩ := ce_spec (a := (dvC lost n d).1) hv
  generalize ce (dvC lost n d).1 (dvC lost n d).2.1 = c at *
  have v2 := vr.2.2.2.1
  generalize (dvC lost n d).1 = x at *
  generalize (dvC lost n d).2.1 = y at *
  have hw : 0 < (ofF (3 * lost + 100) 2).1 := by
    have h5 : 0 < (ofF (3 * lost + 100) 2).1 * 2 := by
      rw [wv]
      exact Int.mul_pos (by have := h.1; omega) (by have := wr.1; omega)
    omega
  generalize (ofF (3 * lost + 100) 2).1 = p at *
  have hq : 0 < (ofF (3 * lost + 100) 2).2.1 := by have := wr.1; omega
  generalize (ofF (3 * lost + 100) 2).2.1 = q at *
  have hm : 0 < q * (d - n) := Int.mul_pos hq (by omega)
  generalize q * (d - n) = m at *
  have hd : 0 < d := by have := hr.1; omega
  have hpd : 0 < p * d := Int.mul_pos hw hd
  generalize p * d = t at *
  have hx : 0 < x := by
    have h1 : 0 * m < x * m := by rw [vv, Int.zero_mul]; exact Int.mul_pos hpd hv
    exact Int.lt_of_mul_lt_mul_right h1 (by omega)
  have hc1 : 1 ≤ c := by
    have h1 : 0 * y < c * y := by rw [Int.zero_mul]; omega
    have := Int.lt_of_mul_lt_mul_right h1 (by omega)
    omega
  have hcx : c ≤ x := by
    have h1 : (c - 1) * y < x * 1 := by rw [Int.sub_mul]; omega
    have h2 : (c - 1) * 1 ≤ (c - 1) * y := Int.mul_le_mul_of_nonneg_left (by omega) (by omega)
    omega
  refine ⟨hc1, by omega, ?_, ?_⟩
  · have h1 : x * m ≤ c * y * m := Int.mul_le_mul_of_nonneg_right c1 (by omega)
    rw [vv] at h1
    have h2 : t * y ≤ c * m * y := by rw [Int.mul_assoc, Int.mul_comm m y, ← Int.mul_assoc]; exact h1
    exact Int.le_of_mul_le_mul_right h2 hv
  · have h1 : (c - 1) * y * m < x * m := Int.mul_lt_mul_of_pos_right (by rw [Int.sub_mul]; omega) hm
    rw [vv] at h1
    have h2 : (c - 1) * m * y < t * y := by rw [Int.mul_assoc, Int.mul_comm m y, ← Int.mul_assoc]; exact h1
    exact Int.lt_of_mul_lt_mul_right h2 (by omega)
/-- a product with what is left, held against what is wanted -/
theorem mul_left {n d c : Int} (hr : Rt n d) (h0 : 0 ≤ n) (hl : n < d) (hc : i64 c) (he : (mulF (d - n) d c 1).2.2 = 0) :
    Rt (mulF (d - n) d c 1).1 (mulF (d - n) d c 1).2.1 ∧ (mulF (d - n) d c 1).1 * d = (d - n) * c * (mulF (d - n) d c 1).2.1 := by
  have lr := left_rt hr h0 hl
  have cr := rt_one hc
  have hd : 0 < d := by have := hr.1; omega
  have e : mulF (d - n) d c 1 = low ((d - n) * c) d := by
    unfold mulF
    rw [lr.cn, lr.cd, cr.cn, cr.cd, Int.mul_one]
  rw [e] at he ⊢
  refine ⟨?_, low_val hd he⟩
  rcases low_ok (N := (d - n) * c) hd with ⟨_, h⟩ | ⟨h, _⟩
  · exact h
  · exact absurd he h
theorem held_ge {n d c p q a b : Int} (hd : 0 < d) (hb : 0 < b) (hv : a * d = (d - n) * c * b) (h : p * d ≤ c * (q * (d - n))) : p * b ≤ a * q := by
  have h1 : p * d * b ≤ c * (q * (d - n)) * b := Int.mul_le_mul_of_nonneg_right h (by omega)
  have h2 : p * b * d ≤ a * q * d := by
    calc p * b * d = p * d * b := by simp only [Int.mul_assoc, Int.mul_comm, Int.mul_left_comm]
      _ ≤ c * (q * (d - n)) * b := h1
      _ = ((d - n) * c * b) * q := by simp only [Int.mul_assoc, Int.mul_comm, Int.mul_left_comm]
      _ = a * d * q := by rw [hv]
      _ = a * q * d := by simp only [Int.mul_assoc, Int.mul_comm, Int.mul_left_comm]
  exact Int.le_of_mul_le_mul_right h2 hd
theorem held_lt {n d c p q a b : Int} (hd : 0 < d) (hb : 0 < b) (hv : a * d = (d - n) * c * b) (h : c * (q * (d - n)) < p * d) : a * q < p * b := by
  have h1 : c * (q * (d - n)) * b < p * d * b := Int.mul_lt_mul_of_pos_right h hb
  have h2 : a * q * d < p * b * d := by
    calc a * q * d = a * d * q := by simp only [Int.mul_assoc, Int.mul_comm, Int.mul_left_comm]
      _ = ((d - n) * c * b) * q := by rw [hv]
      _ = c * (q * (d - n)) * b := by simp only [Int.mul_assoc, Int.mul_comm, Int.mul_left_comm]
      _ < p * d * b := h1
      _ = p * b * d := by simp only [Int.mul_assoc, Int.mul_comm, Int.mul_left_comm]
  exact Int.lt_of_mul_lt_mul_right h2 (by omega)
end Wb
end Go.Proofs.Ytjibbekojbaopaa
