/- Plain numbers: volumes as they count, and flow ratios, step by step; fractions rounded. No program is met here. -/
import Derived.Test.YtjibbekojbaopaaFracC
namespace Go.Proofs.Ytjibbekojbaopaa
open Go.RowKit
set_option linter.unusedVariables false
set_option linter.unusedSimpArgs false
namespace W
/-- an answer: two numbers and an error -/
abbrev A3 := Int × Int × Int
def i64 (n : Int) : Prop := -9223372036854775808 ≤ n ∧ n ≤ 9223372036854775807
def low (N D : Int) : A3 := (pN (rn N D) (rd N D), pD (rn N D) (rd N D), pE (rn N D) (rd N D))
def ofF (n d : Int) : A3 := if d = 0 then (0, 0, 3) else low (sgn (decide (d < 0)) n) (d.natAbs : Int)
def mulF (a b c d : Int) : A3 := low (cn a b * cn c d) (cd a b * cd c d)
def divF (a b c d : Int) : A3 := if cn c d = 0 then (0, 0, 3) else low (cn a b * sgn (decide (cn c d < 0)) (cd c d)) (cd a b * ((cn c d).natAbs : Int))
/-- an operation with two numbers of a fraction that need not be in lowest terms -/
def aftF (op : Int → Int → Int → Int → A3) (a b n d : Int) : A3 := if (ofF n d).2.2 = 0 then op a b (ofF n d).1 (ofF n d).2.1 else (0, 0, (ofF n d).2.2)
def stpF (op : Int → Int → Int → Int → A3) (s : A3) (n d : Int) : A3 := if s.2.2 = 0 then aftF op s.1 s.2.1 n d else s
def volF (v un ud pn pd : Int) : A3 := stpF divF (stpF mulF (stpF mulF (1, 1, 0) un ud) v 1) pn pd
def ratF (v s un ud pn pd : Int) : A3 := stpF divF (volF v un ud pn pd) s 1
/-- an answer that is right, or zeros beside an error -/
def Ok (a : A3) : Prop := (a.2.2 = 0 ∧ Rt a.1 a.2.1) ∨ (¬ a.2.2 = 0 ∧ a.1 = 0 ∧ a.2.1 = 0 ∧ 0 ≤ a.2.2 ∧ a.2.2 ≤ 3)
theorem Ok.zero {a : A3} (h : Ok a) (he : ¬ a.2.2 = 0) : a = (0, 0, a.2.2) := by
  rcases h with ⟨h, _⟩ | ⟨_, h1, h2, _⟩
  · exact absurd h he
  · obtain ⟨x, y, z⟩ := a; simp only at h1 h2 ⊢; rw [h1, h2]
theorem low_ok {N D : Int} (hD : 0 < D) : Ok (low N D) := by
  obtain ⟨s1, s2, s3⟩ := red_spec (N := N) hD
  unfold Ok low
  by_cases h : fit (rn N D) = true ∧ fit (rd N D) = true
  · obtain ⟨e1, e2, e3⟩ := pair_yes h.1 h.2
    have f1 := h.1
    have f2 := h.2
    simp only [fit, decide_eq_true_eq] at f1 f2
    exact .inl ⟨e3, by show Rt (pN _ _) (pD _ _); rw [e1, e2]; exact ⟨by omega, s2, f1.1, f1.2, f2.2⟩⟩
  · have h' : fit (rn N D) = false ∨ fit (rd N D) = false := by
      cases h1 : fit (rn N D) <;> cases h2 : fit (rd N D) <;> simp_all
    obtain ⟨e1, e2, e3⟩ := pair_no h'
    refine .inr ⟨?_, e1, e2, ?_, ?_⟩
    · show ¬ pE _ _ = 0
      omega
    · show 0 ≤ pE _ _
      omega
    · show pE _ _ ≤ 3
      omega
theorem low_val {N D : Int} (hD : 0 < D) (h : (low N D).2.2 = 0) : (low N D).1 * D = N * (low N D).2.1 := by
  obtain ⟨s1, s2, s3⟩ := red_spec (N := N) hD
  unfold low at h ⊢
  simp only at h ⊢
  by_cases hf : fit (rn N D) = true ∧ fit (rd N D) = true
  · obtain ⟨e1, e2, e3⟩ := pair_yes hf.1 hf.2
    rw [e1, e2]; exact s3
  · have h' : fit (rn N D) = false ∨ fit (rd N D) = false := by
      cases h1 : fit (rn N D) <;> cases h2 : fit (rd N D) <;> simp_all
    obtain ⟨e1, e2, e3⟩ := pair_no h'
    rw [e3] at h; omega
/-- lowest terms of a right fraction's multiple -/
theorem low_of {N D n d : Int} (hD : 0 < D) (hr : Rt n d) (h : n * D = N * d) : low N D = (n, d, 0) := by
  obtain ⟨e1, e2⟩ := red_one (n := n) (d := d) (by have := hr.1; omega) hD hr.2.1 h
  unfold low
  rw [e1, e2]
  obtain ⟨r1, r2, r3, r4, r5⟩ := hr
  obtain ⟨a, b, c⟩ := pair_yes (n := n) (d := d) (fit_yes r3 r4) (fit_yes (by omega) r5)
  rw [a, b, c]
theorem ofF_ok (n d : Int) : Ok (ofF n d) := by
  unfold ofF
  split
  · exact .inr ⟨by simp, rfl, rfl, by simp, by simp⟩
  · exact low_ok (by omega)
theorem cd_pos (n d : Int) : 1 ≤ cd n d := by
  unfold cd
  by_cases h : rt n d = true
  · rw [if_pos h]; simp only [rt, decide_eq_true_eq] at h; exact h.1
  · rw [if_neg h]; omega
theorem mul_pos1 {a b : Int} (h1 : 1 ≤ a) (h2 : 1 ≤ b) : 0 < a * b := Int.mul_pos (by omega) (by omega)
theorem mulF_ok (a b c d : Int) : Ok (mulF a b c d) := low_ok (mul_pos1 (cd_pos _ _) (cd_pos _ _))
theorem divF_ok (a b c d : Int) : Ok (divF a b c d) := by
  unfold divF
  split
  · exact .inr ⟨by simp, rfl, rfl, by simp, by simp⟩
  · exact low_ok (mul_pos1 (cd_pos _ _) (by omega))
theorem aft_ok {op : Int → Int → Int → Int → A3} (ho : ∀ a b c d, Ok (op a b c d)) (a b n d : Int) : Ok (aftF op a b n d) := by
  unfold aftF
  split
  · exact ho _ _ _ _
  · rename_i h
    rw [← (ofF_ok n d).zero h]
    exact ofF_ok n d
theorem stp_ok {op : Int → Int → Int → Int → A3} (ho : ∀ a b c d, Ok (op a b c d)) {s : A3} (hs : Ok s) (n d : Int) : Ok (stpF op s n d) := by
  unfold stpF
  split
  · exact aft_ok ho _ _ _ _
  · exact hs
theorem one_ok : Ok (1, 1, 0) := .inl ⟨rfl, by simp, by decide, by simp, by simp, by simp⟩
theorem vol_ok (v un ud pn pd : Int) : Ok (volF v un ud pn pd) := stp_ok divF_ok (stp_ok mulF_ok (stp_ok mulF_ok one_ok _ _) _ _) _ _
theorem rt_one {v : Int} (h : i64 v) : Rt v 1 := ⟨by omega, by simp, h.1, h.2, by omega⟩
theorem of_one {v : Int} (h : i64 v) : ofF v 1 = (v, 1, 0) := by
  unfold ofF
  rw [if_neg (by omega)]
  exact low_of (by omega) (rt_one h) (by simp [sgn])
theorem mul_one {b d : Int} (h : Rt b d) : mulF 1 1 b d = (b, d, 0) := by
  have r1 : Rt 1 1 := ⟨by omega, by decide, by omega, by omega, by omega⟩
  unfold mulF
  rw [r1.cn, r1.cd, h.cn, h.cd, Int.one_mul, Int.one_mul]
  exact low_of (by have := h.1; omega) h rfl
/-- the document's steps -/
def dvolF (v un ud pn pd : Int) : A3 :=
  if ¬ (ofF un ud).2.2 = 0 then (0, 0, (ofF un ud).2.2) else
  if ¬ (mulF (ofF un ud).1 (ofF un ud).2.1 v 1).2.2 = 0 then (0, 0, (mulF (ofF un ud).1 (ofF un ud).2.1 v 1).2.2) else
  if ¬ (ofF pn pd).2.2 = 0 then (0, 0, (ofF pn pd).2.2) else
  divF (mulF (ofF un ud).1 (ofF un ud).2.1 v 1).1 (mulF (ofF un ud).1 (ofF un ud).2.1 v 1).2.1 (ofF pn pd).1 (ofF pn pd).2.1
def dratF (v s un ud pn pd : Int) : A3 := if ¬ (dvolF v un ud pn pd).2.2 = 0 then (0, 0, (dvolF v un ud pn pd).2.2) else divF (dvolF v un ud pn pd).1 (dvolF v un ud pn pd).2.1 s 1
theorem use_step (un ud : Int) : stpF mulF (1, 1, 0) un ud = ofF un ud := by
  unfold stpF aftF
  simp only [if_true]
  split
  · rename_i h
    rcases ofF_ok un ud with ⟨h0, hr⟩ | ⟨h0, _⟩
    · rw [mul_one hr]
      generalize ofF un ud = q at *
      obtain ⟨x, y, z⟩ := q
      simp only at h ⊢
      rw [h]
    · exact absurd h h0
  · rename_i h
    exact ((ofF_ok un ud).zero h).symm
theorem vol_doc {v un ud pn pd : Int} (hv : i64 v) : volF v un ud pn pd = dvolF v un ud pn pd := by
  unfold volF dvolF
  rw [use_step]
  by_cases h1 : (ofF un ud).2.2 = 0
  · rw [if_neg (by simpa using h1)]
    have e : stpF mulF (ofF un ud) v 1 = mulF (ofF un ud).1 (ofF un ud).2.1 v 1 := by
      unfold stpF aftF
      rw [if_pos h1, of_one hv]
      simp
    rw [e]
    have hm := mulF_ok (ofF un ud).1 (ofF un ud).2.1 v 1
    generalize mulF (ofF un ud).1 (ofF un ud).2.1 v 1 = m at *
    by_cases h2 : m.2.2 = 0
    · rw [if_neg (by simpa using h2)]
      unfold stpF aftF
      rw [if_pos h2]
      by_cases h3 : (ofF pn pd).2.2 = 0
      · rw [if_pos h3, if_neg (by simpa using h3)]
      · rw [if_neg h3, if_pos h3]
    · rw [if_pos h2]
      unfold stpF
      rw [if_neg h2]
      exact hm.zero h2
  · rw [if_pos h1]
    have z := (ofF_ok un ud).zero h1
    have e : stpF mulF (ofF un ud) v 1 = ofF un ud := by unfold stpF; rw [if_neg h1]
    rw [e]
    unfold stpF
    rw [if_neg h1]
    exact z
theorem rat_doc {v s un ud pn pd : Int} (hv : i64 v) (hs : i64 s) : ratF v s un ud pn pd = dratF v s un ud pn pd := by
  unfold ratF dratF
  rw [vol_doc hv]
  have hm : Ok (dvolF v un ud pn pd) := by rw [← vol_doc hv]; exact vol_ok _ _ _ _ _
  generalize dvolF v un ud pn pd = m at *
  by_cases h : m.2.2 = 0
  · rw [if_neg (by simpa using h)]
    unfold stpF aftF
    rw [if_pos h, of_one hs]
    simp
  · rw [if_pos h]
    unfold stpF
    rw [if_neg h]
    exact hm.zero h
/-! ### what an answer is worth -/
/-- the fraction x/y is N/D -/
def Q (x y N D : Int) : Prop := 0 < y ∧ 0 < D ∧ x * D = N * y
theorem Q.mul {x y x1 y1 x2 y2 N1 D1 N2 D2 : Int} (h : Q x y (x1 * x2) (y1 * y2)) (h1 : Q x1 y1 N1 D1) (h2 : Q x2 y2 N2 D2) : Q x y (N1 * N2) (D1 * D2) := by
  obtain ⟨a, b, c⟩ := h
  obtain ⟨a1, b1, c1⟩ := h1
  obtain ⟨a2, b2, c2⟩ := h2
  refine ⟨a, Int.mul_pos b1 b2, ?_⟩
  have e : x * (D1 * D2) * (y1 * y2) = N1 * N2 * y * (y1 * y2) := by
    calc x * (D1 * D2) * (y1 * y2) = (x * (y1 * y2)) * (D1 * D2) := by simp only [Int.mul_assoc, Int.mul_comm, Int.mul_left_comm]
      _ = (x1 * x2 * y) * (D1 * D2) := by rw [c]
      _ = (x1 * D1) * (x2 * D2) * y := by simp only [Int.mul_assoc, Int.mul_comm, Int.mul_left_comm]
      _ = (N1 * y1) * (N2 * y2) * y := by rw [c1, c2]
      _ = N1 * N2 * y * (y1 * y2) := by simp only [Int.mul_assoc, Int.mul_comm, Int.mul_left_comm]
  exact Int.eq_of_mul_eq_mul_right (by omega) e
theorem Q.le {x y x2 y2 N D N2 D2 : Int} (h : Q x y N D) (h2 : Q x2 y2 N2 D2) (hl : N * D2 ≤ N2 * D) : x * y2 ≤ x2 * y := by
  obtain ⟨a, b, c⟩ := h
  obtain ⟨a2, b2, c2⟩ := h2
  have hp : 0 < D * D2 := Int.mul_pos b b2
  refine Int.le_of_mul_le_mul_right (a := D * D2) ?_ hp
  calc x * y2 * (D * D2) = (x * D) * (D2 * y2) := by simp only [Int.mul_assoc, Int.mul_comm, Int.mul_left_comm]
    _ = (N * y) * (D2 * y2) := by rw [c]
    _ = (N * D2) * (y * y2) := by simp only [Int.mul_assoc, Int.mul_comm, Int.mul_left_comm]
    _ ≤ (N2 * D) * (y * y2) := Int.mul_le_mul_of_nonneg_right hl (Int.le_of_lt (Int.mul_pos a a2))
    _ = (N2 * y2) * (y * D) := by simp only [Int.mul_assoc, Int.mul_comm, Int.mul_left_comm]
    _ = (x2 * D2) * (y * D) := by rw [c2]
    _ = x2 * y * (D * D2) := by simp only [Int.mul_assoc, Int.mul_comm, Int.mul_left_comm]
theorem Q.eq {x y x2 y2 N D : Int} (h : Q x y N D) (h2 : Q x2 y2 N D) : x * y2 = x2 * y := by
  have e1 := h.le h2 (Int.le_refl _)
  have e2 := h2.le h (Int.le_refl _)
  omega
/-- sign and size of a divisor: what multiplies in its place -/
theorem Q.inv {x y N D : Int} (h : Q x y N D) (hx : ¬ x = 0) : Q (sgn (decide (x < 0)) y) (x.natAbs : Int) (sgn (decide (N < 0)) D) (N.natAbs : Int) := by
  obtain ⟨a, b, c⟩ := h
  have hN : ¬ N = 0 := by
    intro h0
    rw [h0, Int.zero_mul] at c
    rcases Int.mul_eq_zero.1 c with h | h <;> omega
  have hs : x < 0 ↔ N < 0 := by
    constructor
    · intro hx0
      rcases Int.lt_trichotomy N 0 with h | h | h
      · exact h
      · omega
      · have e1 := Int.mul_pos h a
        have e2 := Int.mul_neg_of_neg_of_pos hx0 b
        omega
    · intro hn0
      rcases Int.lt_trichotomy x 0 with h | h | h
      · exact h
      · omega
      · have e1 := Int.mul_pos h b
        have e2 := Int.mul_neg_of_neg_of_pos hn0 a
        omega
  refine ⟨by omega, by omega, ?_⟩
  by_cases h : x < 0
  · have h' := hs.1 h
    simp only [h, h', decide_true, sgn, if_true]
    rw [show ((N.natAbs : Nat) : Int) = -N by omega, show ((x.natAbs : Nat) : Int) = -x by omega]
    rw [Int.neg_mul, Int.mul_neg, Int.neg_mul, Int.mul_neg, Int.mul_comm y N, ← c, Int.mul_comm x D]
  · have h' : ¬ N < 0 := fun k => h (hs.2 k)
    simp only [h, h', decide_false, sgn, if_false, Bool.false_eq_true]
    rw [show ((N.natAbs : Nat) : Int) = N by omega, show ((x.natAbs : Nat) : Int) = x by omega, Int.mul_comm y N, ← c, Int.mul_comm x D]
theorem low_q {N D : Int} (hD : 0 < D) (h : (low N D).2.2 = 0) : Q (low N D).1 (low N D).2.1 N D := by
  refine ⟨?_, hD, low_val hD h⟩
  rcases low_ok (N := N) hD with ⟨_, hr⟩ | ⟨h0, _⟩
  · have := hr.1; omega
  · exact absurd h h0
theorem of_q {n d : Int} (h : (ofF n d).2.2 = 0) : ¬ d = 0 ∧ Q (ofF n d).1 (ofF n d).2.1 (sgn (decide (d < 0)) n) (d.natAbs : Int) := by
  unfold ofF at h ⊢
  by_cases hd : d = 0
  · rw [if_pos hd] at h; simp at h
  · rw [if_neg hd] at h ⊢
    exact ⟨hd, low_q (by omega) h⟩
theorem rt_of {a : A3} (h : Ok a) (h0 : a.2.2 = 0) : Rt a.1 a.2.1 := by
  rcases h with ⟨_, h⟩ | ⟨h, _⟩
  · exact h
  · exact absurd h0 h
theorem mul_q {a b c d N1 D1 N2 D2 : Int} (r1 : Rt a b) (r2 : Rt c d) (q1 : Q a b N1 D1) (q2 : Q c d N2 D2) (h : (mulF a b c d).2.2 = 0) : Q (mulF a b c d).1 (mulF a b c d).2.1 (N1 * N2) (D1 * D2) := by
  unfold mulF at h ⊢
  rw [r1.cn, r1.cd, r2.cn, r2.cd] at h ⊢
  exact (low_q (Int.mul_pos q1.1 q2.1) h).mul q1 q2
theorem div_q {a b c d N1 D1 N2 D2 : Int} (r1 : Rt a b) (r2 : Rt c d) (q1 : Q a b N1 D1) (q2 : Q c d N2 D2) (h : (divF a b c d).2.2 = 0) : Q (divF a b c d).1 (divF a b c d).2.1 (N1 * sgn (decide (N2 < 0)) D2) (D1 * (N2.natAbs : Int)) := by
  unfold divF at h ⊢
  rw [r1.cn, r1.cd, r2.cn, r2.cd] at h ⊢
  by_cases hc : c = 0
  · rw [if_pos hc] at h; simp at h
  · rw [if_neg hc] at h ⊢
    exact (low_q (Int.mul_pos q1.1 (by omega)) h).mul q1 (q2.inv hc)
theorem one_q (v : Int) : Q v 1 v 1 := ⟨by omega, by omega, rfl⟩
/-- what a volume is worth: some number times it, by another one -/
def KN (un ud pn pd : Int) : Int := sgn (decide (ud < 0)) un * sgn (decide (sgn (decide (pd < 0)) pn < 0)) (pd.natAbs : Int)
def KD (ud pn pd : Int) : Int := (ud.natAbs : Int) * ((sgn (decide (pd < 0)) pn).natAbs : Int)
theorem vol_q {v un ud pn pd : Int} (hv : i64 v) (h : (volF v un ud pn pd).2.2 = 0) : Q (volF v un ud pn pd).1 (volF v un ud pn pd).2.1 (KN un ud pn pd * v) (KD ud pn pd) := by
  rw [vol_doc hv] at h ⊢
  unfold dvolF at h ⊢
  by_cases h1 : (ofF un ud).2.2 = 0
  · rw [if_neg (by simpa using h1)] at h ⊢
    by_cases h2 : (mulF (ofF un ud).1 (ofF un ud).2.1 v 1).2.2 = 0
    · rw [if_neg (by simpa using h2)] at h ⊢
      by_cases h3 : (ofF pn pd).2.2 = 0
      · rw [if_neg (by simpa using h3)] at h ⊢
        obtain ⟨d1, q1⟩ := of_q h1
        obtain ⟨d3, q3⟩ := of_q h3
        have r1 := rt_of (ofF_ok un ud) h1
        have r3 := rt_of (ofF_ok pn pd) h3
        have q2 := mul_q r1 (rt_one hv) q1 (one_q v) h2
        have r2 := rt_of (mulF_ok _ _ _ _) h2
        have q4 := div_q r2 r3 q2 q3 h
        have e1 : KN un ud pn pd * v = sgn (decide (ud < 0)) un * v * sgn (decide (sgn (decide (pd < 0)) pn < 0)) (pd.natAbs : Int) := by unfold KN; rw [Int.mul_right_comm]
        have e2 : KD ud pn pd = (ud.natAbs : Int) * 1 * ((sgn (decide (pd < 0)) pn).natAbs : Int) := by unfold KD; rw [Int.mul_one]
        rw [e1, e2]
        exact q4
      · rw [if_pos h3] at h; exact absurd h h3
    · rw [if_pos h2] at h; exact absurd h h2
  · rw [if_pos h1] at h; exact absurd h h1
theorem rat_vol {v s un ud pn pd : Int} (hv : i64 v) (hs : i64 s) (h : (ratF v s un ud pn pd).2.2 = 0) : (volF v un ud pn pd).2.2 = 0 ∧ ratF v s un ud pn pd = divF (volF v un ud pn pd).1 (volF v un ud pn pd).2.1 s 1 := by
  rw [rat_doc hv hs] at h ⊢
  rw [vol_doc hv]
  unfold dratF at h ⊢
  by_cases h1 : (dvolF v un ud pn pd).2.2 = 0
  · rw [if_neg (by simpa using h1)]; exact ⟨h1, rfl⟩
  · rw [if_pos h1] at h; exact absurd h h1
theorem rat_q {v s un ud pn pd : Int} (hv : i64 v) (hs : i64 s) (h : (ratF v s un ud pn pd).2.2 = 0) : Q (ratF v s un ud pn pd).1 (ratF v s un ud pn pd).2.1 (KN un ud pn pd * v * sgn (decide (s < 0)) 1) (KD ud pn pd * (s.natAbs : Int)) := by
  obtain ⟨h1, e⟩ := rat_vol hv hs h
  rw [e] at h ⊢
  exact div_q (rt_of (vol_ok _ _ _ _ _) h1) (rt_one hs) (vol_q hv h1) (one_q s) h
/-! ### ratios grow with volumes (9.3) -/
theorem kn_pos {un ud pn pd : Int} (h1 : 1 ≤ un) (h2 : 1 ≤ ud) (h3 : 1 ≤ pn) (h4 : 1 ≤ pd) : 0 ≤ KN un ud pn pd := by
  unfold KN
  have e1 : sgn (decide (ud < 0)) un = un := by simp [sgn]; omega
  have e2 : sgn (decide (pd < 0)) pn = pn := by simp [sgn]; omega
  rw [e1, e2]
  have e3 : sgn (decide (pn < 0)) (pd.natAbs : Int) = pd := by simp [sgn]; omega
  rw [e3]
  exact Int.mul_nonneg (by omega) (by omega)
theorem sgn_pos {s : Int} (h : 1 ≤ s) : sgn (decide (s < 0)) 1 = 1 := by simp [sgn]; omega
theorem grows {v s un ud pn pd : Int} (hv : i64 v) (hv2 : i64 (v + 1)) (hs : i64 s) (h1 : 1 ≤ un) (h2 : 1 ≤ ud) (h3 : 1 ≤ pn) (h4 : 1 ≤ pd) (h5 : 1 ≤ s) (ha : (ratF v s un ud pn pd).2.2 = 0) (hb : (ratF (v + 1) s un ud pn pd).2.2 = 0) :
    (ratF v s un ud pn pd).1 * (ratF (v + 1) s un ud pn pd).2.1 ≤ (ratF (v + 1) s un ud pn pd).1 * (ratF v s un ud pn pd).2.1 := by
  have qa := rat_q hv hs ha
  have qb := rat_q hv2 hs hb
  refine qa.le qb ?_
  have hk := kn_pos h1 h2 h3 h4
  have hd := qa.2.1
  rw [sgn_pos h5, Int.mul_one, Int.mul_one]
  refine Int.mul_le_mul_of_nonneg_right ?_ (Int.le_of_lt hd)
  exact Int.mul_le_mul_of_nonneg_left (by omega) hk
end W
end Go.Proofs.Ytjibbekojbaopaa
