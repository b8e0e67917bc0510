/- Fractions in decimal digits: the program's answer and the document's, for every fraction and every number of places. -/
import Derived.Test.YtnegcifbbbmlnaaDoorDRat
import Derived.Test.YtnegcifbbbmlnaaDoorDRfR
import Derived.Test.YtnegcifbbbmlnaaDoorFracPr
namespace Go.Proofs.YtnegcifbbbmlnaaDoor
open Go.RowKit
set_option linter.unusedVariables false
set_option linter.unusedSimpArgs false
set_option maxRecDepth 10000
namespace W
/-- the text of digits with so many places -/
def ptx (l : List UInt8) (k : Nat) : ByteArray := if k = 0 then ⟨l.toArray⟩ else pnt (padn (k + 1 - l.length) l) k
def rtE (n d p : Int) : Int := if p < 0 ∨ 9 < p ∨ n < 0 ∨ rt n d = false then 1 else err (rnd n d p.toNat)
def rtS (n d p : Int) : ByteArray := if rtE n d p = 0 then ptx (Lib.itoa (rnd n d p.toNat)) p.toNat else ⟨#[]⟩
theorem itoa_bd (n : Int) (h : i64 n) : 1 ≤ (Lib.itoa n).length ∧ (Lib.itoa n).length ≤ 30 := by
  have e : (⟨(Lib.itoa n).toArray⟩ : ByteArray).size = (Lib.itoa n).length := by simp [ByteArray.size]
  refine ⟨?_, by rw [← e]; exact itoa_len n h.1 h.2⟩
  rw [itoa_size]
  have : 1 ≤ (Lib.decDigits n.natAbs).length := by
    rw [Lib.decDigits]
    split <;> simp
  split <;> simp <;> omega
theorem zer_cat (k : Nat) (l : List UInt8) : zer k ++ ⟨l.toArray⟩ = padn k l := by
  refine bytes_eq ?_
  rw [bytes_app]
  simp [zer]
theorem sz_of (l : List UInt8) : (⟨l.toArray⟩ : ByteArray).size = l.length := by simp [ByteArray.size]
theorem pnt_sizes {D : ByteArray} {k : Nat} (h : k ≤ D.size) : (D.extract 0 (D.size - k)).size = D.size - k ∧ (D.extract (D.size - k) D.size).size = k := by
  rw [ext_size _ _ _ (by omega), ext_size _ _ _ (by omega)]; omega
theorem pointed_any {X : Int} {k : Nat} (hX : i64 X) (hk : k ≤ 9) {w : World} (ht : Tab w) :
    Calls Tryd.prog 26 #[.int .i64 X, .int .i64 (k : Int)] w fun e w' => e = .returned (.string (ptx (Lib.itoa X) k)) ∧ Keep w w' := by
  have T := hide (fmt_any X w ht hX.1 hX.2)
  obtain ⟨l1, l2⟩ := itoa_bd X hX
  unfold ptx
  by_cases h0 : k = 0
  · rw [if_pos h0]
    subst h0
    exact pointed_zero X _ w T
  · rw [if_neg h0]
    have hs := sz_of (Lib.itoa X)
    by_cases hl : k + 1 ≤ (Lib.itoa X).length
    · have e0 : padn (k + 1 - (Lib.itoa X).length) (Lib.itoa X) = ⟨(Lib.itoa X).toArray⟩ := by rw [show k + 1 - (Lib.itoa X).length = 0 by omega]; rfl
      rw [e0]
      unfold pnt
      generalize (⟨(Lib.itoa X).toArray⟩ : ByteArray) = S at *
      obtain ⟨z1, z2⟩ := pnt_sizes (D := S) (k := k) (by omega)
      exact pointed_long X k (k + 1) (k + 1 - S.size) (S.size - k) S _ _ w (by simp; omega) (wrap_in (by omega)) (wrap_in (by omega)) (by omega) (by rw [wrap_in (by omega)]; omega) (by omega) (by omega) (by omega) rfl rfl T
    · have hz := zer_size (k + 1 - (Lib.itoa X).length)
      have hp := padn_size (k + 1 - (Lib.itoa X).length) (Lib.itoa X)
      have hc := zer_cat (k + 1 - (Lib.itoa X).length) (Lib.itoa X)
      have R := fun w => rep_any (k + 1 - (Lib.itoa X).length) (by omega) (by omega) w
      unfold pnt
      generalize padn (k + 1 - (Lib.itoa X).length) (Lib.itoa X) = D at *
      generalize zer (k + 1 - (Lib.itoa X).length) = Z at *
      obtain ⟨z1, z2⟩ := pnt_sizes (D := D) (k := k) (by omega)
      rw [show (((k + 1 - (Lib.itoa X).length : Nat)) : Int) = (k : Int) + 1 - ((⟨(Lib.itoa X).toArray⟩ : ByteArray).size : Int) by omega] at R
      exact pointed_short X k (k + 1) (k + 1 - ((⟨(Lib.itoa X).toArray⟩ : ByteArray).size : Int)) (D.size - k) _ Z D _ _ w (by simp; omega) (wrap_in (by omega)) (wrap_in (by omega)) (by omega) hc (by omega) (by rw [wrap_in (by omega)]; omega) (by omega) (by omega) (by omega) rfl rfl T (hide R)
theorem rt_rt {n d : Int} (hn : i64 n) (hd : i64 d) (h : rt n d = true) : Rt n d := by
  simp only [rt, decide_eq_true_eq] at h
  exact ⟨h.1, h.2, hn.1, hn.2, hd.2⟩
theorem rate_any {n d p : Int} (hn : i64 n) (hd : i64 d) {w : World} (ht : Tab w) :
    Calls Tryd.prog 12 #[.agg #[.int .i64 n, .int .i64 d], .int .i64 p] w fun e w' => e = .returned (.tuple #[.string (rtS n d p), .int .i64 (rtE n d p)]) ∧ Keep w w' := by
  have T := fun w => right_any n d w hn.1 hn.2 hd.1 hd.2
  unfold rtS
  by_cases a1 : p < 0
  · rw [show rtE n d p = 1 by unfold rtE; rw [if_pos (.inl a1)], if_neg (by omega)]
    exact rate_a n d p w a1
  · by_cases a2 : 9 < p
    · rw [show rtE n d p = 1 by unfold rtE; rw [if_pos (.inr (.inl a2))], if_neg (by omega)]
      exact rate_b n d p w a1 a2
    · by_cases a3 : n < 0
      · rw [show rtE n d p = 1 by unfold rtE; rw [if_pos (.inr (.inr (.inl a3)))], if_neg (by omega)]
        exact rate_c n d p w a1 a2 a3
      · by_cases a4 : rt n d = true
        · rw [show rtE n d p = err (rnd n d p.toNat) by unfold rtE; rw [if_neg (by simp [a4]; omega)]]
          obtain ⟨k, rfl⟩ : ∃ k : Nat, p = (k : Int) := ⟨p.toNat, by omega⟩
          rw [Int.toNat_natCast]
          have hr := rt_rt hn hd a4
          rw [a4] at T
          have T2 := fun w => rounded_any hr (by omega) (show k ≤ 9 by omega) w
          by_cases hf : -9223372036854775808 ≤ rnd n d k ∧ rnd n d k ≤ 9223372036854775807
          · rw [err_yes hf.1 hf.2, ans_yes hf.1 hf.2] at T2
            rw [err_yes hf.1 hf.2, if_pos rfl]
            exact rate_f n d k (ten k) _ _ w a1 a2 a3 (hide T) (hide fun w => power_any k w (by omega)) (hide T2) (hide fun w' hk => pointed_any ⟨hf.1, hf.2⟩ (by omega) (ht.keep hk))
          · have e2 : err (rnd n d k) = 2 := err_no (by omega)
            rw [e2] at T2
            rw [e2, if_neg (by omega)]
            exact rate_e n d k (ten k) _ 2 w a1 a2 a3 (by omega) (hide T) (hide fun w => power_any k w (by omega)) (hide T2)
        · have a4' : rt n d = false := by simpa using a4
          rw [show rtE n d p = 1 by unfold rtE; rw [if_pos (.inr (.inr (.inr a4')))], if_neg (by omega)]
          rw [a4'] at T
          exact rate_d n d p w a1 a2 a3 (hide T)
theorem cm_neg {x y : Int} : cm x y < 0 ↔ x < y := cm_lt
theorem rrate_any {n d p : Int} (hn : i64 n) (hd : i64 d) (w : World) :
    Calls Tryd.prog 13 #[.agg #[.int .i64 n, .int .i64 d], .int .i64 p] w fun e w' => e = .returned (.tuple #[.string (rtS n d p), .int .i64 (rtE n d p)]) ∧ Keep w w' := by
  have T := fun w => r2right_any n d w hn.1 hn.2 hd.1 hd.2
  unfold rtS
  by_cases a1 : p < 0
  · rw [show rtE n d p = 1 by unfold rtE; rw [if_pos (.inl a1)], if_neg (by omega)]
    exact rrate_a n d p w a1
  · by_cases a2 : 9 < p
    · rw [show rtE n d p = 1 by unfold rtE; rw [if_pos (.inr (.inl a2))], if_neg (by omega)]
      exact rrate_b n d p w a1 a2
    · by_cases a4 : rt n d = true
      · rw [a4] at T
        by_cases a3 : n < 0
        · rw [show rtE n d p = 1 by unfold rtE; rw [if_pos (.inr (.inr (.inl a3)))], if_neg (by omega)]
          exact rrate_d n d p w a1 a2 a3 (hide T)
        · rw [show rtE n d p = err (rnd n d p.toNat) by unfold rtE; rw [if_neg (by simp [a4]; omega)]]
          obtain ⟨k, rfl⟩ : ∃ k : Nat, p = (k : Int) := ⟨p.toNat, by omega⟩
          rw [Int.toNat_natCast]
          obtain ⟨d1, _, n1, n2, d2⟩ := rt_rt hn hd a4
          have hk : k ≤ 9 := by omega
          have ht := ten_bd hk
          have hR := rnd_doc (n := n) k d1
          have S1 := fun w => rscale_any n (ten k) d w n1 n2 (by omega) (by omega) d1 d2
          have q0 : 0 ≤ n * ten k / d := Int.ediv_nonneg (Int.mul_nonneg (by omega) (by omega)) (by omega)
          have qm : n * ten k / d * d ≤ n * ten k := Int.ediv_mul_le _ (by omega)
          have c4 : IntKind.u64.wrap d = d := by rw [IntKind.wrap_u64]; omega
          have c1 : IntKind.u64.wrap n = n := by rw [IntKind.wrap_u64]; omega
          have c2 : IntKind.u64.wrap (ten k) = ten k := by rw [IntKind.wrap_u64]; omega
          by_cases hf : n * ten k / d ≤ 9223372036854775807
          · rw [ans_yes (by omega) hf, err_yes (by omega) hf] at S1
            have TA := fun w => times_sl (a := n) (b := ten k) w (by omega) (by omega) (by omega) (by omega)
            generalize hN : n * ten k = N at *
            generalize hq : N / d = q at *
            have TB := fun w => times_sl (a := q) (b := d) w (by omega) (by omega) (by omega) (by omega)
            have TP := fun w => parts_sl (u := d) w (by omega) (by omega)
            have c3 : IntKind.u64.wrap q = q := by rw [IntKind.wrap_u64]; omega
            by_cases hc : d ≤ 2 * (N - q * d)
            · rw [if_pos hc] at hR
              have hcm : 0 ≤ cm ((n * ten k - q * d) + (n * ten k - q * d)) d := by
                rw [hN]
                have := mt (cm_neg (x := (N - q * d) + (N - q * d)) (y := d)).1 (by omega)
                omega
              by_cases hmx : q = 9223372036854775807
              · have e2 : err (rnd n d k) = 2 := err_no (by omega)
                rw [e2, if_neg (by omega)]
                subst hN
                exact rrate_h n d k q _ w hk a3 (by simp [hmx]) hcm (hide T) (hide S1) c1 c2 c3 c4 (hide TA) (hide TB) (hide TP) (hide qm) (hide rfl)
              · have hX : i64 (rnd n d k) := by constructor <;> omega
                rw [err_yes hX.1 hX.2, if_pos rfl]
                obtain ⟨l1, l2⟩ := itoa_bd _ hX
                subst hN
                unfold ptx
                by_cases h0 : k = 0
                · rw [if_pos h0]
                  exact rrate_x n d k q _ _ w hk a3 (by simp [hmx]) hcm (by rw [hR]; exact wrap_in (by omega)) (hide h0) (hide ⟨l1, l2⟩) (hide fun w => rdigits_any _ w hX.1 hX.2) (hide T) (hide S1) c1 c2 c3 c4 (hide TA) (hide TB) (hide TP) (hide qm) (hide rfl)
                · rw [if_neg h0]
                  have hp := padn_size (k + 1 - (Lib.itoa (rnd n d k)).length) (Lib.itoa (rnd n d k))
                  obtain ⟨z1, z2⟩ := pnt_sizes (D := padn (k + 1 - (Lib.itoa (rnd n d k)).length) (Lib.itoa (rnd n d k))) (k := k) (by omega)
                  exact rrate_y n d k q _ _ _ _ _ _ w hk a3 (by simp [hmx]) hcm (by rw [hR]; exact wrap_in (by omega)) (hide (by omega)) (hide rfl) (hide rfl) (by omega) (by omega) rfl rfl (hide ⟨l1, l2⟩) (hide fun w => rdigits_any _ w hX.1 hX.2) (hide T) (hide S1) c1 c2 c3 c4 (hide TA) (hide TB) (hide TP) (hide qm) (hide rfl)
            · rw [if_neg hc, Int.add_zero] at hR
              have hcm : cm ((n * ten k - rnd n d k * d) + (n * ten k - rnd n d k * d)) d < 0 := by
                rw [hN, hR]
                exact cm_neg.2 (by omega)
              have hX : i64 (rnd n d k) := by constructor <;> omega
              rw [err_yes hX.1 hX.2, if_pos rfl]
              obtain ⟨l1, l2⟩ := itoa_bd _ hX
              subst hN
              rw [← hR] at S1 TB c3 qm
              unfold ptx
              by_cases h0 : k = 0
              · rw [if_pos h0]
                exact rrate_u n d k _ _ w hk a3 hcm (hide h0) (hide ⟨l1, l2⟩) (hide fun w => rdigits_any _ w hX.1 hX.2) (hide T) (hide S1) c1 c2 c3 c4 (hide TA) (hide TB) (hide TP) (hide qm) (hide rfl)
              · rw [if_neg h0]
                have hp := padn_size (k + 1 - (Lib.itoa (rnd n d k)).length) (Lib.itoa (rnd n d k))
                obtain ⟨z1, z2⟩ := pnt_sizes (D := padn (k + 1 - (Lib.itoa (rnd n d k)).length) (Lib.itoa (rnd n d k))) (k := k) (by omega)
                exact rrate_v n d k _ _ _ _ _ _ w hk a3 hcm (hide (by omega)) (hide rfl) (hide rfl) (by omega) (by omega) rfl rfl (hide ⟨l1, l2⟩) (hide fun w => rdigits_any _ w hX.1 hX.2) (hide T) (hide S1) c1 c2 c3 c4 (hide TA) (hide TB) (hide TP) (hide qm) (hide rfl)
          · have e2 : err (n * ten k / d) = 2 := err_no (by omega)
            have e3 : err (rnd n d k) = 2 := by
              refine err_no (.inr ?_)
              rw [hR]
              split <;> omega
            rw [e2] at S1
            rw [e3, if_neg (by omega)]
            exact rrate_e n d k _ 2 w hk a3 (by omega) (hide T) (hide S1)
      · have a4' : rt n d = false := by simpa using a4
        rw [show rtE n d p = 1 by unfold rtE; rw [if_pos (.inr (.inr (.inr a4')))], if_neg (by omega)]
        rw [a4'] at T
        exact rrate_c n d p w a1 a2 (hide T)
end W
end Go.Proofs.YtnegcifbbbmlnaaDoor
