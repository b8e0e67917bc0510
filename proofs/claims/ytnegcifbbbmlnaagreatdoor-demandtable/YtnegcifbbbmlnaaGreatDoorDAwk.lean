/- Fractions in decimal digits: the program's answer and the document's, for every fraction and every number of places. -/
import Derived.Test.YtnegcifbbbmlnaaGreatDoorDRat
import Derived.Test.YtnegcifbbbmlnaaGreatDoorFracPr
import Derived.Test.YtnegcifbbbmlnaaGreatDoorDLaw
import Derived.Test.YtnegcifbbbmlnaaGreatDoorDMath
import Derived.WalkKit
import Derived.ProofKit
import Derived.OpenShut
import Derived.ShutString
import Derived.ChangeOld
import Derived.Below
import Derived.Lib.SmallJoins
import Derived.JoinedOf
import Derived.Stop.Joined
import Derived.Test.YtnegcifbbbmlnaaGreatDoorDWk
namespace Go.Proofs.YtnegcifbbbmlnaaGreatDoor
open Go.RowKit
set_option linter.unusedVariables false
set_option linter.unusedSimpArgs false
set_option maxRecDepth 10000
namespace W
/-- the text of digits with so many places -/
def ptx (l : List UInt8) (k : Nat) : ByteArray := if k = 0 then ⟨l.toArray⟩ else pnt (padn (k + 1 - l.length) l) k
def rtE (n d p : Int) : Int := if p < 0 ∨ 9 < p ∨ n < 0 ∨ rt n d = false then 1 else err (rnd n d p.toNat)
def rtS (n d p : Int) : ByteArray := if rtE n d p = 0 then ptx (Lib.itoa (rnd n d p.toNat)) p.toNat else ⟨#[]⟩
theorem itoa_bd (n : Int) (h : i64 n) : 1 ≤ (Lib.itoa n).length ∧ (Lib.itoa n).length ≤ 30 := by
  have e : (⟨(Lib.itoa n).toArray⟩ : ByteArray).size = (Lib.itoa n).length := by simp [ByteArray.size]
  refine ⟨?_, by rw [← e]; exact itoa_len n h.1 h.2⟩
  rw [itoa_size]
  have : 1 ≤ (Lib.decDigits n.natAbs).length := by
    rw [Lib.decDigits]
    split <;> simp
  split <;> simp <;> omega
theorem zer_cat (k : Nat) (l : List UInt8) : zer k ++ ⟨l.toArray⟩ = padn k l := by
  refine bytes_eq ?_
  rw [bytes_app]
  simp [zer]
theorem sz_of (l : List UInt8) : (⟨l.toArray⟩ : ByteArray).size = l.length := by simp [ByteArray.size]
theorem pnt_sizes {D : ByteArray} {k : Nat} (h : k ≤ D.size) : (D.extract 0 (D.size - k)).size = D.size - k ∧ (D.extract (D.size - k) D.size).size = k := by
  rw [ext_size _ _ _ (by omega), ext_size _ _ _ (by omega)]; omega
theorem pointed_any {X : Int} {k : Nat} (hX : i64 X) (hk : k ≤ 9) {w : World} (ht : Tab w) :
    Calls Tryz.prog 24 #[.int .i64 X, .int .i64 (k : Int)] w fun e w' => e = .returned (.string (ptx (Lib.itoa X) k)) ∧ Keep w w' := by
  have T := hide (fmt_any X w ht hX.1 hX.2)
  obtain ⟨l1, l2⟩ := itoa_bd X hX
  unfold ptx
  by_cases h0 : k = 0
  · rw [if_pos h0]
    subst h0
    exact pointed_zero X _ w T
  · rw [if_neg h0]
    have hs := sz_of (Lib.itoa X)
    by_cases hl : k + 1 ≤ (Lib.itoa X).length
    · have e0 : padn (k + 1 - (Lib.itoa X).length) (Lib.itoa X) = ⟨(Lib.itoa X).toArray⟩ := by rw [show k + 1 - (Lib.itoa X).length = 0 by omega]; rfl
      rw [e0]
      unfold pnt
      generalize (⟨(Lib.itoa X).toArray⟩ : ByteArray) = S at *
      obtain ⟨z1, z2⟩ := pnt_sizes (D := S) (k := k) (by omega)
      exact pointed_long X k (k + 1) (k + 1 - S.size) (S.size - k) S _ _ w (by simp; omega) (wrap_in (by omega)) (wrap_in (by omega)) (by omega) (by rw [wrap_in (by omega)]; omega) (by omega) (by omega) (by omega) rfl rfl T
    · have hz := zer_size (k + 1 - (Lib.itoa X).length)
      have hp := padn_size (k + 1 - (Lib.itoa X).length) (Lib.itoa X)
      have hc := zer_cat (k + 1 - (Lib.itoa X).length) (Lib.itoa X)
      have R := fun w => rep_any (k + 1 - (Lib.itoa X).length) (by omega) (by omega) w
      unfold pnt
      generalize padn (k + 1 - (Lib.itoa X).length) (Lib.itoa X) = D at *
      generalize zer (k + 1 - (Lib.itoa X).length) = Z at *
      obtain ⟨z1, z2⟩ := pnt_sizes (D := D) (k := k) (by omega)
      rw [show (((k + 1 - (Lib.itoa X).length : Nat)) : Int) = (k : Int) + 1 - ((⟨(Lib.itoa X).toArray⟩ : ByteArray).size : Int) by omega] at R
      exact pointed_short X k (k + 1) (k + 1 - ((⟨(Lib.itoa X).toArray⟩ : ByteArray).size : Int)) (D.size - k) _ Z D _ _ w (by simp; omega) (wrap_in (by omega)) (wrap_in (by omega)) (by omega) hc (by omega) (by rw [wrap_in (by omega)]; omega) (by omega) (by omega) (by omega) rfl rfl T (hide R)
theorem rt_rt {n d : Int} (hn : i64 n) (hd : i64 d) (h : rt n d = true) : Rt n d := by
  simp only [rt, decide_eq_true_eq] at h
  exact ⟨h.1, h.2, hn.1, hn.2, hd.2⟩
theorem rate_any {n d p : Int} (hn : i64 n) (hd : i64 d) {w : World} (ht : Tab w) :
    Calls Tryz.prog 14 #[.agg #[.int .i64 n, .int .i64 d], .int .i64 p] w fun e w' => e = .returned (.tuple #[.string (rtS n d p), .int .i64 (rtE n d p)]) ∧ Keep w w' := by
  have T := fun w => right_any n d w hn.1 hn.2 hd.1 hd.2
  unfold rtS
  by_cases a1 : p < 0
  · rw [show rtE n d p = 1 by unfold rtE; rw [if_pos (.inl a1)], if_neg (by omega)]
    exact rate_a n d p w a1
  · by_cases a2 : 9 < p
    · rw [show rtE n d p = 1 by unfold rtE; rw [if_pos (.inr (.inl a2))], if_neg (by omega)]
      exact rate_b n d p w a1 a2
    · by_cases a3 : n < 0
      · rw [show rtE n d p = 1 by unfold rtE; rw [if_pos (.inr (.inr (.inl a3)))], if_neg (by omega)]
        exact rate_c n d p w a1 a2 a3
      · by_cases a4 : rt n d = true
        · rw [show rtE n d p = err (rnd n d p.toNat) by unfold rtE; rw [if_neg (by simp [a4]; omega)]]
          obtain ⟨k, rfl⟩ : ∃ k : Nat, p = (k : Int) := ⟨p.toNat, by omega⟩
          rw [Int.toNat_natCast]
          have hr := rt_rt hn hd a4
          rw [a4] at T
          have T2 := fun w => rounded_any hr (by omega) (show k ≤ 9 by omega) w
          by_cases hf : -9223372036854775808 ≤ rnd n d k ∧ rnd n d k ≤ 9223372036854775807
          · rw [err_yes hf.1 hf.2, ans_yes hf.1 hf.2] at T2
            rw [err_yes hf.1 hf.2, if_pos rfl]
            exact rate_f n d k (ten k) _ _ w a1 a2 a3 (hide T) (hide fun w => power_any k w (by omega)) (hide T2) (hide fun w' hk => pointed_any ⟨hf.1, hf.2⟩ (by omega) (ht.keep hk))
          · have e2 : err (rnd n d k) = 2 := err_no (by omega)
            rw [e2] at T2
            rw [e2, if_neg (by omega)]
            exact rate_e n d k (ten k) _ 2 w a1 a2 a3 (by omega) (hide T) (hide fun w => power_any k w (by omega)) (hide T2)
        · have a4' : rt n d = false := by simpa using a4
          rw [show rtE n d p = 1 by unfold rtE; rw [if_pos (.inr (.inr (.inr a4')))], if_neg (by omega)]
          rw [a4'] at T
          exact rate_d n d p w a1 a2 a3 (hide T)
end W
end Go.Proofs.YtnegcifbbbmlnaaGreatDoor

namespace Go.Proofs.YtnegcifbbbmlnaaGreatDoor
open Go.RowKit
set_option linter.unusedVariables false
set_option maxRecDepth 10000
namespace W
theorem ex_vol : volF 400 21 20 9 10 = (1400, 3, 0) := by kernel_rfl
theorem ex_rat : ratF 400 1800 21 20 9 10 = (7, 27, 0) := by kernel_rfl
theorem ex_rnd : rnd 7 27 3 = 259 := by decide
theorem ex_dig : Lib.itoa 259 = [50, 53, 57] := by rw [itoa_size]; simp [Lib.decDigits]
theorem ex_err : rtE 7 27 3 = 0 := by
  unfold rtE
  rw [if_neg (by decide), show (3 : Int).toNat = 3 from rfl, ex_rnd]
  decide
theorem ex_txt : rtS 7 27 3 = ⟨#[48, 46, 50, 53, 57]⟩ := by
  unfold rtS
  rw [ex_err, if_pos rfl, show (3 : Int).toNat = 3 from rfl, ex_rnd, ex_dig]
  decide
theorem awake_any (w : World) (ht : Tab w) : Calls Tryz.prog 7 #[] w fun e w' => e = .returned (.bool true) ∧ Keep w w' := by
  refine awake_core w (hide fun w => ?_) (hide fun w => ?_) (hide fun w' hk => ?_)
  · have h := volume_any (.string ⟨#[]⟩) (.int .i64 0) (.int .i64 0) (.int .i64 0) (.int .i64 0) (.int .i64 0) (.int .i64 0) (v := 400) (s := 1800) (un := 21) (ud := 20) (pn := 9) (pd := 10) (by constructor <;> decide) (by constructor <;> decide) (by constructor <;> decide) (by constructor <;> decide) (by constructor <;> decide) w
    rw [ex_vol] at h
    exact h
  · have h := ratio_any (.string ⟨#[]⟩) (.int .i64 0) (.int .i64 0) (.int .i64 0) (.int .i64 0) (.int .i64 0) (.int .i64 0) (v := 400) (s := 1800) (un := 21) (ud := 20) (pn := 9) (pd := 10) (by constructor <;> decide) (by constructor <;> decide) (by constructor <;> decide) (by constructor <;> decide) (by constructor <;> decide) (by constructor <;> decide) w
    rw [ex_rat] at h
    exact h
  · have h := rate_any (n := 7) (d := 27) (p := 3) (by constructor <;> decide) (by constructor <;> decide) (ht.keep hk)
    rw [ex_err, ex_txt] at h
    exact h
end W
end Go.Proofs.YtnegcifbbbmlnaaGreatDoor
