/- Package frac: products of fractions. -/
import Derived.Test.YtnegcifbbbmlnaaDoorFracC
namespace Go.Proofs.YtnegcifbbbmlnaaDoor
open Go.RowKit
set_option linter.unusedVariables false
set_option maxRecDepth 10000
set_option maxHeartbeats 1000000 in
theorem ftimes_core (bp bq : Bool) (pn pd qn qd f s a c d g NH NL DH DL : Int) (w : World) (hf : ¬ f = 0) (hs : ¬ s = 0) (e1 : pn.tdiv f = a) (e2 : qn.tdiv s = c) (e3 : pd.tdiv s = d) (e4 : qd.tdiv f = g) (w1 : IntKind.u64.wrap a = a) (w2 : IntKind.u64.wrap c = c) (w3 : IntKind.u64.wrap d = d) (w4 : IntKind.u64.wrap g = g)
    (Dv : Int → Int → Int → Prop) (D1 : Dv pn qd f) (D2 : Dv qn pd s)
    (T1 : Hid (∀ (a b f : Int), Dv a b f → ∀ w, Calls Tryd.prog 66 #[.int .u64 a, .int .u64 b] w fun e w' => e = .returned (.int .u64 f) ∧ Keep w w'))
    (Pr : Int → Int → Int → Int → Prop) (P1 : Pr a c NH NL) (P2 : Pr d g DH DL)
    (T3 : Hid (∀ (a b H L : Int), Pr a b H L → ∀ w, Calls Tryd.prog 67 #[.int .u64 a, .int .u64 b] w fun e w' => e = .returned (.agg #[.int .u64 H, .int .u64 L]) ∧ Keep w w'))
    (x y z : Int)
    (T5 : Hid (∀ w, Calls Tryd.prog 68 #[.bool (!(bp == bq)), .agg #[.int .u64 NH, .int .u64 NL], .agg #[.int .u64 DH, .int .u64 DL]] w fun e w' => e = .returned (.tuple #[.agg #[.int .i64 x, .int .i64 y], .int .i64 z]) ∧ Keep w w')) :
    Calls Tryd.prog 48 #[.agg #[.bool bp, .int .u64 pn, .int .u64 pd], .agg #[.bool bq, .int .u64 qn, .int .u64 qd]] w fun e w' => e = .returned (.tuple #[.agg #[.int .i64 x, .int .i64 y], .int .i64 z]) ∧ Keep w w' := by
  go_enter Tryd.func48, Tryd.ntmps48
  go_wp2_with fail
  go_region_held3 (fun w' => w'.cell? ⟨w.heap.size, 1, none⟩ = some (.int .u64 pn) ∧ w'.cell? ⟨w.heap.size, 2, none⟩ = some (.int .u64 pd) ∧ w'.cell? ⟨w.heap.size + 1, 1, none⟩ = some (.int .u64 qn) ∧ w'.cell? ⟨w.heap.size + 1, 2, none⟩ = some (.int .u64 qd)) (simp [go_sem]) (first | (go_at_call 66; refine ((unhide T1) _ _ _ (by assumption) _).mono ?_; rintro e w2 ⟨rfl, hk⟩; obtain ⟨o1, k1, rfl⟩ := hk.ext; clear hk))
  all_goals go_wp2_with fail
  all_goals go_region_held3 (fun w' => w'.cell? ⟨w.heap.size, 0, none⟩ = some (.bool bp) ∧ w'.cell? ⟨w.heap.size, 1, none⟩ = some (.int .u64 pn) ∧ w'.cell? ⟨w.heap.size, 2, none⟩ = some (.int .u64 pd) ∧ w'.cell? ⟨w.heap.size + 1, 0, none⟩ = some (.bool bq) ∧ w'.cell? ⟨w.heap.size + 1, 1, none⟩ = some (.int .u64 qn) ∧ w'.cell? ⟨w.heap.size + 1, 2, none⟩ = some (.int .u64 qd)) (simp [go_sem]) (first | (go_at_call 67; refine ((unhide T3) _ _ _ _ (by assumption) _).mono ?_; rintro e w2 ⟨rfl, hk⟩; obtain ⟨o2, k2, rfl⟩ := hk.ext; clear hk))
  all_goals go_wp2_with fail
  all_goals go_region_held3 (fun w' => w'.cell? ⟨w.heap.size, 0, none⟩ = some (.bool bp) ∧ w'.cell? ⟨w.heap.size, 1, none⟩ = some (.int .u64 pn) ∧ w'.cell? ⟨w.heap.size, 2, none⟩ = some (.int .u64 pd) ∧ w'.cell? ⟨w.heap.size + 1, 0, none⟩ = some (.bool bq) ∧ w'.cell? ⟨w.heap.size + 1, 1, none⟩ = some (.int .u64 qn) ∧ w'.cell? ⟨w.heap.size + 1, 2, none⟩ = some (.int .u64 qd)) (simp [go_sem]) (first | (go_at_call 67; refine ((unhide T3) _ _ _ _ (by assumption) _).mono ?_; rintro e w2 ⟨rfl, hk⟩; obtain ⟨o3, k3, rfl⟩ := hk.ext; clear hk))
  all_goals go_wp2_with fail
  all_goals
    refine ((unhide T5) _).mono ?_
    rintro e w2 ⟨rfl, hk⟩
    obtain ⟨o4, k4, rfl⟩ := hk.ext
    clear hk
    go_wp2_with fail
    exact bodyPost_ret (v := .tuple #[.agg #[.int .i64 x, .int .i64 y], .int .i64 z]) (by simp [results, Tryd.results48, go_sem]) rfl ⟨rfl, by repeat (first | apply keep_ext | apply Keep.alloc | apply Keep.drew | exact Keep.refl _)⟩
/-- p q -/
theorem ftimes_any (bp bq : Bool) (pn pd qn qd : Nat) (w : World) (h1 : pn ≤ 9223372036854775808) (h2 : pd ≤ 9223372036854775808) (h3 : qn ≤ 9223372036854775808) (h4 : qd ≤ 9223372036854775808) (p0 : 0 < pd) (q0 : 0 < qd)
    (hp : Nat.gcd pn pd = 1) (hq : Nat.gcd qn qd = 1) :
    Calls Tryd.prog 48 #[.agg #[.bool bp, .int .u64 (pn : Int), .int .u64 (pd : Int)], .agg #[.bool bq, .int .u64 (qn : Int), .int .u64 (qd : Int)]] w fun e w' =>
      e = .returned (fv (rn (sgn (!(bp == bq)) ((pn : Int) * qn)) ((pd : Int) * qd)) (rd (sgn (!(bp == bq)) ((pn : Int) * qn)) ((pd : Int) * qd))) ∧ Keep w w' := by
  obtain ⟨t1, t2, t3⟩ := times_low hp hq p0 q0
  have f0 : 0 < Nat.gcd pn qd := Nat.gcd_pos_of_pos_right _ q0
  have s0 : 0 < Nat.gcd qn pd := Nat.gcd_pos_of_pos_right _ p0
  have la : pn / Nat.gcd pn qd ≤ pn := Nat.div_le_self _ _
  have lc : qn / Nat.gcd qn pd ≤ qn := Nat.div_le_self _ _
  have ld : pd / Nat.gcd qn pd ≤ pd := Nat.div_le_self _ _
  have lg : qd / Nat.gcd pn qd ≤ qd := Nat.div_le_self _ _
  have D1 := fun w => divisor_any pn qd w h1 h4 (.inr q0)
  have D2 := fun w => divisor_any qn pd w h3 h2 (.inr p0)
  generalize Nat.gcd pn qd = f at *
  generalize Nat.gcd qn pd = s at *
  have eA : (pn : Int).tdiv f = (pn / f : Nat) := by rw [Int.tdiv_eq_ediv_of_nonneg (by omega)]; rfl
  have eC : (qn : Int).tdiv s = (qn / s : Nat) := by rw [Int.tdiv_eq_ediv_of_nonneg (by omega)]; rfl
  have eD : (pd : Int).tdiv s = (pd / s : Nat) := by rw [Int.tdiv_eq_ediv_of_nonneg (by omega)]; rfl
  have eG : (qd : Int).tdiv f = (qd / f : Nat) := by rw [Int.tdiv_eq_ediv_of_nonneg (by omega)]; rfl
  generalize pn / f = A at *
  generalize qn / s = C at *
  generalize pd / s = D at *
  generalize qd / f = G at *
  have mU : A * C ≤ 9223372036854775808 * 9223372036854775808 := Nat.mul_le_mul (by omega) (by omega)
  have mV : D * G ≤ 9223372036854775808 * 9223372036854775808 := Nat.mul_le_mul (by omega) (by omega)
  obtain ⟨U, hU⟩ : ∃ U, U = A * C := ⟨_, rfl⟩
  obtain ⟨V, hV⟩ : ∃ V, V = D * G := ⟨_, rfl⟩
  rw [← hU, ← hV] at t1 t2
  rw [← hV] at t3 mV
  rw [← hU] at mU
  have low : rn (sgn (!(bp == bq)) ((pn : Int) * qn)) ((pd : Int) * qd) = sgn (!(bp == bq)) U ∧ rd (sgn (!(bp == bq)) ((pn : Int) * qn)) ((pd : Int) * qd) = V := by
    have hD : (0 : Int) < (pd : Int) * qd := by rw [← Int.natCast_mul]; have := Nat.mul_pos p0 q0; omega
    have t2' : (U : Int) * ((pd : Int) * qd) = (pn : Int) * qn * V := by
      rw [← Int.natCast_mul, ← Int.natCast_mul, ← Int.natCast_mul, ← Int.natCast_mul, t2]
    refine red_one (by omega) hD ?_ ?_
    · unfold sgn Int.gcd
      split
      · rw [Int.natAbs_neg]; exact t1
      · exact t1
    · unfold sgn
      split
      · rw [Int.neg_mul, Int.neg_mul, t2']
      · exact t2'
  rw [low.1, low.2]
  refine ftimes_core bp bq pn pd qn qd f s A C D G (hiOf U) (loOf U) (hiOf V) (loOf V) w (by omega) (by omega)
    eA eC eD eG
    (by rw [IntKind.wrap_u64]; omega) (by rw [IntKind.wrap_u64]; omega) (by rw [IntKind.wrap_u64]; omega) (by rw [IntKind.wrap_u64]; omega)
    (fun a b g => ∀ w, Calls Tryd.prog 66 #[.int .u64 a, .int .u64 b] w fun e w' => e = .returned (.int .u64 g) ∧ Keep w w') D1 D2 (hide fun a b g h => h)
    (fun a b H L => ∀ w, Calls Tryd.prog 67 #[.int .u64 a, .int .u64 b] w fun e w' => e = .returned (.agg #[.int .u64 H, .int .u64 L]) ∧ Keep w w') ?_ ?_ (hide fun a b H L h => h) _ _ _
    (hide fun w => fit_any (!(bp == bq)) U V w (by omega) (by omega) (by omega) (by omega))
  · have k := fun w => product_any A C w (by omega) (by omega) (by omega) (by omega)
    rw [← Int.natCast_mul, ← hU] at k
    exact k
  · have k := fun w => product_any D G w (by omega) (by omega) (by omega) (by omega)
    rw [← Int.natCast_mul, ← hV] at k
    exact k
end Go.Proofs.YtnegcifbbbmlnaaDoor
