/- Package frac: products of fractions. -/
import Derived.Test.YtjibbekojbaopaaFracC
import Derived.Deep.DeepCutAuto
namespace Go.Proofs.Ytjibbekojbaopaa
open Go.RowKit
set_option linter.unusedVariables false
set_option maxRecDepth 10000
set_option maxHeartbeats 1000000 in
theorem ftimes_core (bp bq : Bool) (pn pd qn qd f s a c d g NH NL DH DL : Int) (w : World) (hf : ¬ f = 0) (hs : ¬ s = 0) (e1 : pn.tdiv f = a) (e2 : qn.tdiv s = c) (e3 : pd.tdiv s = d) (e4 : qd.tdiv f = g) (w1 : IntKind.u64.wrap a = a) (w2 : IntKind.u64.wrap c = c) (w3 : IntKind.u64.wrap d = d) (w4 : IntKind.u64.wrap g = g)
    (Dv : Int → Int → Int → Prop) (D1 : Dv pn qd f) (D2 : Dv qn pd s)
    (T1 : Hid (∀ (a b f : Int), Dv a b f → ∀ w, Calls Try.prog 70 #[.int .u64 a, .int .u64 b] w fun e w' => e = .returned (.int .u64 f) ∧ Keep w w'))
    (Pr : Int → Int → Int → Int → Prop) (P1 : Pr a c NH NL) (P2 : Pr d g DH DL)
    (T3 : Hid (∀ (a b H L : Int), Pr a b H L → ∀ w, Calls Try.prog 71 #[.int .u64 a, .int .u64 b] w fun e w' => e = .returned (.agg #[.int .u64 H, .int .u64 L]) ∧ Keep w w'))
    (x y z : Int)
    (T5 : Hid (∀ w, Calls Try.prog 72 #[.bool (!(bp == bq)), .agg #[.int .u64 NH, .int .u64 NL], .agg #[.int .u64 DH, .int .u64 DL]] w fun e w' => e = .returned (.tuple #[.agg #[.int .i64 x, .int .i64 y], .int .i64 z]) ∧ Keep w w')) :
    Calls Try.prog 50 #[.agg #[.bool bp, .int .u64 pn, .int .u64 pd], .agg #[.bool bq, .int .u64 qn, .int .u64 qd]] w fun e w' => e = .returned (.tuple #[.agg #[.int .i64 x, .int .i64 y], .int .i64 z]) ∧ Keep w w' := by
  go_enter Try.func50, Try.ntmps50
  go_wp2_with fail
  go_region_held3 (fun w' => w'.cell? ⟨w.heap.size, 1, none⟩ = some (.int .u64 pn) ∧ w'.cell? ⟨w.heap.size, 2, none⟩ = some (.int .u64 pd) ∧ w'.cell? ⟨w.heap.size + 1, 1, none⟩ = some (.int .u64 qn) ∧ w'.cell? ⟨w.heap.size + 1, 2, none⟩ = some (.int .u64 qd)) (simp [go_sem]) (first | (go_at_call 70; refine ((uq T1) _ _ _ (by assumption) _).mono ?_; rintro e w2 ⟨rfl, hk⟩; obtain ⟨o1, k1, rfl⟩ := hk.ext; clear hk))
  all_goals go_wp2_with fail
  all_goals go_region_held3 (fun w' => w'.cell? ⟨w.heap.size, 0, none⟩ = some (.bool bp) ∧ w'.cell? ⟨w.heap.size, 1, none⟩ = some (.int .u64 pn) ∧ w'.cell? ⟨w.heap.size, 2, none⟩ = some (.int .u64 pd) ∧ w'.cell? ⟨w.heap.size + 1, 0, none⟩ = some (.bool bq) ∧ w'.cell? ⟨w.heap.size + 1, 1, none⟩ = some (.int .u64 qn) ∧ w'.cell? ⟨w.heap.size + 1, 2, none⟩ = some (.int .u64 qd)) (simp [go_sem]) (first | (go_at_call 71; refine ((uq T3) _ _ _ _ (by assumption) _).mono ?_; rintro e w2 ⟨rfl, hk⟩; obtain ⟨o2, k2, rfl⟩ := hk.ext; clear hk))
  all_goals go_wp2_with fail
  all_goals go_region_held3 (fun w' => w'.cell? ⟨w.heap.size, 0, none⟩ = some (.bool bp) ∧ w'.cell? ⟨w.heap.size, 1, none⟩ = some (.int .u64 pn) ∧ w'.cell? ⟨w.heap.size, 2, none⟩ = some (.int .u64 pd) ∧ w'.cell? ⟨w.heap.size + 1, 0, none⟩ = some (.bool bq) ∧ w'.cell? ⟨w.heap.size + 1, 1, none⟩ = some (.int .u64 qn) ∧ w'.cell? ⟨w.heap.size + 1, 2, none⟩ = some (.int .u64 qd)) (simp [go_sem]) (first | (go_at_call 71; refine ((uq T3) _ _ _ _ (by assumption) _).mono ?_; rintro e w2 ⟨rfl, hk⟩; obtain ⟨o3, k3, rfl⟩ := hk.ext; clear hk))
  all_goals go_wp2_with fail
  all_goals
    refine ((uq T5) _).mono ?_
    rintro e w2 ⟨rfl, hk⟩
    obtain ⟨o4, k4, rfl⟩ := hk.ext
    clear hk
    go_wp2_with fail
    exact bodyPost_ret (v := .tuple #[.agg #[.int .i64 x, .int .i64 y], .int .i64 z]) (by simp [results, Try.results50, go_sem]) rfl ⟨rfl, by repeat (first | apply keep_ext | apply Keep.alloc | apply Keep.drew | exact Keep.refl _)⟩
/-- p q -/
theorem ftimes_any (bp bq : Bool) (pn pd qn qd : Nat) (w : World) (h1 : pn ≤ 9223372036854775808) (h2 : pd ≤ 9223372036854775808) (h3 : qn ≤ 9223372036854775808) (h4 : qd ≤ 9223372036854775808) (p0 : 0 < pd) (q0 : 0 < qd)
    (hp : Nat.gcd pn pd = 1) (hq : Nat.gcd qn qd = 1) :
    Calls Try.prog 50 #[.agg #[.bool bp, .int .u64 (pn : Int), .int .u64 (pd : Int)], .agg #[.bool bq, .int .u64 (qn : Int), .int .u64 (qd : Int)]] w fun e w' =>
      e = .returned (fv (rn (sgn (!(bp == bq)) ((pn : Int) * qn)) ((pd : Int) * qd)) (rd (sgn (!(bp == bq)) ((pn : Int) * qn)) ((pd : Int) * qd))) ∧ Keep w w' := by
  obtain ⟨t1, t2, t3⟩ := times_low hp hq p0 q0
  have f0 : 0 < Nat.gcd pn qd := Nat.gcd_pos_of_pos_right _ q0
  have s0 : 0 < Nat.gcd qn pd := Nat.gcd_pos_of_pos_right _ p0
  have la : pn / Nat.gcd pn qd ≤ pn := Nat.div_le_self _ _
  have lc : qn / Nat.gcd qn pd ≤ qn := Nat.div_le_self _ _
  have ld : pd / Nat.gcd qn pd ≤ pd := Nat.div_le_self _ _
  have lg : qd / Nat.gcd pn qd ≤ qd := Nat.div_le_self _ _
  have D1 := fun w => divisor_any pn qd w h1 h4 (.inr q0)
  have D2 := fun w => divisor_any qn pd w h3 h2 (.inr p0)
  generalize Nat.gcd pn qd = f at *
  generalize Nat.gcd qn pd = s at *
  have eA : (pn : Int).tdiv f = (pn / f : Nat) := by rw [Int.tdiv_eq_ediv_of_nonneg (by omega)]; rfl
  have eC : (qn : Int).tdiv s = (qn / s : Nat) := by rw [Int.tdiv_eq_ediv_of_nonneg (by omega)]; rfl
  have eD : (pd : Int).tdiv s = (pd / s : Nat) := by rw [Int.tdiv_eq_ediv_of_nonneg (by omega)]; rfl
  have eG : (qd : Int).tdiv f = (qd / f : Nat) := by rw [Int.tdiv_eq_ediv_of_nonneg (by omega)]; rfl
  generalize pn / f = A at *
  generalize qn / s = C at *
  generalize pd / s = D at *
  generalize qd / f = G at *
  have mU : A * C ≤ 9223372036854775808 * 9223372036854775808 := Nat.mul_le_mul (by omega) (by omega)
  have mV : D * G ≤ 9223372036854775808 * 9223372036854775808 := Nat.mul_le_mul (by omega) (by omega)
  obtain ⟨U, hU⟩ : ∃ U, U = A * C := ⟨_, rfl⟩
  obtain ⟨V, hV⟩ : ∃ V, V = D * G := ⟨_, rfl⟩
  rw [← hU, ← hV] at t1 t2
  rw [← hV] at t3 mV
  rw [← hU] at mU
  have low : rn (sgn (!(bp == bq)) ((pn : Int) * qn)) ((pd : Int) * qd) = sgn (!(bp == bq)) U ∧ rd (sgn (!(bp == bq)) ((pn : Int) * qn)) ((pd : Int) * qd) = V := by
    have hD : (0 : Int) < (pd : Int) * qd := by rw [← Int.natCast_mul]; have := Nat.mul_pos p0 q0; omega
    have t2' : (U : Int) * ((pd : Int) * qd) = (pn : Int) * qn * V := by
      rw [← Int.natCast_mul, ← Int.natCast_mul, ← Int.natCast_mul, ← Int.natCast_mul, t2]
    refine red_one (by omega) hD ?_ ?_
    · unfold sgn Int.gcd
      split
      · rw [Int.natAbs_neg]; exact t1
      · exact t1
    · unfold sgn
      split
      · rw [Int.neg_mul, Int.neg_mul, t2']
      · exact t2'
  rw [low.1, low.2]
  refine ftimes_core bp bq pn pd qn qd f s A C D G (hiOf U) (loOf U) (hiOf V) (loOf V) w (by omega) (by omega)
    eA eC eD eG
    (by rw [IntKind.wrap_u64]; omega) (by rw [IntKind.wrap_u64]; omega) (by rw [IntKind.wrap_u64]; omega) (by rw [IntKind.wrap_u64]; omega)
    (fun a b g => ∀ w, Calls Try.prog 70 #[.int .u64 a, .int .u64 b] w fun e w' => e = .returned (.int .u64 g) ∧ Keep w w') D1 D2 (hide fun a b g h => h)
    (fun a b H L => ∀ w, Calls Try.prog 71 #[.int .u64 a, .int .u64 b] w fun e w' => e = .returned (.agg #[.int .u64 H, .int .u64 L]) ∧ Keep w w') ?_ ?_ (hide fun a b H L h => h) _ _ _
    (hide fun w => fit_any (!(bp == bq)) U V w (by omega) (by omega) (by omega) (by omega))
  · have k := fun w => product_any A C w (by omega) (by omega) (by omega) (by omega)
    rw [← Int.natCast_mul, ← hU] at k
    exact k
  · have k := fun w => product_any D G w (by omega) (by omega) (by omega) (by omega)
    rw [← Int.natCast_mul, ← hV] at k
    exact k
end Go.Proofs.Ytjibbekojbaopaa

namespace Go.Proofs.Ytjibbekojbaopaa
open Go.RowKit
set_option linter.unusedVariables false
theorem keep_set {a w : World} (n i : Nat) (v : Value) (hn : a.heap.size ≤ n) (h : Keep a w) : Keep a (w.setCell ⟨n, i, none⟩ v) := Below.setCell h hn v
theorem keep_set2 {a w : World} (i : Nat) (v : Value) (h : Keep a w) : Keep a (w.setCell ⟨a.heap.size + 1 + 1, i, none⟩ v) := Below.setCell h (Nat.le_trans (Nat.le_succ _) (Nat.le_succ _)) v
/-- the two parameters and the result as they were laid -/
def FrP (w wc : World) (bp bq : Bool) (pn pd qn qd : Int) : Prop :=
  Keep w wc ∧ w.heap.size < wc.heap.size ∧ w.heap.size + 1 < wc.heap.size ∧ w.heap.size + 1 + 1 < wc.heap.size
  ∧ wc.cell? ⟨w.heap.size, 0, none⟩ = some (.bool bp) ∧ wc.cell? ⟨w.heap.size, 1, none⟩ = some (.int .u64 pn) ∧ wc.cell? ⟨w.heap.size, 2, none⟩ = some (.int .u64 pd) ∧ wc.cell? ⟨w.heap.size + 1, 0, none⟩ = some (.bool bq) ∧ wc.cell? ⟨w.heap.size + 1, 1, none⟩ = some (.int .u64 qn) ∧ wc.cell? ⟨w.heap.size + 1, 2, none⟩ = some (.int .u64 qd)
  ∧ wc.cell? ⟨w.heap.size + 1 + 1, 0, none⟩ = some (.int .i64 0) ∧ wc.cell? ⟨w.heap.size + 1 + 1, 1, none⟩ = some (.int .i64 0)
  ∧ wc.frozen? ⟨w.heap.size + 1 + 1, 0, none⟩ = false ∧ wc.frozen? ⟨w.heap.size + 1 + 1, 1, none⟩ = false
/-- a number of 128 bits that lies in a block -/
def Bk (wc : World) (B : Nat) (s : Value) (H L : Int) : Prop := s = .pointer (some ⟨B, 0, none⟩) ∧ B < wc.heap.size ∧ wc.cell? ⟨B, 0, none⟩ = some (.int .u64 H) ∧ wc.cell? ⟨B, 1, none⟩ = some (.int .u64 L)
end Go.Proofs.Ytjibbekojbaopaa

namespace Go.Proofs.Ytjibbekojbaopaa
open Go.RowKit
set_option linter.unusedVariables false
set_option maxRecDepth 10000
theorem cd_nat' (n d : Int) (h1 : -9223372036854775808 ≤ n) (h2 : n ≤ 9223372036854775807) (h3 : -9223372036854775808 ≤ d) (h4 : d ≤ 9223372036854775807) :
    ∃ u v : Nat, (u : Int) = (cn n d).natAbs ∧ (v : Int) = cd n d ∧ u ≤ 9223372036854775808 ∧ v ≤ 9223372036854775808 ∧ 0 < v ∧ Nat.gcd u v = 1 ∧ sgn (decide (cn n d < 0)) u = cn n d := by
  obtain ⟨r1, r2, r3, r4, r5⟩ := rt_counted n d h1 h2 h4
  refine ⟨(cn n d).natAbs, (cd n d).natAbs, rfl, by omega, by omega, by omega, by omega, r2, ?_⟩
  unfold sgn
  by_cases h : cn n d < 0
  · simp only [h, decide_true, if_true]; omega
  · simp only [h, decide_false, Bool.false_eq_true, if_false]; omega
theorem sgn_mul (b c : Bool) (u v : Int) : sgn (!(b == c)) (u * v) = sgn b u * sgn c v := by cases b <;> cases c <;> simp [sgn, Int.neg_mul, Int.mul_neg]
set_option maxHeartbeats 2000000 in
theorem div_core (n d n2 d2 : Int) (b b2 : Bool) (x y x2 y2 X Y Z : Int) (w : World) (hx : ¬ x2 = 0) (Tk : Int → Int → Bool → Int → Int → Prop) (K1 : Tk n d b x y) (K2 : Tk n2 d2 b2 x2 y2)
    (T1 : Hid (∀ (n d : Int) (b : Bool) (x y : Int), Tk n d b x y → ∀ w, Calls Try.prog 49 #[.agg #[.int .i64 n, .int .i64 d]] w fun e w' => e = .returned (.agg #[.bool b, .int .u64 x, .int .u64 y]) ∧ Keep w w'))
    (T2 : Hid (∀ w, Calls Try.prog 51 #[.agg #[.bool b2, .int .u64 x2, .int .u64 y2]] w fun e w' => e = .returned (.agg #[.bool b2, .int .u64 y2, .int .u64 x2]) ∧ Keep w w'))
    (T3 : Hid (∀ w, Calls Try.prog 50 #[.agg #[.bool b, .int .u64 x, .int .u64 y], .agg #[.bool b2, .int .u64 y2, .int .u64 x2]] w fun e w' => e = .returned (.tuple #[.agg #[.int .i64 X, .int .i64 Y], .int .i64 Z]) ∧ Keep w w')) :
    Calls Try.prog 25 #[.agg #[.int .i64 n, .int .i64 d], .agg #[.int .i64 n2, .int .i64 d2]] w fun e w' => e = .returned (.tuple #[.agg #[.int .i64 X, .int .i64 Y], .int .i64 Z]) ∧ Keep w w' := by
  have hx' : (x2 == 0) = false := by simpa using hx
  go_enter Try.func25, Try.ntmps25
  go_wp2_with fail
  (refine ((uq T1) _ _ _ _ _ (by assumption) _).mono ?_; rintro e w2 ⟨rfl, hk⟩; obtain ⟨o9, k9, rfl⟩ := hk.ext; clear hk)
  go_wp2_with fail
  go_region_held3 (fun w' => w'.cell? ⟨w.heap.size, 0, none⟩ = some (.int .i64 n) ∧ w'.cell? ⟨w.heap.size, 1, none⟩ = some (.int .i64 d) ∧ w'.cell? ⟨w.heap.size + 1 + 1 + 1 + o9.size, 0, none⟩ = some (.bool b2) ∧ w'.cell? ⟨w.heap.size + 1 + 1 + 1 + o9.size, 1, none⟩ = some (.int .u64 x2) ∧ w'.cell? ⟨w.heap.size + 1 + 1 + 1 + o9.size, 2, none⟩ = some (.int .u64 y2)) (simp [go_sem]) (first | (go_at_call 49; refine ((uq T1) _ _ _ _ _ (by assumption) _).mono ?_; rintro e w2 ⟨rfl, hk⟩; obtain ⟨o1, k1, rfl⟩ := hk.ext; clear hk) | (go_at_call 51; refine ((uq T2) _).mono ?_; rintro e w2 ⟨rfl, hk⟩; obtain ⟨o2, k2, rfl⟩ := hk.ext; clear hk) | (go_at_call 50; refine ((uq T3) _).mono ?_; rintro e w2 ⟨rfl, hk⟩; obtain ⟨o3, k3, rfl⟩ := hk.ext; clear hk))
  all_goals go_wp2_with fail
  all_goals exact bodyPost_ret (v := .tuple #[.agg #[.int .i64 X, .int .i64 Y], .int .i64 Z]) (by simp [results, Try.results25, go_sem]) rfl ⟨rfl, by repeat (first | apply keep_ext | apply Keep.alloc | apply Keep.drew | exact Keep.refl _)⟩
theorem fdiv_any (n d n2 d2 : Int) (w : World) (h1 : -9223372036854775808 ≤ n) (h2 : n ≤ 9223372036854775807) (h3 : -9223372036854775808 ≤ d) (h4 : d ≤ 9223372036854775807) (k1 : -9223372036854775808 ≤ n2) (k2 : n2 ≤ 9223372036854775807) (k3 : -9223372036854775808 ≤ d2) (k4 : d2 ≤ 9223372036854775807) (hz : ¬ cn n2 d2 = 0) :
    Calls Try.prog 25 #[.agg #[.int .i64 n, .int .i64 d], .agg #[.int .i64 n2, .int .i64 d2]] w fun e w' => e = .returned (fv (rn (cn n d * sgn (decide (cn n2 d2 < 0)) (cd n2 d2)) (cd n d * ((cn n2 d2).natAbs : Int))) (rd (cn n d * sgn (decide (cn n2 d2 < 0)) (cd n2 d2)) (cd n d * ((cn n2 d2).natAbs : Int)))) ∧ Keep w w' := by
  obtain ⟨u, v, e1, e2, u1, v1, v0, g, s⟩ := cd_nat' n d h1 h2 h3 h4
  obtain ⟨u', v', e1', e2', u1', v1', v0', g', s'⟩ := cd_nat' n2 d2 k1 k2 k3 k4
  have A := fun w => take_any n d w h1 h2 h3 h4
  have B := fun w => take_any n2 d2 w k1 k2 k3 k4
  rw [← e1, ← e2] at A
  rw [← e1', ← e2'] at B
  have P := fun w => ftimes_any (decide (cn n d < 0)) (decide (cn n2 d2 < 0)) u v v' u' w u1 v1 v1' u1' v0 (by omega) g (by rw [Nat.gcd_comm]; exact g')
  rw [sgn_mul, s, e2, e2', e1'] at P
  rw [e2] at A
  rw [e2', e1'] at B
  exact div_core n d n2 d2 _ _ _ _ _ _ _ _ _ w (by omega) (fun n d b x y => ∀ w, Calls Try.prog 49 #[.agg #[.int .i64 n, .int .i64 d]] w fun e w' => e = .returned (.agg #[.bool b, .int .u64 x, .int .u64 y]) ∧ Keep w w') A B (hide fun n d b x y h => h) (hide fun w => turned_any _ _ _ w) (hide P)
set_option maxHeartbeats 400000 in
theorem of_core (n d X Y Z : Int) (w : World) (T : Hid (∀ w, Calls Try.prog 25 #[.agg #[.int .i64 n, .int .i64 1], .agg #[.int .i64 d, .int .i64 1]] w fun e w' => e = .returned (.tuple #[.agg #[.int .i64 X, .int .i64 Y], .int .i64 Z]) ∧ Keep w w')) :
    Calls Try.prog 24 #[.int .i64 n, .int .i64 d] w fun e w' => e = .returned (.tuple #[.agg #[.int .i64 X, .int .i64 Y], .int .i64 Z]) ∧ Keep w w' := by
  go_enter Try.func24, Try.ntmps24
  go_wp2_with fail
  (refine ((uq T) _).mono ?_; rintro e w2 ⟨rfl, hk⟩; obtain ⟨o1, k1, rfl⟩ := hk.ext; clear hk)
  go_wp2_with fail
  exact bodyPost_ret (v := .tuple #[.agg #[.int .i64 X, .int .i64 Y], .int .i64 Z]) (by simp [results, Try.results24, go_sem]) rfl ⟨rfl, by repeat (first | apply keep_ext | apply Keep.alloc | apply Keep.drew | exact Keep.refl _)⟩
theorem fof_any (n d : Int) (w : World) (h1 : -9223372036854775808 ≤ n) (h2 : n ≤ 9223372036854775807) (h3 : -9223372036854775808 ≤ d) (h4 : d ≤ 9223372036854775807) (hz : ¬ d = 0) :
    Calls Try.prog 24 #[.int .i64 n, .int .i64 d] w fun e w' => e = .returned (fv (rn (sgn (decide (d < 0)) n) (d.natAbs : Int)) (rd (sgn (decide (d < 0)) n) (d.natAbs : Int))) ∧ Keep w w' := by
  have r1 : Rt n 1 := ⟨by omega, by simp, h1, h2, by omega⟩
  have r2 : Rt d 1 := ⟨by omega, by simp, h3, h4, by omega⟩
  have D := fun w => fdiv_any n 1 d 1 w h1 h2 (by omega) (by omega) h3 h4 (by omega) (by omega) (by rw [r2.cn]; exact hz)
  rw [r1.cn, r1.cd, r2.cn, r2.cd, show n * sgn (decide (d < 0)) 1 = sgn (decide (d < 0)) n by unfold sgn; split <;> omega, Int.one_mul] at D
  exact of_core n d _ _ _ w (hide D)
end Go.Proofs.Ytjibbekojbaopaa
