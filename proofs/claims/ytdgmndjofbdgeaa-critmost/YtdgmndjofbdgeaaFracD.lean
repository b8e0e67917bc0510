/- Package frac: sums of fractions: the walk. -/
import Derived.Test.YtdgmndjofbdgeaaFracP2
namespace Go.Proofs.Ytdgmndjofbdgeaa
open Go.RowKit
set_option linter.unusedVariables false
set_option maxRecDepth 10000
set_option linter.unusedSimpArgs false
set_option maxHeartbeats 8000000 in
theorem plus_more (bp bq : Bool) (pn pd qn qd c A B LH LL RH RL NH NL r l OH OL E DH DL x y z : Int) (w : World) (hb : (bp == bq) = false) (T0 : Hid (∀ w, Calls Try.prog 73 #[.agg #[.int .u64 LH, .int .u64 LL], .agg #[.int .u64 RH, .int .u64 RL]] w fun e w' => e = .returned (.bool false) ∧ Keep w w')) (T3 : Hid (∀ w, Calls Try.prog 74 #[.agg #[.int .u64 LH, .int .u64 LL], .agg #[.int .u64 RH, .int .u64 RL]] w fun e w' => e = .returned (.agg #[.int .u64 NH, .int .u64 NL]) ∧ Keep w w')) (hc : ¬ c = 0) (hl : ¬ l = 0) (e1 : qd.tdiv c = A) (e2 : pd.tdiv c = B) (e3 : qd.tdiv l = E) (w1 : IntKind.u64.wrap A = A) (w2 : IntKind.u64.wrap B = B) (w3 : IntKind.u64.wrap E = E)
    (Dv : Int → Int → Int → Prop) (D1 : Dv pd qd c) (D2 : Dv r c l)
    (T1 : Hid (∀ (a b f : Int), Dv a b f → ∀ w, Calls Try.prog 70 #[.int .u64 a, .int .u64 b] w fun e w' => e = .returned (.int .u64 f) ∧ Keep w w'))
    (Pr : Int → Int → Int → Int → Prop) (P1 : Pr pn A LH LL) (P2 : Pr qn B RH RL) (P3 : Pr B E DH DL)
    (T2 : Hid (∀ (a b H L : Int), Pr a b H L → ∀ w, Calls Try.prog 71 #[.int .u64 a, .int .u64 b] w fun e w' => e = .returned (.agg #[.int .u64 H, .int .u64 L]) ∧ Keep w w'))
    (T4 : Hid (∀ w, Calls Try.prog 75 #[.agg #[.int .u64 NH, .int .u64 NL], .int .u64 c] w fun e w' => e = .returned (.int .u64 r) ∧ Keep w w'))
    (T5 : Hid (∀ w, Calls Try.prog 77 #[.agg #[.int .u64 NH, .int .u64 NL], .int .u64 l] w fun e w' => e = .returned (.agg #[.int .u64 OH, .int .u64 OL]) ∧ Keep w w'))
    (T6 : Hid (∀ w, Calls Try.prog 76 #[.bool bp, .agg #[.int .u64 OH, .int .u64 OL], .agg #[.int .u64 DH, .int .u64 DL]] w fun e w' => e = .returned (.tuple #[.agg #[.int .i64 x, .int .i64 y], .int .i64 z]) ∧ Keep w w')) :
    Calls Try.prog 66 #[.agg #[.bool bp, .int .u64 pn, .int .u64 pd], .agg #[.bool bq, .int .u64 qn, .int .u64 qd]] w fun e w' => e = .returned (.tuple #[.agg #[.int .i64 x, .int .i64 y], .int .i64 z]) ∧ Keep w w' := by
  go_enter Try.func66, Try.ntmps66
  go_upto_region 2 with (go_at_call 70; refine ((uq T1) _ _ _ (by assumption) _).mono ?_; rintro e w2 ⟨rfl, hk⟩; obtain ⟨o1, k1, rfl⟩ := hk.ext; clear hk)
  go_cut [7] (fun s wc => FrP w wc bp bq pn pd qn qd ∧ ∃ B, Bk wc B s LH LL)
  case first =>
    go_region_held3 (fun w' => w'.cell? ⟨w.heap.size, 0, none⟩ = some (.bool bp) ∧ w'.cell? ⟨w.heap.size, 1, none⟩ = some (.int .u64 pn) ∧ w'.cell? ⟨w.heap.size, 2, none⟩ = some (.int .u64 pd) ∧ w'.cell? ⟨w.heap.size + 1, 0, none⟩ = some (.bool bq) ∧ w'.cell? ⟨w.heap.size + 1, 1, none⟩ = some (.int .u64 qn) ∧ w'.cell? ⟨w.heap.size + 1, 2, none⟩ = some (.int .u64 qd)) (simp [go_sem]) (first | (go_at_call 71; refine ((uq T2) _ _ _ _ (by assumption) _).mono ?_; rintro e w2 ⟨rfl, hk⟩; obtain ⟨o2, k2, rfl⟩ := hk.ext; clear hk))
    all_goals
      go_wp2_with fail
      go_meet
      exact ⟨⟨by repeat (first | apply keep_ext | apply Keep.alloc | apply Keep.drew | exact Keep.refl _), by simp [go_sem], by simp [go_sem], by simp [go_sem], by simp [go_sem], by simp [go_sem], by simp [go_sem], by simp [go_sem], by simp [go_sem], by simp [go_sem], by simp [go_sem], by simp [go_sem], by simp [go_sem], by simp [go_sem]⟩, _, rfl, by simp [go_sem], by simp [go_sem], by simp [go_sem]⟩
  case rest =>
    obtain ⟨hF, BL, hs, lL, m0, m1⟩ := hcut
    obtain ⟨f1, l0, l1, l2, a0, a1, a2, b0, b1, b2, r0, r1, z0, z1⟩ := hF
    have hsz := f1.size
    subst hs
    go_upto_region 3 with fail
    go_cut [8] (fun s wc => FrP w wc bp bq pn pd qn qd ∧ (BL < wc.heap.size ∧ wc.cell? ⟨BL, 0, none⟩ = some (.int .u64 LH) ∧ wc.cell? ⟨BL, 1, none⟩ = some (.int .u64 LL)) ∧ ∃ B, Bk wc B s RH RL)
    case first =>
      go_region_held3 (fun w' => w'.cell? ⟨w.heap.size, 0, none⟩ = some (.bool bp) ∧ w'.cell? ⟨w.heap.size, 1, none⟩ = some (.int .u64 pn) ∧ w'.cell? ⟨w.heap.size, 2, none⟩ = some (.int .u64 pd) ∧ w'.cell? ⟨w.heap.size + 1, 0, none⟩ = some (.bool bq) ∧ w'.cell? ⟨w.heap.size + 1, 1, none⟩ = some (.int .u64 qn) ∧ w'.cell? ⟨w.heap.size + 1, 2, none⟩ = some (.int .u64 qd)) (simp [go_sem, l0, l1, l2, a0, a1, a2, b0, b1, b2, r0, r1, z0, z1, lL, m0, m1]) (first | (go_at_call 71; refine ((uq T2) _ _ _ _ (by assumption) _).mono ?_; rintro e w2 ⟨rfl, hk⟩; obtain ⟨o3, k3, rfl⟩ := hk.ext; clear hk))
      all_goals
        go_wp2_with fail
        go_meet
        exact ⟨⟨by repeat (first | apply keep_ext | apply Keep.alloc | apply Keep.drew | exact f1), by simp [go_sem, l0, l1, l2, a0, a1, a2, b0, b1, b2, r0, r1, z0, z1, lL, m0, m1], by simp [go_sem, l0, l1, l2, a0, a1, a2, b0, b1, b2, r0, r1, z0, z1, lL, m0, m1], by simp [go_sem, l0, l1, l2, a0, a1, a2, b0, b1, b2, r0, r1, z0, z1, lL, m0, m1], by simp [go_sem, l0, l1, l2, a0, a1, a2, b0, b1, b2, r0, r1, z0, z1, lL, m0, m1], by simp [go_sem, l0, l1, l2, a0, a1, a2, b0, b1, b2, r0, r1, z0, z1, lL, m0, m1], by simp [go_sem, l0, l1, l2, a0, a1, a2, b0, b1, b2, r0, r1, z0, z1, lL, m0, m1], by simp [go_sem, l0, l1, l2, a0, a1, a2, b0, b1, b2, r0, r1, z0, z1, lL, m0, m1], by simp [go_sem, l0, l1, l2, a0, a1, a2, b0, b1, b2, r0, r1, z0, z1, lL, m0, m1], by simp [go_sem, l0, l1, l2, a0, a1, a2, b0, b1, b2, r0, r1, z0, z1, lL, m0, m1], by simp [go_sem, l0, l1, l2, a0, a1, a2, b0, b1, b2, r0, r1, z0, z1, lL, m0, m1], by simp [go_sem, l0, l1, l2, a0, a1, a2, b0, b1, b2, r0, r1, z0, z1, lL, m0, m1], by simp [go_sem, l0, l1, l2, a0, a1, a2, b0, b1, b2, r0, r1, z0, z1, lL, m0, m1], by simp [go_sem, l0, l1, l2, a0, a1, a2, b0, b1, b2, r0, r1, z0, z1, lL, m0, m1]⟩, ⟨by simp [go_sem, l0, l1, l2, a0, a1, a2, b0, b1, b2, r0, r1, z0, z1, lL, m0, m1], by simp [go_sem, l0, l1, l2, a0, a1, a2, b0, b1, b2, r0, r1, z0, z1, lL, m0, m1], by simp [go_sem, l0, l1, l2, a0, a1, a2, b0, b1, b2, r0, r1, z0, z1, lL, m0, m1]⟩, _, rfl, by simp [go_sem], by simp [go_sem], by simp [go_sem]⟩
    case rest =>
      clear l0 l1 l2 a0 a1 a2 b0 b1 b2 r0 r1 z0 z1 lL m0 m1 f1 hsz
      obtain ⟨hF, ⟨lL, m0, m1⟩, BR, hs, lR, n0, n1⟩ := hcut
      obtain ⟨f2, l0, l1, l2, a0, a1, a2, b0, b1, b2, r0, r1, z0, z1⟩ := hF
      have hsz := f2.size
      subst hs
      obtain ⟨wz, rfl⟩ : ∃ wz, wz = wc := ⟨_, rfl⟩
      go_wp2_with fail
      (refine ((uq T0) _).mono ?_; rintro e w2 ⟨rfl, hk⟩; obtain ⟨o0, k0, rfl⟩ := hk.ext; clear hk)
      go_wp2_with fail
      (refine ((uq T3) _).mono ?_; rintro e w2 ⟨rfl, hk⟩; obtain ⟨o4, k4, rfl⟩ := hk.ext; clear hk)
      go_wp2_with fail
      (refine ((uq T4) _).mono ?_; rintro e w2 ⟨rfl, hk⟩; obtain ⟨o5, k5, rfl⟩ := hk.ext; clear hk)
      go_wp2_with fail
      (refine ((uq T1) _ _ _ (by assumption) _).mono ?_; rintro e w2 ⟨rfl, hk⟩; obtain ⟨o6, k6, rfl⟩ := hk.ext; clear hk)
      go_wp2_with fail
      go_region_held3 (fun w' => w'.cell? ⟨w.heap.size, 0, none⟩ = some (.bool bp) ∧ w'.cell? ⟨w.heap.size, 1, none⟩ = some (.int .u64 pn) ∧ w'.cell? ⟨w.heap.size, 2, none⟩ = some (.int .u64 pd) ∧ w'.cell? ⟨w.heap.size + 1, 0, none⟩ = some (.bool bq) ∧ w'.cell? ⟨w.heap.size + 1, 1, none⟩ = some (.int .u64 qn) ∧ w'.cell? ⟨w.heap.size + 1, 2, none⟩ = some (.int .u64 qd) ∧ w'.cell? ⟨wz.heap.size, 0, none⟩ = some (.int .u64 NH) ∧ w'.cell? ⟨wz.heap.size, 1, none⟩ = some (.int .u64 NL)) (simp [go_sem, l0, l1, l2, a0, a1, a2, b0, b1, b2, r0, r1, z0, z1, lL, m0, m1, lR, n0, n1]) (first | (go_at_call 77; refine ((uq T5) _).mono ?_; rintro e w2 ⟨rfl, hk⟩; obtain ⟨o7, k7, rfl⟩ := hk.ext; clear hk) | (go_at_call 71; refine ((uq T2) _ _ _ _ (by assumption) _).mono ?_; rintro e w2 ⟨rfl, hk⟩; obtain ⟨o8, k8, rfl⟩ := hk.ext; clear hk) | (go_at_call 76; refine ((uq T6) _).mono ?_; rintro e w2 ⟨rfl, hk⟩; obtain ⟨o9, k9, rfl⟩ := hk.ext; clear hk))
      all_goals go_wp2_with fail
      all_goals exact bodyPost_ret (v := .tuple #[.agg #[.int .i64 x, .int .i64 y], .int .i64 z]) (by simp [results, Try.results66, go_sem, l0, l1, l2, r0, r1]) rfl ⟨rfl, keep_ext (Keep.alloc (keep_set2 _ _ (keep_set2 _ _ f2)) _) _ _⟩
end Go.Proofs.Ytdgmndjofbdgeaa

namespace Go.Proofs.Ytdgmndjofbdgeaa
open Go.RowKit
set_option linter.unusedVariables false
/-- what plus comes to, of the signed numerators x and y -/
theorem fplus_end {x y : Int} {pd qd c L : Nat} (hc : Nat.gcd pd qd = c) (hL : Nat.gcd (x * (qd / c : Nat) + y * (pd / c : Nat)).natAbs c = L) (hp : Nat.gcd x.natAbs pd = 1) (hq : Nat.gcd y.natAbs qd = 1) (h1 : 0 < pd) (h2 : 0 < qd) :
    rn (x * qd + y * pd) ((pd : Int) * qd) = (x * (qd / c : Nat) + y * (pd / c : Nat)) / (L : Int) ∧ rd (x * qd + y * pd) ((pd : Int) * qd) = ((pd / c * (qd / L) : Nat) : Int) := by
  obtain ⟨g1, g2, g3, g4, g5, g6⟩ := plus_low hc hL hp hq h1 h2
  have hD : (0 : Int) < (pd : Int) * qd := by rw [← Int.natCast_mul]; have := Nat.mul_pos h1 h2; omega
  refine red_one (by omega) hD ?_ g2
  rw [Int.gcd, Int.natAbs_natCast, Int.natAbs_ediv_of_dvd g6, Int.natAbs_natCast]
  exact g1
theorem sgn_natAbs (b : Bool) (u : Nat) : (sgn b u).natAbs = u := by unfold sgn; split <;> omega
theorem sgn_div (b : Bool) (u : Int) (l : Nat) (hl : 0 < l) (hd : (l : Int) ∣ u) : sgn b (u / l) = sgn b u / l := by
  unfold sgn
  split
  · exact (Int.neg_ediv_of_dvd hd).symm
  · rfl
set_option maxHeartbeats 400000 in
/-- p + q -/
theorem fplus_any (bp bq : Bool) (pn pd qn qd : Nat) (w : World) (h1 : pn ≤ 9223372036854775808) (h2 : pd ≤ 9223372036854775808) (h3 : qn ≤ 9223372036854775808) (h4 : qd ≤ 9223372036854775808) (p0 : 0 < pd) (q0 : 0 < qd)
    (hp : Nat.gcd pn pd = 1) (hq : Nat.gcd qn qd = 1) :
    Calls Try.prog 66 #[.agg #[.bool bp, .int .u64 (pn : Int), .int .u64 (pd : Int)], .agg #[.bool bq, .int .u64 (qn : Int), .int .u64 (qd : Int)]] w fun e w' =>
      e = .returned (fv (rn (sgn bp pn * qd + sgn bq qn * pd) ((pd : Int) * qd)) (rd (sgn bp pn * qd + sgn bq qn * pd) ((pd : Int) * qd))) ∧ Keep w w' := by
  obtain ⟨c, hc⟩ : ∃ c, Nat.gcd pd qd = c := ⟨_, rfl⟩
  have c0 : 0 < c := by rw [← hc]; exact Nat.gcd_pos_of_pos_left _ p0
  have cle : c ≤ pd := by rw [← hc]; exact Nat.le_of_dvd p0 (Nat.gcd_dvd_left _ _)
  obtain ⟨L, hL⟩ : ∃ L, Nat.gcd (sgn bp pn * (qd / c : Nat) + sgn bq qn * (pd / c : Nat)).natAbs c = L := ⟨_, rfl⟩
  obtain ⟨E1, E2⟩ := fplus_end hc hL (by rw [sgn_natAbs]; exact hp) (by rw [sgn_natAbs]; exact hq) p0 q0
  obtain ⟨_, _, g3, L0, _, Ld⟩ := plus_low hc hL (by rw [sgn_natAbs]; exact hp) (by rw [sgn_natAbs]; exact hq) p0 q0
  have Lle : L ≤ c := by rw [← hL]; exact Nat.le_of_dvd c0 (Nat.gcd_dvd_right _ _)
  rw [E1, E2]
  have D1 := fun w => divisor_any pd qd w h2 h4 (.inr q0)
  rw [hc] at D1
  have eA : (qd : Int).tdiv c = (qd / c : Nat) := by rw [Int.tdiv_eq_ediv_of_nonneg (by omega)]; rfl
  have eB : (pd : Int).tdiv c = (pd / c : Nat) := by rw [Int.tdiv_eq_ediv_of_nonneg (by omega)]; rfl
  have eE : (qd : Int).tdiv L = (qd / L : Nat) := by rw [Int.tdiv_eq_ediv_of_nonneg (by omega)]; rfl
  have lA : qd / c ≤ qd := Nat.div_le_self _ _
  have lB : pd / c ≤ pd := Nat.div_le_self _ _
  have lE : qd / L ≤ qd := Nat.div_le_self _ _
  clear E1 E2
  generalize qd / c = A at *
  generalize pd / c = B at *
  generalize qd / L = E at *
  have mL : pn * A ≤ 9223372036854775808 * 9223372036854775808 := Nat.mul_le_mul (by omega) (by omega)
  have mR : qn * B ≤ 9223372036854775808 * 9223372036854775808 := Nat.mul_le_mul (by omega) (by omega)
  have mE : B * E ≤ 9223372036854775808 * 9223372036854775808 := Nat.mul_le_mul (by omega) (by omega)
  have P1 : ∀ w, _ := fun w => product_any pn A w (by omega) (by omega) (by omega) (by omega)
  have P2 : ∀ w, _ := fun w => product_any qn B w (by omega) (by omega) (by omega) (by omega)
  have P3 : ∀ w, _ := fun w => product_any B E w (by omega) (by omega) (by omega) (by omega)
  rw [← Int.natCast_mul] at P1 P2 P3
  have eN : sgn bp pn * A + sgn bq qn * B = sgn bp ((pn * A : Nat) : Int) + sgn bq ((qn * B : Nat) : Int) := by
    unfold sgn
    rw [Int.natCast_mul, Int.natCast_mul]
    split <;> split <;> simp only [Int.neg_mul]
  rw [eN] at hL Ld ⊢
  clear eN
  generalize pn * A = X at *
  generalize qn * B = Y at *
  generalize B * E = Z at *
  have fin : ∀ (b : Bool) (N : Nat), N ≤ X + Y → sgn b N = sgn bp X + sgn bq Y →
      (∀ w, Calls Try.prog 75 #[.agg #[.int .u64 (hiOf N), .int .u64 (loOf N)], .int .u64 (c : Int)] w fun e w' => e = .returned (.int .u64 ((N : Int) % c)) ∧ Keep w w')
      ∧ (∀ w, Calls Try.prog 77 #[.agg #[.int .u64 (hiOf N), .int .u64 (loOf N)], .int .u64 (L : Int)] w fun e w' => e = .returned (.agg #[.int .u64 (hiOf ((N : Int) / L)), .int .u64 (loOf ((N : Int) / L))]) ∧ Keep w w')
      ∧ (∀ w, Calls Try.prog 70 #[.int .u64 ((N : Int) % c), .int .u64 (c : Int)] w fun e w' => e = .returned (.int .u64 (L : Int)) ∧ Keep w w')
      ∧ (∀ w, Calls Try.prog 76 #[.bool b, .agg #[.int .u64 (hiOf ((N : Int) / L)), .int .u64 (loOf ((N : Int) / L))], .agg #[.int .u64 (hiOf Z), .int .u64 (loOf Z)]] w fun e w' => e = .returned (fv ((sgn bp X + sgn bq Y) / L) Z) ∧ Keep w w') := by
    intro b N hN hs
    have hm : N % c < c := Nat.mod_lt _ c0
    have hL' : Nat.gcd N c = L := by rw [← hs, sgn_natAbs] at hL; exact hL
    refine ⟨fun w => wrem_any N c w (by omega) (by omega) (by omega) (by omega), fun w => wdiv_any N L w (by omega) (by omega) (by omega) (by omega), fun w => ?_, fun w => ?_⟩
    · have k := divisor_any (N % c) c w (by omega) (by omega) (.inr c0)
      rw [← Nat.gcd_rec, Nat.gcd_comm, hL'] at k
      exact k
    · have hd : (L : Int) ∣ (N : Int) := by rw [← hL']; exact Int.natCast_dvd_natCast.2 (Nat.gcd_dvd_left _ _)
      have hq' : 0 ≤ (N : Int) / L ∧ (N : Int) / L ≤ N := ⟨Int.ediv_nonneg (by omega) (by omega), Int.ediv_le_self _ (by omega)⟩
      have k := fit_any b ((N : Int) / L) Z w hq'.1 (by omega) (by omega) (by omega)
      rw [sgn_div b N L L0 hd, hs] at k
      exact k
  have wr : ∀ n : Nat, n ≤ 9223372036854775808 → IntKind.u64.wrap (n : Int) = n := fun n h => by rw [IntKind.wrap_u64]; omega
  by_cases hb : bp = bq
  · subst hb
    obtain ⟨f1, f2, f3, f4⟩ := fin bp (X + Y) (by omega) (by unfold sgn; split <;> omega)
    refine plus_same bp bp pn pd qn qd c A B (hiOf X) (loOf X) (hiOf Y) (loOf Y) (hiOf (X + Y : Nat)) (loOf (X + Y : Nat)) _ L _ _ E (hiOf Z) (loOf Z) _ _ _ w (by simp) (hide fun w => ?_) (by omega) (by omega) eA eB eE (wr A (by omega)) (wr B (by omega)) (wr E (by omega))
      (fun a b g => ∀ w, Calls Try.prog 70 #[.int .u64 a, .int .u64 b] w fun e w' => e = .returned (.int .u64 g) ∧ Keep w w') D1 f3 (hide fun a b g h => h)
      (fun a b H L => ∀ w, Calls Try.prog 71 #[.int .u64 a, .int .u64 b] w fun e w' => e = .returned (.agg #[.int .u64 H, .int .u64 L]) ∧ Keep w w') P1 P2 P3 (hide fun a b H L h => h)
      (hide f1) (hide f2) (hide f4)
    have k := wadd_any X Y w (by omega) (by omega) (by omega)
    rw [← Int.natCast_add] at k
    exact k
  · have hb' : (bp == bq) = false := by simpa using hb
    by_cases hlt : X < Y
    · obtain ⟨f1, f2, f3, f4⟩ := fin bq (Y - X) (by omega) (by cases bp <;> cases bq <;> simp_all [sgn] <;> omega)
      refine plus_less bp bq pn pd qn qd c A B (hiOf X) (loOf X) (hiOf Y) (loOf Y) (hiOf (Y - X : Nat)) (loOf (Y - X : Nat)) _ L _ _ E (hiOf Z) (loOf Z) _ _ _ w hb' (hide fun w => ?_) (hide fun w => ?_) (by omega) (by omega) eA eB eE (wr A (by omega)) (wr B (by omega)) (wr E (by omega))
        (fun a b g => ∀ w, Calls Try.prog 70 #[.int .u64 a, .int .u64 b] w fun e w' => e = .returned (.int .u64 g) ∧ Keep w w') D1 f3 (hide fun a b g h => h)
        (fun a b H L => ∀ w, Calls Try.prog 71 #[.int .u64 a, .int .u64 b] w fun e w' => e = .returned (.agg #[.int .u64 H, .int .u64 L]) ∧ Keep w w') P1 P2 P3 (hide fun a b H L h => h)
        (hide f1) (hide f2) (hide f4)
      · have k := wless_any X Y w (by omega) (by omega)
        rw [decide_eq_true (by omega)] at k
        exact k
      · have k := wsub_any Y X w (by omega) (by omega) (by omega)
        rw [← Int.natCast_sub (by omega)] at k
        exact k
    · obtain ⟨f1, f2, f3, f4⟩ := fin bp (X - Y) (by omega) (by cases bp <;> cases bq <;> simp_all [sgn] <;> omega)
      refine plus_more bp bq pn pd qn qd c A B (hiOf X) (loOf X) (hiOf Y) (loOf Y) (hiOf (X - Y : Nat)) (loOf (X - Y : Nat)) _ L _ _ E (hiOf Z) (loOf Z) _ _ _ w hb' (hide fun w => ?_) (hide fun w => ?_) (by omega) (by omega) eA eB eE (wr A (by omega)) (wr B (by omega)) (wr E (by omega))
        (fun a b g => ∀ w, Calls Try.prog 70 #[.int .u64 a, .int .u64 b] w fun e w' => e = .returned (.int .u64 g) ∧ Keep w w') D1 f3 (hide fun a b g h => h)
        (fun a b H L => ∀ w, Calls Try.prog 71 #[.int .u64 a, .int .u64 b] w fun e w' => e = .returned (.agg #[.int .u64 H, .int .u64 L]) ∧ Keep w w') P1 P2 P3 (hide fun a b H L h => h)
        (hide f1) (hide f2) (hide f4)
      · have k := wless_any X Y w (by omega) (by omega)
        rw [decide_eq_false (by omega)] at k
        exact k
      · have k := wsub_any X Y w (by omega) (by omega) (by omega)
        rw [← Int.natCast_sub (by omega)] at k
        exact k
end Go.Proofs.Ytdgmndjofbdgeaa

namespace Go.Proofs.Ytdgmndjofbdgeaa
open Go.RowKit
set_option linter.unusedVariables false
set_option maxRecDepth 10000
set_option maxHeartbeats 1000000 in
theorem sum_add (n d n2 d2 : Int) (b b2 : Bool) (x y x2 y2 X Y Z : Int) (w : World) (Tk : Int → Int → Bool → Int → Int → Prop) (K1 : Tk n d b x y) (K2 : Tk n2 d2 b2 x2 y2)
    (T1 : Hid (∀ (n d : Int) (b : Bool) (x y : Int), Tk n d b x y → ∀ w, Calls Try.prog 67 #[.agg #[.int .i64 n, .int .i64 d]] w fun e w' => e = .returned (.agg #[.bool b, .int .u64 x, .int .u64 y]) ∧ Keep w w'))
    (T2 : Hid (∀ w, Calls Try.prog 58 #[.agg #[.bool b2, .int .u64 x2, .int .u64 y2]] w fun e w' => e = .returned (.agg #[.bool b2, .int .u64 x2, .int .u64 y2]) ∧ Keep w w'))
    (T3 : Hid (∀ w, Calls Try.prog 66 #[.agg #[.bool b, .int .u64 x, .int .u64 y], .agg #[.bool b2, .int .u64 x2, .int .u64 y2]] w fun e w' => e = .returned (.tuple #[.agg #[.int .i64 X, .int .i64 Y], .int .i64 Z]) ∧ Keep w w')) :
    Calls Try.prog 57 #[.agg #[.int .i64 n, .int .i64 d], .agg #[.int .i64 n2, .int .i64 d2], .func (.func 58) #[] #[]] w fun e w' => e = .returned (.tuple #[.agg #[.int .i64 X, .int .i64 Y], .int .i64 Z]) ∧ Keep w w' := by
  go_enter Try.func57, Try.ntmps57
  go_wp2_with fail
  go_region_held3 (fun w' => w'.cell? ⟨w.heap.size, 0, none⟩ = some (.int .i64 n) ∧ w'.cell? ⟨w.heap.size, 1, none⟩ = some (.int .i64 d) ∧ w'.cell? ⟨w.heap.size + 1, 0, none⟩ = some (.int .i64 n2) ∧ w'.cell? ⟨w.heap.size + 1, 1, none⟩ = some (.int .i64 d2)) (simp [go_sem]) (first | (go_at_call 67; refine ((uq T1) _ _ _ _ _ (by assumption) _).mono ?_; rintro e w2 ⟨rfl, hk⟩; obtain ⟨o1, k1, rfl⟩ := hk.ext; clear hk) | (go_at_call 58; refine ((uq T2) _).mono ?_; rintro e w2 ⟨rfl, hk⟩; obtain ⟨o2, k2, rfl⟩ := hk.ext; clear hk) | (go_at_call 66; refine ((uq T3) _).mono ?_; rintro e w2 ⟨rfl, hk⟩; obtain ⟨o3, k3, rfl⟩ := hk.ext; clear hk))
  all_goals go_wp2_with fail
  all_goals exact bodyPost_ret (v := .tuple #[.agg #[.int .i64 X, .int .i64 Y], .int .i64 Z]) (by simp [results, Try.results57, go_sem]) rfl ⟨rfl, by repeat (first | apply keep_ext | apply Keep.alloc | apply Keep.drew | (refine keep_set _ _ _ (by omega) ?_) | assumption | exact Keep.refl _)⟩
set_option maxHeartbeats 400000 in
theorem add_core (n d n2 d2 X Y Z : Int) (w : World) (T : Hid (∀ w, Calls Try.prog 57 #[.agg #[.int .i64 n, .int .i64 d], .agg #[.int .i64 n2, .int .i64 d2], .func (.func 58) #[] #[]] w fun e w' => e = .returned (.tuple #[.agg #[.int .i64 X, .int .i64 Y], .int .i64 Z]) ∧ Keep w w')) :
    Calls Try.prog 48 #[.agg #[.int .i64 n, .int .i64 d], .agg #[.int .i64 n2, .int .i64 d2]] w fun e w' => e = .returned (.tuple #[.agg #[.int .i64 X, .int .i64 Y], .int .i64 Z]) ∧ Keep w w' := by
  go_enter Try.func48, Try.ntmps48
  go_wp2_with fail
  (refine ((uq T) _).mono ?_; rintro e w2 ⟨rfl, hk⟩; obtain ⟨o1, k1, rfl⟩ := hk.ext; clear hk)
  go_wp2_with fail
  exact bodyPost_ret (v := .tuple #[.agg #[.int .i64 X, .int .i64 Y], .int .i64 Z]) (by simp [results, Try.results48, go_sem]) rfl ⟨rfl, by repeat (first | apply keep_ext | apply Keep.alloc | apply Keep.drew | (refine keep_set _ _ _ (by omega) ?_) | assumption | exact Keep.refl _)⟩

theorem cd_nat (n d : Int) (w : World) (h1 : -9223372036854775808 ≤ n) (h2 : n ≤ 9223372036854775807) (h3 : -9223372036854775808 ≤ d) (h4 : d ≤ 9223372036854775807) :
    ∃ u v : Nat, (u : Int) = (cn n d).natAbs ∧ (v : Int) = cd n d ∧ u ≤ 9223372036854775808 ∧ v ≤ 9223372036854775808 ∧ 0 < v ∧ Nat.gcd u v = 1 ∧ sgn (decide (cn n d < 0)) u = cn n d := by
  obtain ⟨r1, r2, r3, r4, r5⟩ := rt_counted n d h1 h2 h4
  refine ⟨(cn n d).natAbs, (cd n d).natAbs, rfl, by omega, by omega, by omega, by omega, r2, ?_⟩
  unfold sgn
  by_cases h : cn n d < 0
  · simp only [h, decide_true, if_true]; omega
  · simp only [h, decide_false, Bool.false_eq_true, if_false]; omega
theorem fadd_any (n d n2 d2 : Int) (w : World) (h1 : -9223372036854775808 ≤ n) (h2 : n ≤ 9223372036854775807) (h3 : -9223372036854775808 ≤ d) (h4 : d ≤ 9223372036854775807) (k1 : -9223372036854775808 ≤ n2) (k2 : n2 ≤ 9223372036854775807) (k3 : -9223372036854775808 ≤ d2) (k4 : d2 ≤ 9223372036854775807) :
    Calls Try.prog 48 #[.agg #[.int .i64 n, .int .i64 d], .agg #[.int .i64 n2, .int .i64 d2]] w fun e w' => e = .returned (fv (rn (cn n d * cd n2 d2 + cn n2 d2 * cd n d) (cd n d * cd n2 d2)) (rd (cn n d * cd n2 d2 + cn n2 d2 * cd n d) (cd n d * cd n2 d2))) ∧ Keep w w' := by
  obtain ⟨u, v, e1, e2, u1, v1, v0, g, s⟩ := cd_nat n d w h1 h2 h3 h4
  obtain ⟨u', v', e1', e2', u1', v1', v0', g', s'⟩ := cd_nat n2 d2 w k1 k2 k3 k4
  have A := fun w => take_any n d w h1 h2 h3 h4
  have B := fun w => take_any n2 d2 w k1 k2 k3 k4
  rw [← e1, ← e2] at A
  rw [← e1', ← e2'] at B
  have P := fun w => fplus_any (decide (cn n d < 0)) (decide (cn n2 d2 < 0)) u v u' v' w u1 v1 u1' v1' v0 v0' g g'
  rw [s, s', e2, e2'] at P
  rw [e2] at A
  rw [e2'] at B
  exact add_core n d n2 d2 _ _ _ w (hide fun w => sum_add n d n2 d2 _ _ _ _ _ _ _ _ _ w (fun n d b x y => ∀ w, Calls Try.prog 67 #[.agg #[.int .i64 n, .int .i64 d]] w fun e w' => e = .returned (.agg #[.bool b, .int .u64 x, .int .u64 y]) ∧ Keep w w') A B (hide fun n d b x y h => h) (hide fun w => itself_any _ _ _ w) (hide P))
end Go.Proofs.Ytdgmndjofbdgeaa
