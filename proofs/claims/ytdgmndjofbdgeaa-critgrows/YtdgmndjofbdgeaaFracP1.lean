/- Package frac: a fraction in lowest terms, if it fits. -/
import Derived.Test.YtdgmndjofbdgeaaFracB
import Derived.Deep.DeepCutAuto
namespace Go.Proofs.Ytdgmndjofbdgeaa
open Go.RowKit
set_option linter.unusedVariables false

set_option maxHeartbeats 400000 in
theorem fit_a (H L DH DL : Int) (w : World) (b : Bool) (h : ¬ DH = 0) :
    Calls Try.prog 76 #[.bool b, .agg #[.int .u64 H, .int .u64 L], .agg #[.int .u64 DH, .int .u64 DL]] w fun e w' => e = .returned (.tuple #[.agg #[.int .i64 0, .int .i64 0], .int .i64 2]) ∧ Keep w w' := by
  go_enter Try.func76, Try.ntmps76
  go_wp2
  exact bodyPost_ret (v := .tuple #[.agg #[.int .i64 0, .int .i64 0], .int .i64 2]) (by simp [results, Try.results76, go_sem]) rfl ⟨rfl, by repeat (first | apply keep_ext | apply Keep.alloc | apply Keep.drew | exact Keep.refl _)⟩

set_option maxHeartbeats 400000 in
theorem fit_b (H L DL : Int) (w : World) (b : Bool) (h : 9223372036854775807 < DL) :
    Calls Try.prog 76 #[.bool b, .agg #[.int .u64 H, .int .u64 L], .agg #[.int .u64 0, .int .u64 DL]] w fun e w' => e = .returned (.tuple #[.agg #[.int .i64 0, .int .i64 0], .int .i64 2]) ∧ Keep w w' := by
  go_enter Try.func76, Try.ntmps76
  go_wp2
  exact bodyPost_ret (v := .tuple #[.agg #[.int .i64 0, .int .i64 0], .int .i64 2]) (by simp [results, Try.results76, go_sem]) rfl ⟨rfl, by repeat (first | apply keep_ext | apply Keep.alloc | apply Keep.drew | exact Keep.refl _)⟩

set_option maxHeartbeats 400000 in
theorem fit_c_false (H L DL : Int) (w : World) (h : ¬ 9223372036854775807 < DL) (h2 : ¬ H = 0) :
    Calls Try.prog 76 #[.bool false, .agg #[.int .u64 H, .int .u64 L], .agg #[.int .u64 0, .int .u64 DL]] w fun e w' => e = .returned (.tuple #[.agg #[.int .i64 0, .int .i64 0], .int .i64 2]) ∧ Keep w w' := by
  go_enter Try.func76, Try.ntmps76
  go_wp2
  exact bodyPost_ret (v := .tuple #[.agg #[.int .i64 0, .int .i64 0], .int .i64 2]) (by simp [results, Try.results76, go_sem]) rfl ⟨rfl, by repeat (first | apply keep_ext | apply Keep.alloc | apply Keep.drew | exact Keep.refl _)⟩

set_option maxHeartbeats 400000 in
theorem fit_d_false (L DL : Int) (w : World) (h : ¬ 9223372036854775807 < DL) (h2 : 9223372036854775807 < L) :
    Calls Try.prog 76 #[.bool false, .agg #[.int .u64 0, .int .u64 L], .agg #[.int .u64 0, .int .u64 DL]] w fun e w' => e = .returned (.tuple #[.agg #[.int .i64 0, .int .i64 0], .int .i64 2]) ∧ Keep w w' := by
  go_enter Try.func76, Try.ntmps76
  go_wp2
  exact bodyPost_ret (v := .tuple #[.agg #[.int .i64 0, .int .i64 0], .int .i64 2]) (by simp [results, Try.results76, go_sem]) rfl ⟨rfl, by repeat (first | apply keep_ext | apply Keep.alloc | apply Keep.drew | exact Keep.refl _)⟩

set_option maxHeartbeats 400000 in
theorem fit_c_true (H L DL : Int) (w : World) (h : ¬ 9223372036854775807 < DL) (h2 : ¬ H = 0) :
    Calls Try.prog 76 #[.bool true, .agg #[.int .u64 H, .int .u64 L], .agg #[.int .u64 0, .int .u64 DL]] w fun e w' => e = .returned (.tuple #[.agg #[.int .i64 0, .int .i64 0], .int .i64 2]) ∧ Keep w w' := by
  go_enter Try.func76, Try.ntmps76
  go_wp2
  exact bodyPost_ret (v := .tuple #[.agg #[.int .i64 0, .int .i64 0], .int .i64 2]) (by simp [results, Try.results76, go_sem]) rfl ⟨rfl, by repeat (first | apply keep_ext | apply Keep.alloc | apply Keep.drew | exact Keep.refl _)⟩

set_option maxHeartbeats 400000 in
theorem fit_d_true (L DL : Int) (w : World) (h : ¬ 9223372036854775807 < DL) (h2 : 9223372036854775808 < L) :
    Calls Try.prog 76 #[.bool true, .agg #[.int .u64 0, .int .u64 L], .agg #[.int .u64 0, .int .u64 DL]] w fun e w' => e = .returned (.tuple #[.agg #[.int .i64 0, .int .i64 0], .int .i64 2]) ∧ Keep w w' := by
  go_enter Try.func76, Try.ntmps76
  go_wp2
  exact bodyPost_ret (v := .tuple #[.agg #[.int .i64 0, .int .i64 0], .int .i64 2]) (by simp [results, Try.results76, go_sem]) rfl ⟨rfl, by repeat (first | apply keep_ext | apply Keep.alloc | apply Keep.drew | exact Keep.refl _)⟩

set_option maxHeartbeats 400000 in
theorem fit_e_false (L DL : Int) (w : World) (h : ¬ 9223372036854775807 < DL) (h2 : ¬ 9223372036854775807 < L) (e1 : wrap64 L = L) (e2 : wrap64 DL = DL) :
    Calls Try.prog 76 #[.bool false, .agg #[.int .u64 0, .int .u64 L], .agg #[.int .u64 0, .int .u64 DL]] w fun e w' => e = .returned (.tuple #[.agg #[.int .i64 L, .int .i64 DL], .int .i64 0]) ∧ Keep w w' := by
  go_enter Try.func76, Try.ntmps76
  go_wp2
  exact bodyPost_ret (v := .tuple #[.agg #[.int .i64 L, .int .i64 DL], .int .i64 0]) (by simp [results, Try.results76, go_sem]) rfl ⟨rfl, by repeat (first | apply keep_ext | apply Keep.alloc | apply Keep.drew | exact Keep.refl _)⟩

set_option maxHeartbeats 400000 in
theorem fit_e_true (L DL U N : Int) (w : World) (h : ¬ 9223372036854775807 < DL) (h2 : ¬ 9223372036854775808 < L) (e0 : IntKind.u64.wrap (-L) = U) (e1 : wrap64 U = N) (e2 : wrap64 DL = DL) :
    Calls Try.prog 76 #[.bool true, .agg #[.int .u64 0, .int .u64 L], .agg #[.int .u64 0, .int .u64 DL]] w fun e w' => e = .returned (.tuple #[.agg #[.int .i64 N, .int .i64 DL], .int .i64 0]) ∧ Keep w w' := by
  go_enter Try.func76, Try.ntmps76
  go_wp2
  exact bodyPost_ret (v := .tuple #[.agg #[.int .i64 N, .int .i64 DL], .int .i64 0]) (by simp [results, Try.results76, go_sem]) rfl ⟨rfl, by repeat (first | apply keep_ext | apply Keep.alloc | apply Keep.drew | exact Keep.refl _)⟩

/-- a size with its sign -/
def sgn (b : Bool) (u : Int) : Int := if b then -u else u
theorem pair_no {n d : Int} (h : fit n = false ∨ fit d = false) : pN n d = 0 ∧ pD n d = 0 ∧ pE n d = 2 := by
  have e : (fit n && fit d) = false := by rcases h with h | h <;> simp [h]
  simp [pN, pD, pE, e]
theorem pair_yes {n d : Int} (h : fit n = true) (h2 : fit d = true) : pN n d = n ∧ pD n d = d ∧ pE n d = 0 := by
  simp [pN, pD, pE, h, h2]
theorem fit_any (b : Bool) (u v : Int) (w : World) (h0 : 0 ≤ u) (h1 : u < 340282366920938463463374607431768211456) (h2 : 0 ≤ v) (h3 : v < 340282366920938463463374607431768211456) :
    Calls Try.prog 76 #[.bool b, .agg #[.int .u64 (hiOf u), .int .u64 (loOf u)], .agg #[.int .u64 (hiOf v), .int .u64 (loOf v)]] w fun e w' => e = .returned (fv (sgn b u) v) ∧ Keep w w' := by
  have bu := half_bd h0 h1
  have bv := half_bd h2 h3
  have hu := halves u
  have hv := halves v
  unfold fv
  by_cases c1 : hiOf v = 0
  · by_cases c2 : 9223372036854775807 < loOf v
    · obtain ⟨e1, e2, e3⟩ := pair_no (n := sgn b u) (d := v) (.inr (fit_no (by omega)))
      rw [e1, e2, e3, c1]
      exact fit_b _ _ _ w b c2
    · have ev : loOf v = v := by omega
      have fd : fit v = true := fit_yes (by omega) (by omega)
      by_cases c3 : hiOf u = 0
      · have eu : loOf u = u := by omega
        rw [c1, c3, ev, eu]
        cases b
        · by_cases c4 : 9223372036854775807 < u
          · obtain ⟨e1, e2, e3⟩ := pair_no (n := sgn false u) (d := v) (.inl (fit_no (by simp [sgn]; omega)))
            rw [e1, e2, e3]
            exact fit_d_false _ _ w (by omega) c4
          · obtain ⟨e1, e2, e3⟩ := pair_yes (n := sgn false u) (d := v) (fit_yes (by simp [sgn]; omega) (by simp [sgn]; omega)) fd
            rw [e1, e2, e3]
            exact fit_e_false _ _ w (by omega) c4 (wrap_in (by omega)) (wrap_in (by omega))
        · by_cases c4 : 9223372036854775808 < u
          · obtain ⟨e1, e2, e3⟩ := pair_no (n := sgn true u) (d := v) (.inl (fit_no (by simp [sgn]; omega)))
            rw [e1, e2, e3]
            exact fit_d_true _ _ w (by omega) c4
          · obtain ⟨e1, e2, e3⟩ := pair_yes (n := sgn true u) (d := v) (fit_yes (by simp [sgn]; omega) (by simp [sgn]; omega)) fd
            rw [e1, e2, e3]
            exact fit_e_true u v _ _ w (by omega) c4 rfl (by simp only [sgn, if_true]; rw [IntKind.wrap_u64]; unfold wrap64; omega) (wrap_in (by omega))
      · have c3' := c3
        rw [c1]
        cases b
        · obtain ⟨e1, e2, e3⟩ := pair_no (n := sgn false u) (d := v) (.inl (fit_no (by simp [sgn]; omega)))
          rw [e1, e2, e3]
          exact fit_c_false _ _ _ w c2 c3'
        · obtain ⟨e1, e2, e3⟩ := pair_no (n := sgn true u) (d := v) (.inl (fit_no (by simp [sgn]; omega)))
          rw [e1, e2, e3]
          exact fit_c_true _ _ _ w c2 c3'
  · obtain ⟨e1, e2, e3⟩ := pair_no (n := sgn b u) (d := v) (.inr (fit_no (by omega)))
    rw [e1, e2, e3]
    exact fit_a _ _ _ _ w b c1
end Go.Proofs.Ytdgmndjofbdgeaa

namespace Go.Proofs.Ytdgmndjofbdgeaa
open Go.RowKit
set_option linter.unusedVariables false
theorem keep_set {a w : World} (n i : Nat) (v : Value) (hn : a.heap.size ≤ n) (h : Keep a w) : Keep a (w.setCell ⟨n, i, none⟩ v) := Below.setCell h hn v
theorem keep_set2 {a w : World} (i : Nat) (v : Value) (h : Keep a w) : Keep a (w.setCell ⟨a.heap.size + 1 + 1, i, none⟩ v) := Below.setCell h (Nat.le_trans (Nat.le_succ _) (Nat.le_succ _)) v
/-- the two parameters and the result as they were laid -/
def FrP (w wc : World) (bp bq : Bool) (pn pd qn qd : Int) : Prop :=
  Keep w wc ∧ w.heap.size < wc.heap.size ∧ w.heap.size + 1 < wc.heap.size ∧ w.heap.size + 1 + 1 < wc.heap.size
  ∧ wc.cell? ⟨w.heap.size, 0, none⟩ = some (.bool bp) ∧ wc.cell? ⟨w.heap.size, 1, none⟩ = some (.int .u64 pn) ∧ wc.cell? ⟨w.heap.size, 2, none⟩ = some (.int .u64 pd) ∧ wc.cell? ⟨w.heap.size + 1, 0, none⟩ = some (.bool bq) ∧ wc.cell? ⟨w.heap.size + 1, 1, none⟩ = some (.int .u64 qn) ∧ wc.cell? ⟨w.heap.size + 1, 2, none⟩ = some (.int .u64 qd)
  ∧ wc.cell? ⟨w.heap.size + 1 + 1, 0, none⟩ = some (.int .i64 0) ∧ wc.cell? ⟨w.heap.size + 1 + 1, 1, none⟩ = some (.int .i64 0)
  ∧ wc.frozen? ⟨w.heap.size + 1 + 1, 0, none⟩ = false ∧ wc.frozen? ⟨w.heap.size + 1 + 1, 1, none⟩ = false
/-- a number of 128 bits that lies in a block -/
def Bk (wc : World) (B : Nat) (s : Value) (H L : Int) : Prop := s = .pointer (some ⟨B, 0, none⟩) ∧ B < wc.heap.size ∧ wc.cell? ⟨B, 0, none⟩ = some (.int .u64 H) ∧ wc.cell? ⟨B, 1, none⟩ = some (.int .u64 L)
end Go.Proofs.Ytdgmndjofbdgeaa

namespace Go.Proofs.Ytdgmndjofbdgeaa
open Go.RowKit
set_option linter.unusedVariables false
set_option maxRecDepth 10000
set_option linter.unusedSimpArgs false
set_option maxHeartbeats 8000000 in
theorem plus_same (bp bq : Bool) (pn pd qn qd c A B LH LL RH RL NH NL r l OH OL E DH DL x y z : Int) (w : World) (hb : (bp == bq) = true) (T3 : Hid (∀ w, Calls Try.prog 72 #[.agg #[.int .u64 LH, .int .u64 LL], .agg #[.int .u64 RH, .int .u64 RL]] w fun e w' => e = .returned (.agg #[.int .u64 NH, .int .u64 NL]) ∧ Keep w w')) (hc : ¬ c = 0) (hl : ¬ l = 0) (e1 : qd.tdiv c = A) (e2 : pd.tdiv c = B) (e3 : qd.tdiv l = E) (w1 : IntKind.u64.wrap A = A) (w2 : IntKind.u64.wrap B = B) (w3 : IntKind.u64.wrap E = E)
    (Dv : Int → Int → Int → Prop) (D1 : Dv pd qd c) (D2 : Dv r c l)
    (T1 : Hid (∀ (a b f : Int), Dv a b f → ∀ w, Calls Try.prog 70 #[.int .u64 a, .int .u64 b] w fun e w' => e = .returned (.int .u64 f) ∧ Keep w w'))
    (Pr : Int → Int → Int → Int → Prop) (P1 : Pr pn A LH LL) (P2 : Pr qn B RH RL) (P3 : Pr B E DH DL)
    (T2 : Hid (∀ (a b H L : Int), Pr a b H L → ∀ w, Calls Try.prog 71 #[.int .u64 a, .int .u64 b] w fun e w' => e = .returned (.agg #[.int .u64 H, .int .u64 L]) ∧ Keep w w'))
    (T4 : Hid (∀ w, Calls Try.prog 75 #[.agg #[.int .u64 NH, .int .u64 NL], .int .u64 c] w fun e w' => e = .returned (.int .u64 r) ∧ Keep w w'))
    (T5 : Hid (∀ w, Calls Try.prog 77 #[.agg #[.int .u64 NH, .int .u64 NL], .int .u64 l] w fun e w' => e = .returned (.agg #[.int .u64 OH, .int .u64 OL]) ∧ Keep w w'))
    (T6 : Hid (∀ w, Calls Try.prog 76 #[.bool bp, .agg #[.int .u64 OH, .int .u64 OL], .agg #[.int .u64 DH, .int .u64 DL]] w fun e w' => e = .returned (.tuple #[.agg #[.int .i64 x, .int .i64 y], .int .i64 z]) ∧ Keep w w')) :
    Calls Try.prog 66 #[.agg #[.bool bp, .int .u64 pn, .int .u64 pd], .agg #[.bool bq, .int .u64 qn, .int .u64 qd]] w fun e w' => e = .returned (.tuple #[.agg #[.int .i64 x, .int .i64 y], .int .i64 z]) ∧ Keep w w' := by
  go_enter Try.func66, Try.ntmps66
  go_upto_region 2 with (go_at_call 70; refine ((uq T1) _ _ _ (by assumption) _).mono ?_; rintro e w2 ⟨rfl, hk⟩; obtain ⟨o1, k1, rfl⟩ := hk.ext; clear hk)
  go_cut [7] (fun s wc => FrP w wc bp bq pn pd qn qd ∧ ∃ B, Bk wc B s LH LL)
  case first =>
    go_region_held3 (fun w' => w'.cell? ⟨w.heap.size, 0, none⟩ = some (.bool bp) ∧ w'.cell? ⟨w.heap.size, 1, none⟩ = some (.int .u64 pn) ∧ w'.cell? ⟨w.heap.size, 2, none⟩ = some (.int .u64 pd) ∧ w'.cell? ⟨w.heap.size + 1, 0, none⟩ = some (.bool bq) ∧ w'.cell? ⟨w.heap.size + 1, 1, none⟩ = some (.int .u64 qn) ∧ w'.cell? ⟨w.heap.size + 1, 2, none⟩ = some (.int .u64 qd)) (simp [go_sem]) (first | (go_at_call 71; refine ((uq T2) _ _ _ _ (by assumption) _).mono ?_; rintro e w2 ⟨rfl, hk⟩; obtain ⟨o2, k2, rfl⟩ := hk.ext; clear hk))
    all_goals
      go_wp2_with fail
      go_meet
      exact ⟨⟨by repeat (first | apply keep_ext | apply Keep.alloc | apply Keep.drew | exact Keep.refl _), by simp [go_sem], by simp [go_sem], by simp [go_sem], by simp [go_sem], by simp [go_sem], by simp [go_sem], by simp [go_sem], by simp [go_sem], by simp [go_sem], by simp [go_sem], by simp [go_sem], by simp [go_sem], by simp [go_sem]⟩, _, rfl, by simp [go_sem], by simp [go_sem], by simp [go_sem]⟩
  case rest =>
    obtain ⟨hF, BL, hs, lL, m0, m1⟩ := hcut
    obtain ⟨f1, l0, l1, l2, a0, a1, a2, b0, b1, b2, r0, r1, z0, z1⟩ := hF
    have hsz := f1.size
    subst hs
    go_upto_region 3 with fail
    go_cut [8] (fun s wc => FrP w wc bp bq pn pd qn qd ∧ (BL < wc.heap.size ∧ wc.cell? ⟨BL, 0, none⟩ = some (.int .u64 LH) ∧ wc.cell? ⟨BL, 1, none⟩ = some (.int .u64 LL)) ∧ ∃ B, Bk wc B s RH RL)
    case first =>
      go_region_held3 (fun w' => w'.cell? ⟨w.heap.size, 0, none⟩ = some (.bool bp) ∧ w'.cell? ⟨w.heap.size, 1, none⟩ = some (.int .u64 pn) ∧ w'.cell? ⟨w.heap.size, 2, none⟩ = some (.int .u64 pd) ∧ w'.cell? ⟨w.heap.size + 1, 0, none⟩ = some (.bool bq) ∧ w'.cell? ⟨w.heap.size + 1, 1, none⟩ = some (.int .u64 qn) ∧ w'.cell? ⟨w.heap.size + 1, 2, none⟩ = some (.int .u64 qd)) (simp [go_sem, l0, l1, l2, a0, a1, a2, b0, b1, b2, r0, r1, z0, z1, lL, m0, m1]) (first | (go_at_call 71; refine ((uq T2) _ _ _ _ (by assumption) _).mono ?_; rintro e w2 ⟨rfl, hk⟩; obtain ⟨o3, k3, rfl⟩ := hk.ext; clear hk))
      all_goals
        go_wp2_with fail
        go_meet
        exact ⟨⟨by repeat (first | apply keep_ext | apply Keep.alloc | apply Keep.drew | exact f1), by simp [go_sem, l0, l1, l2, a0, a1, a2, b0, b1, b2, r0, r1, z0, z1, lL, m0, m1], by simp [go_sem, l0, l1, l2, a0, a1, a2, b0, b1, b2, r0, r1, z0, z1, lL, m0, m1], by simp [go_sem, l0, l1, l2, a0, a1, a2, b0, b1, b2, r0, r1, z0, z1, lL, m0, m1], by simp [go_sem, l0, l1, l2, a0, a1, a2, b0, b1, b2, r0, r1, z0, z1, lL, m0, m1], by simp [go_sem, l0, l1, l2, a0, a1, a2, b0, b1, b2, r0, r1, z0, z1, lL, m0, m1], by simp [go_sem, l0, l1, l2, a0, a1, a2, b0, b1, b2, r0, r1, z0, z1, lL, m0, m1], by simp [go_sem, l0, l1, l2, a0, a1, a2, b0, b1, b2, r0, r1, z0, z1, lL, m0, m1], by simp [go_sem, l0, l1, l2, a0, a1, a2, b0, b1, b2, r0, r1, z0, z1, lL, m0, m1], by simp [go_sem, l0, l1, l2, a0, a1, a2, b0, b1, b2, r0, r1, z0, z1, lL, m0, m1], by simp [go_sem, l0, l1, l2, a0, a1, a2, b0, b1, b2, r0, r1, z0, z1, lL, m0, m1], by simp [go_sem, l0, l1, l2, a0, a1, a2, b0, b1, b2, r0, r1, z0, z1, lL, m0, m1], by simp [go_sem, l0, l1, l2, a0, a1, a2, b0, b1, b2, r0, r1, z0, z1, lL, m0, m1], by simp [go_sem, l0, l1, l2, a0, a1, a2, b0, b1, b2, r0, r1, z0, z1, lL, m0, m1]⟩, ⟨by simp [go_sem, l0, l1, l2, a0, a1, a2, b0, b1, b2, r0, r1, z0, z1, lL, m0, m1], by simp [go_sem, l0, l1, l2, a0, a1, a2, b0, b1, b2, r0, r1, z0, z1, lL, m0, m1], by simp [go_sem, l0, l1, l2, a0, a1, a2, b0, b1, b2, r0, r1, z0, z1, lL, m0, m1]⟩, _, rfl, by simp [go_sem], by simp [go_sem], by simp [go_sem]⟩
    case rest =>
      clear l0 l1 l2 a0 a1 a2 b0 b1 b2 r0 r1 z0 z1 lL m0 m1 f1 hsz
      obtain ⟨hF, ⟨lL, m0, m1⟩, BR, hs, lR, n0, n1⟩ := hcut
      obtain ⟨f2, l0, l1, l2, a0, a1, a2, b0, b1, b2, r0, r1, z0, z1⟩ := hF
      have hsz := f2.size
      subst hs
      obtain ⟨wz, rfl⟩ : ∃ wz, wz = wc := ⟨_, rfl⟩
      go_wp2_with fail
      (refine ((uq T3) _).mono ?_; rintro e w2 ⟨rfl, hk⟩; obtain ⟨o4, k4, rfl⟩ := hk.ext; clear hk)
      go_wp2_with fail
      (refine ((uq T4) _).mono ?_; rintro e w2 ⟨rfl, hk⟩; obtain ⟨o5, k5, rfl⟩ := hk.ext; clear hk)
      go_wp2_with fail
      (refine ((uq T1) _ _ _ (by assumption) _).mono ?_; rintro e w2 ⟨rfl, hk⟩; obtain ⟨o6, k6, rfl⟩ := hk.ext; clear hk)
      go_wp2_with fail
      go_region_held3 (fun w' => w'.cell? ⟨w.heap.size, 0, none⟩ = some (.bool bp) ∧ w'.cell? ⟨w.heap.size, 1, none⟩ = some (.int .u64 pn) ∧ w'.cell? ⟨w.heap.size, 2, none⟩ = some (.int .u64 pd) ∧ w'.cell? ⟨w.heap.size + 1, 0, none⟩ = some (.bool bq) ∧ w'.cell? ⟨w.heap.size + 1, 1, none⟩ = some (.int .u64 qn) ∧ w'.cell? ⟨w.heap.size + 1, 2, none⟩ = some (.int .u64 qd) ∧ w'.cell? ⟨wz.heap.size, 0, none⟩ = some (.int .u64 NH) ∧ w'.cell? ⟨wz.heap.size, 1, none⟩ = some (.int .u64 NL)) (simp [go_sem, l0, l1, l2, a0, a1, a2, b0, b1, b2, r0, r1, z0, z1, lL, m0, m1, lR, n0, n1]) (first | (go_at_call 77; refine ((uq T5) _).mono ?_; rintro e w2 ⟨rfl, hk⟩; obtain ⟨o7, k7, rfl⟩ := hk.ext; clear hk) | (go_at_call 71; refine ((uq T2) _ _ _ _ (by assumption) _).mono ?_; rintro e w2 ⟨rfl, hk⟩; obtain ⟨o8, k8, rfl⟩ := hk.ext; clear hk) | (go_at_call 76; refine ((uq T6) _).mono ?_; rintro e w2 ⟨rfl, hk⟩; obtain ⟨o9, k9, rfl⟩ := hk.ext; clear hk))
      all_goals go_wp2_with fail
      all_goals exact bodyPost_ret (v := .tuple #[.agg #[.int .i64 x, .int .i64 y], .int .i64 z]) (by simp [results, Try.results66, go_sem, l0, l1, l2, r0, r1]) rfl ⟨rfl, keep_ext (Keep.alloc (keep_set2 _ _ (keep_set2 _ _ f2)) _) _ _⟩
end Go.Proofs.Ytdgmndjofbdgeaa
