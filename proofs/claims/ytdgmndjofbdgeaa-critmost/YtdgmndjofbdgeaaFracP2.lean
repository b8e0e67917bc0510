/- Package frac: sums of fractions: what the walk of plus holds at its cuts. -/
import Derived.Test.YtdgmndjofbdgeaaFracC
import Derived.Deep.DeepCutAuto
namespace Go.Proofs.Ytdgmndjofbdgeaa
open Go.RowKit
set_option linter.unusedVariables false
theorem keep_set {a w : World} (n i : Nat) (v : Value) (hn : a.heap.size ≤ n) (h : Keep a w) : Keep a (w.setCell ⟨n, i, none⟩ v) := Below.setCell h hn v
theorem keep_set2 {a w : World} (i : Nat) (v : Value) (h : Keep a w) : Keep a (w.setCell ⟨a.heap.size + 1 + 1, i, none⟩ v) := Below.setCell h (Nat.le_trans (Nat.le_succ _) (Nat.le_succ _)) v
/-- the two parameters and the result as they were laid -/
def FrP (w wc : World) (bp bq : Bool) (pn pd qn qd : Int) : Prop :=
  Keep w wc ∧ w.heap.size < wc.heap.size ∧ w.heap.size + 1 < wc.heap.size ∧ w.heap.size + 1 + 1 < wc.heap.size
  ∧ wc.cell? ⟨w.heap.size, 0, none⟩ = some (.bool bp) ∧ wc.cell? ⟨w.heap.size, 1, none⟩ = some (.int .u64 pn) ∧ wc.cell? ⟨w.heap.size, 2, none⟩ = some (.int .u64 pd) ∧ wc.cell? ⟨w.heap.size + 1, 0, none⟩ = some (.bool bq) ∧ wc.cell? ⟨w.heap.size + 1, 1, none⟩ = some (.int .u64 qn) ∧ wc.cell? ⟨w.heap.size + 1, 2, none⟩ = some (.int .u64 qd)
  ∧ wc.cell? ⟨w.heap.size + 1 + 1, 0, none⟩ = some (.int .i64 0) ∧ wc.cell? ⟨w.heap.size + 1 + 1, 1, none⟩ = some (.int .i64 0)
  ∧ wc.frozen? ⟨w.heap.size + 1 + 1, 0, none⟩ = false ∧ wc.frozen? ⟨w.heap.size + 1 + 1, 1, none⟩ = false
/-- a number of 128 bits that lies in a block -/
def Bk (wc : World) (B : Nat) (s : Value) (H L : Int) : Prop := s = .pointer (some ⟨B, 0, none⟩) ∧ B < wc.heap.size ∧ wc.cell? ⟨B, 0, none⟩ = some (.int .u64 H) ∧ wc.cell? ⟨B, 1, none⟩ = some (.int .u64 L)
end Go.Proofs.Ytdgmndjofbdgeaa

namespace Go.Proofs.Ytdgmndjofbdgeaa
open Go.RowKit
set_option linter.unusedVariables false
set_option maxRecDepth 10000
set_option linter.unusedSimpArgs false
set_option maxHeartbeats 8000000 in
theorem plus_same (bp bq : Bool) (pn pd qn qd c A B LH LL RH RL NH NL r l OH OL E DH DL x y z : Int) (w : World) (hb : (bp == bq) = true) (T3 : Hid (∀ w, Calls Try.prog 72 #[.agg #[.int .u64 LH, .int .u64 LL], .agg #[.int .u64 RH, .int .u64 RL]] w fun e w' => e = .returned (.agg #[.int .u64 NH, .int .u64 NL]) ∧ Keep w w')) (hc : ¬ c = 0) (hl : ¬ l = 0) (e1 : qd.tdiv c = A) (e2 : pd.tdiv c = B) (e3 : qd.tdiv l = E) (w1 : IntKind.u64.wrap A = A) (w2 : IntKind.u64.wrap B = B) (w3 : IntKind.u64.wrap E = E)
    (Dv : Int → Int → Int → Prop) (D1 : Dv pd qd c) (D2 : Dv r c l)
    (T1 : Hid (∀ (a b f : Int), Dv a b f → ∀ w, Calls Try.prog 70 #[.int .u64 a, .int .u64 b] w fun e w' => e = .returned (.int .u64 f) ∧ Keep w w'))
    (Pr : Int → Int → Int → Int → Prop) (P1 : Pr pn A LH LL) (P2 : Pr qn B RH RL) (P3 : Pr B E DH DL)
    (T2 : Hid (∀ (a b H L : Int), Pr a b H L → ∀ w, Calls Try.prog 71 #[.int .u64 a, .int .u64 b] w fun e w' => e = .returned (.agg #[.int .u64 H, .int .u64 L]) ∧ Keep w w'))
    (T4 : Hid (∀ w, Calls Try.prog 75 #[.agg #[.int .u64 NH, .int .u64 NL], .int .u64 c] w fun e w' => e = .returned (.int .u64 r) ∧ Keep w w'))
    (T5 : Hid (∀ w, Calls Try.prog 77 #[.agg #[.int .u64 NH, .int .u64 NL], .int .u64 l] w fun e w' => e = .returned (.agg #[.int .u64 OH, .int .u64 OL]) ∧ Keep w w'))
    (T6 : Hid (∀ w, Calls Try.prog 76 #[.bool bp, .agg #[.int .u64 OH, .int .u64 OL], .agg #[.int .u64 DH, .int .u64 DL]] w fun e w' => e = .returned (.tuple #[.agg #[.int .i64 x, .int .i64 y], .int .i64 z]) ∧ Keep w w')) :
    Calls Try.prog 66 #[.agg #[.bool bp, .int .u64 pn, .int .u64 pd], .agg #[.bool bq, .int .u64 qn, .int .u64 qd]] w fun e w' => e = .returned (.tuple #[.agg #[.int .i64 x, .int .i64 y], .int .i64 z]) ∧ Keep w w' := by
  go_enter Try.func66, Try.ntmps66
  go_upto_region 2 with (go_at_call 70; refine ((uq T1) _ _ _ (by assumption) _).mono ?_; rintro e w2 ⟨rfl, hk⟩; obtain ⟨o1, k1, rfl⟩ := hk.ext; clear hk)
  go_cut [7] (fun s wc => FrP w wc bp bq pn pd qn qd ∧ ∃ B, Bk wc B s LH LL)
  case first =>
    go_region_held3 (fun w' => w'.cell? ⟨w.heap.size, 0, none⟩ = some (.bool bp) ∧ w'.cell? ⟨w.heap.size, 1, none⟩ = some (.int .u64 pn) ∧ w'.cell? ⟨w.heap.size, 2, none⟩ = some (.int .u64 pd) ∧ w'.cell? ⟨w.heap.size + 1, 0, none⟩ = some (.bool bq) ∧ w'.cell? ⟨w.heap.size + 1, 1, none⟩ = some (.int .u64 qn) ∧ w'.cell? ⟨w.heap.size + 1, 2, none⟩ = some (.int .u64 qd)) (simp [go_sem]) (first | (go_at_call 71; refine ((uq T2) _ _ _ _ (by assumption) _).mono ?_; rintro e w2 ⟨rfl, hk⟩; obtain ⟨o2, k2, rfl⟩ := hk.ext; clear hk))
    all_goals
      go_wp2_with fail
      go_meet
      exact ⟨⟨by repeat (first | apply keep_ext | apply Keep.alloc | apply Keep.drew | exact Keep.refl _), by simp [go_sem], by simp [go_sem], by simp [go_sem], by simp [go_sem], by simp [go_sem], by simp [go_sem], by simp [go_sem], by simp [go_sem], by simp [go_sem], by simp [go_sem], by simp [go_sem], by simp [go_sem], by simp [go_sem]⟩, _, rfl, by simp [go_sem], by simp [go_sem], by simp [go_sem]⟩
  case rest =>
    obtain ⟨hF, BL, hs, lL, m0, m1⟩ := hcut
    obtain ⟨f1, l0, l1, l2, a0, a1, a2, b0, b1, b2, r0, r1, z0, z1⟩ := hF
    have hsz := f1.size
    subst hs
    go_upto_region 3 with fail
    go_cut [8] (fun s wc => FrP w wc bp bq pn pd qn qd ∧ (BL < wc.heap.size ∧ wc.cell? ⟨BL, 0, none⟩ = some (.int .u64 LH) ∧ wc.cell? ⟨BL, 1, none⟩ = some (.int .u64 LL)) ∧ ∃ B, Bk wc B s RH RL)
    case first =>
      go_region_held3 (fun w' => w'.cell? ⟨w.heap.size, 0, none⟩ = some (.bool bp) ∧ w'.cell? ⟨w.heap.size, 1, none⟩ = some (.int .u64 pn) ∧ w'.cell? ⟨w.heap.size, 2, none⟩ = some (.int .u64 pd) ∧ w'.cell? ⟨w.heap.size + 1, 0, none⟩ = some (.bool bq) ∧ w'.cell? ⟨w.heap.size + 1, 1, none⟩ = some (.int .u64 qn) ∧ w'.cell? ⟨w.heap.size + 1, 2, none⟩ = some (.int .u64 qd)) (simp [go_sem, l0, l1, l2, a0, a1, a2, b0, b1, b2, r0, r1, z0, z1, lL, m0, m1]) (first | (go_at_call 71; refine ((uq T2) _ _ _ _ (by assumption) _).mono ?_; rintro e w2 ⟨rfl, hk⟩; obtain ⟨o3, k3, rfl⟩ := hk.ext; clear hk))
      all_goals
        go_wp2_with fail
        go_meet
        exact ⟨⟨by repeat (first | apply keep_ext | apply Keep.alloc | apply Keep.drew | exact f1), by simp [go_sem, l0, l1, l2, a0, a1, a2, b0, b1, b2, r0, r1, z0, z1, lL, m0, m1], by simp [go_sem, l0, l1, l2, a0, a1, a2, b0, b1, b2, r0, r1, z0, z1, lL, m0, m1], by simp [go_sem, l0, l1, l2, a0, a1, a2, b0, b1, b2, r0, r1, z0, z1, lL, m0, m1], by simp [go_sem, l0, l1, l2, a0, a1, a2, b0, b1, b2, r0, r1, z0, z1, lL, m0, m1], by simp [go_sem, l0, l1, l2, a0, a1, a2, b0, b1, b2, r0, r1, z0, z1, lL, m0, m1], by simp [go_sem, l0, l1, l2, a0, a1, a2, b0, b1, b2, r0, r1, z0, z1, lL, m0, m1], by simp [go_sem, l0, l1, l2, a0, a1, a2, b0, b1, b2, r0, r1, z0, z1, lL, m0, m1], by simp [go_sem, l0, l1, l2, a0, a1, a2, b0, b1, b2, r0, r1, z0, z1, lL, m0, m1], by simp [go_sem, l0, l1, l2, a0, a1, a2, b0, b1, b2, r0, r1, z0, z1, lL, m0, m1], by simp [go_sem, l0, l1, l2, a0, a1, a2, b0, b1, b2, r0, r1, z0, z1, lL, m0, m1], by simp [go_sem, l0, l1, l2, a0, a1, a2, b0, b1, b2, r0, r1, z0, z1, lL, m0, m1], by simp [go_sem, l0, l1, l2, a0, a1, a2, b0, b1, b2, r0, r1, z0, z1, lL, m0, m1], by simp [go_sem, l0, l1, l2, a0, a1, a2, b0, b1, b2, r0, r1, z0, z1, lL, m0, m1]⟩, ⟨by simp [go_sem, l0, l1, l2, a0, a1, a2, b0, b1, b2, r0, r1, z0, z1, lL, m0, m1], by simp [go_sem, l0, l1, l2, a0, a1, a2, b0, b1, b2, r0, r1, z0, z1, lL, m0, m1], by simp [go_sem, l0, l1, l2, a0, a1, a2, b0, b1, b2, r0, r1, z0, z1, lL, m0, m1]⟩, _, rfl, by simp [go_sem], by simp [go_sem], by simp [go_sem]⟩
    case rest =>
      clear l0 l1 l2 a0 a1 a2 b0 b1 b2 r0 r1 z0 z1 lL m0 m1 f1 hsz
      obtain ⟨hF, ⟨lL, m0, m1⟩, BR, hs, lR, n0, n1⟩ := hcut
      obtain ⟨f2, l0, l1, l2, a0, a1, a2, b0, b1, b2, r0, r1, z0, z1⟩ := hF
      have hsz := f2.size
      subst hs
      obtain ⟨wz, rfl⟩ : ∃ wz, wz = wc := ⟨_, rfl⟩
      go_wp2_with fail
      (refine ((uq T3) _).mono ?_; rintro e w2 ⟨rfl, hk⟩; obtain ⟨o4, k4, rfl⟩ := hk.ext; clear hk)
      go_wp2_with fail
      (refine ((uq T4) _).mono ?_; rintro e w2 ⟨rfl, hk⟩; obtain ⟨o5, k5, rfl⟩ := hk.ext; clear hk)
      go_wp2_with fail
      (refine ((uq T1) _ _ _ (by assumption) _).mono ?_; rintro e w2 ⟨rfl, hk⟩; obtain ⟨o6, k6, rfl⟩ := hk.ext; clear hk)
      go_wp2_with fail
      go_region_held3 (fun w' => w'.cell? ⟨w.heap.size, 0, none⟩ = some (.bool bp) ∧ w'.cell? ⟨w.heap.size, 1, none⟩ = some (.int .u64 pn) ∧ w'.cell? ⟨w.heap.size, 2, none⟩ = some (.int .u64 pd) ∧ w'.cell? ⟨w.heap.size + 1, 0, none⟩ = some (.bool bq) ∧ w'.cell? ⟨w.heap.size + 1, 1, none⟩ = some (.int .u64 qn) ∧ w'.cell? ⟨w.heap.size + 1, 2, none⟩ = some (.int .u64 qd) ∧ w'.cell? ⟨wz.heap.size, 0, none⟩ = some (.int .u64 NH) ∧ w'.cell? ⟨wz.heap.size, 1, none⟩ = some (.int .u64 NL)) (simp [go_sem, l0, l1, l2, a0, a1, a2, b0, b1, b2, r0, r1, z0, z1, lL, m0, m1, lR, n0, n1]) (first | (go_at_call 77; refine ((uq T5) _).mono ?_; rintro e w2 ⟨rfl, hk⟩; obtain ⟨o7, k7, rfl⟩ := hk.ext; clear hk) | (go_at_call 71; refine ((uq T2) _ _ _ _ (by assumption) _).mono ?_; rintro e w2 ⟨rfl, hk⟩; obtain ⟨o8, k8, rfl⟩ := hk.ext; clear hk) | (go_at_call 76; refine ((uq T6) _).mono ?_; rintro e w2 ⟨rfl, hk⟩; obtain ⟨o9, k9, rfl⟩ := hk.ext; clear hk))
      all_goals go_wp2_with fail
      all_goals exact bodyPost_ret (v := .tuple #[.agg #[.int .i64 x, .int .i64 y], .int .i64 z]) (by simp [results, Try.results66, go_sem, l0, l1, l2, r0, r1]) rfl ⟨rfl, keep_ext (Keep.alloc (keep_set2 _ _ (keep_set2 _ _ f2)) _) _ _⟩
end Go.Proofs.Ytdgmndjofbdgeaa

namespace Go.Proofs.Ytdgmndjofbdgeaa
open Go.RowKit
set_option linter.unusedVariables false
set_option maxRecDepth 10000
set_option linter.unusedSimpArgs false
set_option maxHeartbeats 8000000 in
theorem plus_less (bp bq : Bool) (pn pd qn qd c A B LH LL RH RL NH NL r l OH OL E DH DL x y z : Int) (w : World) (hb : (bp == bq) = false) (T0 : Hid (∀ w, Calls Try.prog 73 #[.agg #[.int .u64 LH, .int .u64 LL], .agg #[.int .u64 RH, .int .u64 RL]] w fun e w' => e = .returned (.bool true) ∧ Keep w w')) (T3 : Hid (∀ w, Calls Try.prog 74 #[.agg #[.int .u64 RH, .int .u64 RL], .agg #[.int .u64 LH, .int .u64 LL]] w fun e w' => e = .returned (.agg #[.int .u64 NH, .int .u64 NL]) ∧ Keep w w')) (hc : ¬ c = 0) (hl : ¬ l = 0) (e1 : qd.tdiv c = A) (e2 : pd.tdiv c = B) (e3 : qd.tdiv l = E) (w1 : IntKind.u64.wrap A = A) (w2 : IntKind.u64.wrap B = B) (w3 : IntKind.u64.wrap E = E)
    (Dv : Int → Int → Int → Prop) (D1 : Dv pd qd c) (D2 : Dv r c l)
    (T1 : Hid (∀ (a b f : Int), Dv a b f → ∀ w, Calls Try.prog 70 #[.int .u64 a, .int .u64 b] w fun e w' => e = .returned (.int .u64 f) ∧ Keep w w'))
    (Pr : Int → Int → Int → Int → Prop) (P1 : Pr pn A LH LL) (P2 : Pr qn B RH RL) (P3 : Pr B E DH DL)
    (T2 : Hid (∀ (a b H L : Int), Pr a b H L → ∀ w, Calls Try.prog 71 #[.int .u64 a, .int .u64 b] w fun e w' => e = .returned (.agg #[.int .u64 H, .int .u64 L]) ∧ Keep w w'))
    (T4 : Hid (∀ w, Calls Try.prog 75 #[.agg #[.int .u64 NH, .int .u64 NL], .int .u64 c] w fun e w' => e = .returned (.int .u64 r) ∧ Keep w w'))
    (T5 : Hid (∀ w, Calls Try.prog 77 #[.agg #[.int .u64 NH, .int .u64 NL], .int .u64 l] w fun e w' => e = .returned (.agg #[.int .u64 OH, .int .u64 OL]) ∧ Keep w w'))
    (T6 : Hid (∀ w, Calls Try.prog 76 #[.bool bq, .agg #[.int .u64 OH, .int .u64 OL], .agg #[.int .u64 DH, .int .u64 DL]] w fun e w' => e = .returned (.tuple #[.agg #[.int .i64 x, .int .i64 y], .int .i64 z]) ∧ Keep w w')) :
    Calls Try.prog 66 #[.agg #[.bool bp, .int .u64 pn, .int .u64 pd], .agg #[.bool bq, .int .u64 qn, .int .u64 qd]] w fun e w' => e = .returned (.tuple #[.agg #[.int .i64 x, .int .i64 y], .int .i64 z]) ∧ Keep w w' := by
  go_enter Try.func66, Try.ntmps66
  go_upto_region 2 with (go_at_call 70; refine ((uq T1) _ _ _ (by assumption) _).mono ?_; rintro e w2 ⟨rfl, hk⟩; obtain ⟨o1, k1, rfl⟩ := hk.ext; clear hk)
  go_cut [7] (fun s wc => FrP w wc bp bq pn pd qn qd ∧ ∃ B, Bk wc B s LH LL)
  case first =>
    go_region_held3 (fun w' => w'.cell? ⟨w.heap.size, 0, none⟩ = some (.bool bp) ∧ w'.cell? ⟨w.heap.size, 1, none⟩ = some (.int .u64 pn) ∧ w'.cell? ⟨w.heap.size, 2, none⟩ = some (.int .u64 pd) ∧ w'.cell? ⟨w.heap.size + 1, 0, none⟩ = some (.bool bq) ∧ w'.cell? ⟨w.heap.size + 1, 1, none⟩ = some (.int .u64 qn) ∧ w'.cell? ⟨w.heap.size + 1, 2, none⟩ = some (.int .u64 qd)) (simp [go_sem]) (first | (go_at_call 71; refine ((uq T2) _ _ _ _ (by assumption) _).mono ?_; rintro e w2 ⟨rfl, hk⟩; obtain ⟨o2, k2, rfl⟩ := hk.ext; clear hk))
    all_goals
      go_wp2_with fail
      go_meet
      exact ⟨⟨by repeat (first | apply keep_ext | apply Keep.alloc | apply Keep.drew | exact Keep.refl _), by simp [go_sem], by simp [go_sem], by simp [go_sem], by simp [go_sem], by simp [go_sem], by simp [go_sem], by simp [go_sem], by simp [go_sem], by simp [go_sem], by simp [go_sem], by simp [go_sem], by simp [go_sem], by simp [go_sem]⟩, _, rfl, by simp [go_sem], by simp [go_sem], by simp [go_sem]⟩
  case rest =>
    obtain ⟨hF, BL, hs, lL, m0, m1⟩ := hcut
    obtain ⟨f1, l0, l1, l2, a0, a1, a2, b0, b1, b2, r0, r1, z0, z1⟩ := hF
    have hsz := f1.size
    subst hs
    go_upto_region 3 with fail
    go_cut [8] (fun s wc => FrP w wc bp bq pn pd qn qd ∧ (BL < wc.heap.size ∧ wc.cell? ⟨BL, 0, none⟩ = some (.int .u64 LH) ∧ wc.cell? ⟨BL, 1, none⟩ = some (.int .u64 LL)) ∧ ∃ B, Bk wc B s RH RL)
    case first =>
      go_region_held3 (fun w' => w'.cell? ⟨w.heap.size, 0, none⟩ = some (.bool bp) ∧ w'.cell? ⟨w.heap.size, 1, none⟩ = some (.int .u64 pn) ∧ w'.cell? ⟨w.heap.size, 2, none⟩ = some (.int .u64 pd) ∧ w'.cell? ⟨w.heap.size + 1, 0, none⟩ = some (.bool bq) ∧ w'.cell? ⟨w.heap.size + 1, 1, none⟩ = some (.int .u64 qn) ∧ w'.cell? ⟨w.heap.size + 1, 2, none⟩ = some (.int .u64 qd)) (simp [go_sem, l0, l1, l2, a0, a1, a2, b0, b1, b2, r0, r1, z0, z1, lL, m0, m1]) (first | (go_at_call 71; refine ((uq T2) _ _ _ _ (by assumption) _).mono ?_; rintro e w2 ⟨rfl, hk⟩; obtain ⟨o3, k3, rfl⟩ := hk.ext; clear hk))
      all_goals
        go_wp2_with fail
        go_meet
        exact ⟨⟨by repeat (first | apply keep_ext | apply Keep.alloc | apply Keep.drew | exact f1), by simp [go_sem, l0, l1, l2, a0, a1, a2, b0, b1, b2, r0, r1, z0, z1, lL, m0, m1], by simp [go_sem, l0, l1, l2, a0, a1, a2, b0, b1, b2, r0, r1, z0, z1, lL, m0, m1], by simp [go_sem, l0, l1, l2, a0, a1, a2, b0, b1, b2, r0, r1, z0, z1, lL, m0, m1], by simp [go_sem, l0, l1, l2, a0, a1, a2, b0, b1, b2, r0, r1, z0, z1, lL, m0, m1], by simp [go_sem, l0, l1, l2, a0, a1, a2, b0, b1, b2, r0, r1, z0, z1, lL, m0, m1], by simp [go_sem, l0, l1, l2, a0, a1, a2, b0, b1, b2, r0, r1, z0, z1, lL, m0, m1], by simp [go_sem, l0, l1, l2, a0, a1, a2, b0, b1, b2, r0, r1, z0, z1, lL, m0, m1], by simp [go_sem, l0, l1, l2, a0, a1, a2, b0, b1, b2, r0, r1, z0, z1, lL, m0, m1], by simp [go_sem, l0, l1, l2, a0, a1, a2, b0, b1, b2, r0, r1, z0, z1, lL, m0, m1], by simp [go_sem, l0, l1, l2, a0, a1, a2, b0, b1, b2, r0, r1, z0, z1, lL, m0, m1], by simp [go_sem, l0, l1, l2, a0, a1, a2, b0, b1, b2, r0, r1, z0, z1, lL, m0, m1], by simp [go_sem, l0, l1, l2, a0, a1, a2, b0, b1, b2, r0, r1, z0, z1, lL, m0, m1], by simp [go_sem, l0, l1, l2, a0, a1, a2, b0, b1, b2, r0, r1, z0, z1, lL, m0, m1]⟩, ⟨by simp [go_sem, l0, l1, l2, a0, a1, a2, b0, b1, b2, r0, r1, z0, z1, lL, m0, m1], by simp [go_sem, l0, l1, l2, a0, a1, a2, b0, b1, b2, r0, r1, z0, z1, lL, m0, m1], by simp [go_sem, l0, l1, l2, a0, a1, a2, b0, b1, b2, r0, r1, z0, z1, lL, m0, m1]⟩, _, rfl, by simp [go_sem], by simp [go_sem], by simp [go_sem]⟩
    case rest =>
      clear l0 l1 l2 a0 a1 a2 b0 b1 b2 r0 r1 z0 z1 lL m0 m1 f1 hsz
      obtain ⟨hF, ⟨lL, m0, m1⟩, BR, hs, lR, n0, n1⟩ := hcut
      obtain ⟨f2, l0, l1, l2, a0, a1, a2, b0, b1, b2, r0, r1, z0, z1⟩ := hF
      have hsz := f2.size
      subst hs
      obtain ⟨wz, rfl⟩ : ∃ wz, wz = wc := ⟨_, rfl⟩
      go_wp2_with fail
      (refine ((uq T0) _).mono ?_; rintro e w2 ⟨rfl, hk⟩; obtain ⟨o0, k0, rfl⟩ := hk.ext; clear hk)
      go_wp2_with fail
      go_region_held3 (fun w' => w'.cell? ⟨w.heap.size, 0, none⟩ = some (.bool bp) ∧ w'.cell? ⟨w.heap.size, 1, none⟩ = some (.int .u64 pn) ∧ w'.cell? ⟨w.heap.size, 2, none⟩ = some (.int .u64 pd) ∧ w'.cell? ⟨w.heap.size + 1, 0, none⟩ = some (.bool bq) ∧ w'.cell? ⟨w.heap.size + 1, 1, none⟩ = some (.int .u64 qn) ∧ w'.cell? ⟨w.heap.size + 1, 2, none⟩ = some (.int .u64 qd) ∧ w'.cell? ⟨BL, 0, none⟩ = some (.int .u64 LH) ∧ w'.cell? ⟨BL, 1, none⟩ = some (.int .u64 LL) ∧ w'.cell? ⟨BR, 0, none⟩ = some (.int .u64 RH) ∧ w'.cell? ⟨BR, 1, none⟩ = some (.int .u64 RL)) (simp [go_sem, l0, l1, l2, a0, a1, a2, b0, b1, b2, r0, r1, z0, z1, lL, m0, m1, lR, n0, n1]) (first | (go_at_call 74; refine ((uq T3) _).mono ?_; rintro e w2 ⟨rfl, hk⟩; obtain ⟨o4, k4, rfl⟩ := hk.ext; clear hk))
      all_goals go_wp2_with fail
      all_goals (refine ((uq T4) _).mono ?_; rintro e w2 ⟨rfl, hk⟩; obtain ⟨o5, k5, rfl⟩ := hk.ext; clear hk)
      all_goals go_wp2_with fail
      all_goals (refine ((uq T1) _ _ _ (by assumption) _).mono ?_; rintro e w2 ⟨rfl, hk⟩; obtain ⟨o6, k6, rfl⟩ := hk.ext; clear hk)
      all_goals go_wp2_with fail
      all_goals go_region_held3 (fun w' => w'.cell? ⟨w.heap.size, 0, none⟩ = some (.bool bp) ∧ w'.cell? ⟨w.heap.size, 1, none⟩ = some (.int .u64 pn) ∧ w'.cell? ⟨w.heap.size, 2, none⟩ = some (.int .u64 pd) ∧ w'.cell? ⟨w.heap.size + 1, 0, none⟩ = some (.bool bq) ∧ w'.cell? ⟨w.heap.size + 1, 1, none⟩ = some (.int .u64 qn) ∧ w'.cell? ⟨w.heap.size + 1, 2, none⟩ = some (.int .u64 qd) ∧ w'.cell? ⟨wz.heap.size, 0, none⟩ = some (.int .u64 NH) ∧ w'.cell? ⟨wz.heap.size, 1, none⟩ = some (.int .u64 NL)) (simp [go_sem, l0, l1, l2, a0, a1, a2, b0, b1, b2, r0, r1, z0, z1, lL, m0, m1, lR, n0, n1]) (first | (go_at_call 77; refine ((uq T5) _).mono ?_; rintro e w2 ⟨rfl, hk⟩; obtain ⟨o7, k7, rfl⟩ := hk.ext; clear hk) | (go_at_call 71; refine ((uq T2) _ _ _ _ (by assumption) _).mono ?_; rintro e w2 ⟨rfl, hk⟩; obtain ⟨o8, k8, rfl⟩ := hk.ext; clear hk) | (go_at_call 76; refine ((uq T6) _).mono ?_; rintro e w2 ⟨rfl, hk⟩; obtain ⟨o9, k9, rfl⟩ := hk.ext; clear hk))
      all_goals go_wp2_with fail
      all_goals exact bodyPost_ret (v := .tuple #[.agg #[.int .i64 x, .int .i64 y], .int .i64 z]) (by simp [results, Try.results66, go_sem, l0, l1, l2, r0, r1]) rfl ⟨rfl, keep_ext (Keep.alloc (keep_set2 _ _ (keep_set2 _ _ f2)) _) _ _⟩
end Go.Proofs.Ytdgmndjofbdgeaa
