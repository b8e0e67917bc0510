/- Package webster: Count, Allowed; the document's: over letters. -/
import Derived.Test.YtjibbekojbaopaaWbM
import Derived.Test.YtjibbekojbaopaaExt
import Derived.Deep.RegionHeld3
namespace Go.Proofs.Ytjibbekojbaopaa
open Go.RowKit
set_option linter.unusedVariables false
set_option linter.unusedSimpArgs false
set_option maxRecDepth 10000
namespace Wb
open W
set_option maxHeartbeats 1000000 in
theorem count_no (mn mx st pn pd : Int) (xa : Option Addr) (xn xc : Nat) (ya : Option Addr) (yn yc : Nat) (wo wi : Int) (w : World) (h : ¬ okC mn mx st) : Calls Try.prog 13 #[.agg #[.int .i64 mn, .int .i64 mx, .int .i64 st, .int .i64 pn, .int .i64 pd, .slice xa xn xc, .slice ya yn yc, .int .i64 wo, .int .i64 wi]] w fun e w' => e = .returned (.int .i64 0) ∧ Keep w w' := by
  have h' : mn < 1 ∨ (¬ mn < 1 ∧ mx < mn) ∨ (¬ mn < 1 ∧ ¬ mx < mn ∧ 6000 < mx) ∨ (¬ mn < 1 ∧ ¬ mx < mn ∧ ¬ 6000 < mx ∧ st < 1) := by unfold okC at h; omega
  clear h
  rcases h' with h1 | ⟨h1, h2⟩ | ⟨h1, h2, h3⟩ | ⟨h1, h2, h3, h4⟩
  · go_enter Try.func13, Try.ntmps13
    go_wp2_with fail
    go_ret
    exact ⟨rfl, by repeat (first | apply keep_ext | apply Keep.alloc | apply Keep.drew | (refine keep_set _ _ _ (by omega) ?_) | assumption | exact Keep.refl _)⟩
  · go_enter Try.func13, Try.ntmps13
    go_wp2_with fail
    go_ret
    exact ⟨rfl, by repeat (first | apply keep_ext | apply Keep.alloc | apply Keep.drew | (refine keep_set _ _ _ (by omega) ?_) | assumption | exact Keep.refl _)⟩
  · go_enter Try.func13, Try.ntmps13
    go_wp2_with fail
    go_ret
    exact ⟨rfl, by repeat (first | apply keep_ext | apply Keep.alloc | apply Keep.drew | (refine keep_set _ _ _ (by omega) ?_) | assumption | exact Keep.refl _)⟩
  · go_enter Try.func13, Try.ntmps13
    go_wp2_with fail
    go_ret
    exact ⟨rfl, by repeat (first | apply keep_ext | apply Keep.alloc | apply Keep.drew | (refine keep_set _ _ _ (by omega) ?_) | assumption | exact Keep.refl _)⟩
set_option maxHeartbeats 1000000 in
theorem count_yes (mn mx st pn pd : Int) (xa : Option Addr) (xn xc : Nat) (ya : Option Addr) (yn yc : Nat) (wo wi : Int) (q z : Int) (w : World) (h1 : ¬ mn < 1) (h2 : ¬ mx < mn) (h3 : ¬ 6000 < mx) (h4 : ¬ st < 1) (q0 : 0 ≤ q) (q1 : q ≤ 6000)
    (T : Hid (∀ w, Calls Try.prog 32 #[.int .i64 (mx - mn), .int .i64 st] w fun e w' => e = .returned (.tuple #[.int .i64 q, .int .i64 z]) ∧ w' = w)) :
    Calls Try.prog 13 #[.agg #[.int .i64 mn, .int .i64 mx, .int .i64 st, .int .i64 pn, .int .i64 pd, .slice xa xn xc, .slice ya yn yc, .int .i64 wo, .int .i64 wi]] w fun e w' => e = .returned (.int .i64 (q + 1)) ∧ Keep w w' := by
  go_enter Try.func13, Try.ntmps13
  go_wp2_with fail
  (refine ((uq T) _).mono ?_; rintro e w1 ⟨rfl, rfl⟩)
  go_wp2_with fail
  go_ret
  exact ⟨rfl, by repeat (first | apply keep_ext | apply Keep.alloc | apply Keep.drew | (refine keep_set _ _ _ (by omega) ?_) | assumption | exact Keep.refl _)⟩
theorem q_bd {mn mx st : Int} (h : okC mn mx st) : 0 ≤ (mx - mn) / st ∧ (mx - mn) / st ≤ 6000 ∧ flA (mx - mn) st = (mx - mn) / st := by
  obtain ⟨h1, h2, h3, h4⟩ := h
  refine ⟨Int.ediv_nonneg (by omega) (by omega), Int.le_trans (Int.ediv_le_self _ (by omega)) (by omega), ?_⟩
  unfold flA
  rw [if_pos (qe_ok (by omega) (by omega))]
  unfold fl
  rw [if_pos (by omega)]
theorem wcount_any (mn mx st pn pd : Int) (xa : Option Addr) (xn xc : Nat) (ya : Option Addr) (yn yc : Nat) (wo wi : Int) (w : World) (hs : st ≤ 9223372036854775807) : Calls Try.prog 13 #[.agg #[.int .i64 mn, .int .i64 mx, .int .i64 st, .int .i64 pn, .int .i64 pd, .slice xa xn xc, .slice ya yn yc, .int .i64 wo, .int .i64 wi]] w fun e w' => e = .returned (.int .i64 (cnt mn mx st)) ∧ Keep w w' := by
  by_cases h : okC mn mx st
  · obtain ⟨b1, b2, b3⟩ := q_bd h
    have h' := h
    obtain ⟨h1, h2, h3, h4⟩ := h'
    have F := fun w => floor_any (mx - mn) st w (by omega) (by omega) (by omega) (by omega)
    rw [b3] at F
    rw [show cnt mn mx st = (mx - mn) / st + 1 by unfold cnt; rw [if_pos h]]
    exact count_yes mn mx st pn pd xa xn xc ya yn yc wo wi _ _ w (by omega) (by omega) (by omega) (by omega) b1 b2 (hide F)
  · rw [show cnt mn mx st = 0 by unfold cnt; rw [if_neg h]]
    exact count_no mn mx st pn pd xa xn xc ya yn yc wo wi w h
set_option maxHeartbeats 1000000 in
theorem allowed_none (mn mx st pn pd : Int) (xa : Option Addr) (xn xc : Nat) (ya : Option Addr) (yn yc : Nat) (wo wi : Int) (c : Int) (w : World) (T : Hid (∀ w, Calls Try.prog 13 #[.agg #[.int .i64 mn, .int .i64 mx, .int .i64 st, .int .i64 pn, .int .i64 pd, .slice xa xn xc, .slice ya yn yc, .int .i64 wo, .int .i64 wi]] w fun e w' => e = .returned (.int .i64 0) ∧ Keep w w')) :
    Calls Try.prog 11 #[.agg #[.int .i64 mn, .int .i64 mx, .int .i64 st, .int .i64 pn, .int .i64 pd, .slice xa xn xc, .slice ya yn yc, .int .i64 wo, .int .i64 wi], .int .i64 c] w fun e w' => e = .returned (.tuple #[.int .i64 0, .bool false]) ∧ Keep w w' := by
  go_enter Try.func11, Try.ntmps11
  go_wp2_with fail
  (refine ((uq T) _).mono ?_; rintro e w1 ⟨rfl, hk⟩; obtain ⟨o1, k1, rfl⟩ := hk.ext; clear hk)
  go_wp2_with fail
  exact bodyPost_ret (v := .tuple #[.int .i64 0, .bool false]) (by simp [results, Try.results11, go_sem]) rfl ⟨rfl, by repeat (first | apply keep_ext | apply Keep.alloc | apply Keep.drew | (refine keep_set _ _ _ (by omega) ?_) | assumption | exact Keep.refl _)⟩
set_option maxHeartbeats 1000000 in
theorem allowed_no (mn mx st pn pd : Int) (xa : Option Addr) (xn xc : Nat) (ya : Option Addr) (yn yc : Nat) (wo wi : Int) (c q g0 : Int) (w : World) (q0 : 0 ≤ q) (q1 : q ≤ 6000) (m0 : 0 ≤ mn) (m1 : mn ≤ 6000) (g1 : 0 ≤ g0) (g2 : g0 ≤ 6000) (e1 : wrap64 (q * st) = g0) (hc : mn + g0 < c) (T : Hid (∀ w, Calls Try.prog 13 #[.agg #[.int .i64 mn, .int .i64 mx, .int .i64 st, .int .i64 pn, .int .i64 pd, .slice xa xn xc, .slice ya yn yc, .int .i64 wo, .int .i64 wi]] w fun e w' => e = .returned (.int .i64 (q + 1)) ∧ Keep w w')) :
    Calls Try.prog 11 #[.agg #[.int .i64 mn, .int .i64 mx, .int .i64 st, .int .i64 pn, .int .i64 pd, .slice xa xn xc, .slice ya yn yc, .int .i64 wo, .int .i64 wi], .int .i64 c] w fun e w' => e = .returned (.tuple #[.int .i64 (mn + g0), .bool false]) ∧ Keep w w' := by
  have hq : ¬ q + 1 = 0 := by omega
  go_enter Try.func11, Try.ntmps11
  go_wp2_with fail
  (refine ((uq T) _).mono ?_; rintro e w1 ⟨rfl, hk⟩; obtain ⟨o1, k1, rfl⟩ := hk.ext; clear hk)
  go_wp2_with fail
  exact bodyPost_ret (v := .tuple #[.int .i64 (mn + g0), .bool false]) (by simp [results, Try.results11, go_sem]) rfl ⟨rfl, by repeat (first | apply keep_ext | apply Keep.alloc | apply Keep.drew | (refine keep_set _ _ _ (by omega) ?_) | assumption | exact Keep.refl _)⟩
set_option maxHeartbeats 1000000 in
theorem allowed_yes (mn mx st pn pd : Int) (xa : Option Addr) (xn xc : Nat) (ya : Option Addr) (yn yc : Nat) (wo wi : Int) (c q g0 u z t : Int) (w : World) (q0 : 0 ≤ q) (q1 : q ≤ 6000) (m0 : 0 ≤ mn) (m1 : mn ≤ 6000) (g1 : 0 ≤ g0) (g2 : g0 ≤ 6000) (e1 : wrap64 (q * st) = g0) (hc : ¬ mn + g0 < c) (e2 : wrap64 (u * st) = t) (t0 : 0 ≤ t) (t1 : t ≤ 12000) (T : Hid (∀ w, Calls Try.prog 13 #[.agg #[.int .i64 mn, .int .i64 mx, .int .i64 st, .int .i64 pn, .int .i64 pd, .slice xa xn xc, .slice ya yn yc, .int .i64 wo, .int .i64 wi]] w fun e w' => e = .returned (.int .i64 (q + 1)) ∧ Keep w w'))
    (T2 : Hid (∀ w, Calls Try.prog 31 #[.int .i64 (max c mn - mn), .int .i64 st] w fun e w' => e = .returned (.tuple #[.int .i64 u, .int .i64 z]) ∧ w' = w)) :
    Calls Try.prog 11 #[.agg #[.int .i64 mn, .int .i64 mx, .int .i64 st, .int .i64 pn, .int .i64 pd, .slice xa xn xc, .slice ya yn yc, .int .i64 wo, .int .i64 wi], .int .i64 c] w fun e w' => e = .returned (.tuple #[.int .i64 (mn + t), .bool true]) ∧ Keep w w' := by
  have hq : ¬ q + 1 = 0 := by omega
  go_enter Try.func11, Try.ntmps11
  go_wp2_with fail
  (refine ((uq T) _).mono ?_; rintro e w1 ⟨rfl, hk⟩; obtain ⟨o1, k1, rfl⟩ := hk.ext; clear hk)
  go_wp2_with fail
  (refine ((uq T2) _).mono ?_; rintro e w2 ⟨rfl, rfl⟩)
  go_wp2_with fail
  exact bodyPost_ret (v := .tuple #[.int .i64 (mn + t), .bool true]) (by simp [results, Try.results11, go_sem]) rfl ⟨rfl, by repeat (first | apply keep_ext | apply Keep.alloc | apply Keep.drew | (refine keep_set _ _ _ (by omega) ?_) | assumption | exact Keep.refl _)⟩
theorem allowed_any (mn mx st pn pd : Int) (xa : Option Addr) (xn xc : Nat) (ya : Option Addr) (yn yc : Nat) (wo wi : Int) (c : Int) (w : World) (hs : st ≤ 9223372036854775807) : Calls Try.prog 11 #[.agg #[.int .i64 mn, .int .i64 mx, .int .i64 st, .int .i64 pn, .int .i64 pd, .slice xa xn xc, .slice ya yn yc, .int .i64 wo, .int .i64 wi], .int .i64 c] w fun e w' => e = .returned (.tuple #[.int .i64 (alw mn mx st c).1, .bool (alw mn mx st c).2]) ∧ Keep w w' := by
  have CT := fun w => wcount_any mn mx st pn pd xa xn xc ya yn yc wo wi w hs
  by_cases h : okC mn mx st
  · obtain ⟨b1, b2, b3⟩ := q_bd h
    have g := gt_le h
    have h' := h
    obtain ⟨h1, h2, h3, h4⟩ := h'
    rw [show cnt mn mx st = (mx - mn) / st + 1 by unfold cnt; rw [if_pos h]] at CT
    have gd : gtC mn mx st = mn + (mx - mn) / st * st := rfl
    rw [gd] at g
    by_cases hc : gtC mn mx st < c
    · rw [alw_no h hc, gd]
      exact allowed_no mn mx st pn pd xa xn xc ya yn yc wo wi c _ _ w b1 b2 (by omega) (by omega) (by omega) (by omega) (wrap_in (by omega)) (by rw [← gd]; exact hc) (hide CT)
    · rw [alw_yes h hc]
      have cs := ce_spec (a := (if c < mn then mn else c) - mn) (b := st) (by omega)
      have hx : mn ≤ (if c < mn then mn else c) ∧ (if c < mn then mn else c) ≤ mx ∧ (if c < mn then mn else c) ≤ gtC mn mx st := by split <;> omega
      obtain ⟨k, k0, e1, e2, e3, e4, e5⟩ := alw_in (c := c) h
      rw [alw_yes h hc] at e1
      simp only [] at e1
      have F := fun w => ceil_any ((if c < mn then mn else c) - mn) st w (by omega) (by omega) (by omega) (by omega)
      have em : (if c < mn then mn else c) = max c mn := by split <;> omega
      rw [show ceA ((if c < mn then mn else c) - mn) st = ce ((if c < mn then mn else c) - mn) st by unfold ceA; rw [if_pos (qe_ok (by omega) (by omega))]] at F
      rw [em] at F e1 ⊢
      have kz : 0 ≤ k * st := Int.mul_nonneg k0 (by omega)
      exact allowed_yes mn mx st pn pd xa xn xc ya yn yc wo wi c _ _ _ _ _ w b1 b2 (by omega) (by omega) (by omega) (by omega) (wrap_in (by omega)) (by rw [← gd]; exact hc) (wrap_in (by omega)) (by omega) (by omega) (hide CT) (hide F)
  · rw [show cnt mn mx st = 0 by unfold cnt; rw [if_neg h]] at CT
    rw [alw_none h]
    exact allowed_none mn mx st pn pd xa xn xc ya yn yc wo wi c w (hide CT)
set_option maxHeartbeats 1000000 in
theorem rcycles_any (mn mx st pn pd : Int) (xa : Option Addr) (xn xc : Nat) (ya : Option Addr) (yn yc : Nat) (wo wi : Int) (w : World) : Calls Try.prog 20 #[.agg #[.int .i64 mn, .int .i64 mx, .int .i64 st, .int .i64 pn, .int .i64 pd, .slice xa xn xc, .slice ya yn yc, .int .i64 wo, .int .i64 wi]] w fun e w' => e = .returned (.bool (decide (okC mn mx st))) ∧ Keep w w' := by
  by_cases h1 : 1 ≤ mn
  · by_cases h2 : mn ≤ mx
    · by_cases h3 : mx ≤ 6000
      · have e : decide (okC mn mx st) = decide (1 ≤ st) := by unfold okC; simp only [h1, h2, h3, true_and]
        rw [e]
        clear e
        go_enter Try.func20, Try.ntmps20
        go_wp2_with fail
        go_ret
        exact ⟨rfl, by repeat (first | apply keep_ext | apply Keep.alloc | apply Keep.drew | (refine keep_set _ _ _ (by omega) ?_) | assumption | exact Keep.refl _)⟩
      · have e : decide (okC mn mx st) = false := decide_eq_false (by unfold okC; omega)
        rw [e]
        clear e
        go_enter Try.func20, Try.ntmps20
        go_wp2_with fail
        go_ret
        exact ⟨rfl, by repeat (first | apply keep_ext | apply Keep.alloc | apply Keep.drew | (refine keep_set _ _ _ (by omega) ?_) | assumption | exact Keep.refl _)⟩
    · have e : decide (okC mn mx st) = false := decide_eq_false (by unfold okC; omega)
      rw [e]
      clear e
      go_enter Try.func20, Try.ntmps20
      go_wp2_with fail
      go_ret
      exact ⟨rfl, by repeat (first | apply keep_ext | apply Keep.alloc | apply Keep.drew | (refine keep_set _ _ _ (by omega) ?_) | assumption | exact Keep.refl _)⟩
  · have e : decide (okC mn mx st) = false := decide_eq_false (by unfold okC; omega)
    rw [e]
    clear e
    go_enter Try.func20, Try.ntmps20
    go_wp2_with fail
    go_ret
    exact ⟨rfl, by repeat (first | apply keep_ext | apply Keep.alloc | apply Keep.drew | (refine keep_set _ _ _ (by omega) ?_) | assumption | exact Keep.refl _)⟩
set_option maxHeartbeats 1000000 in
theorem rallowed_no (mn mx st pn pd : Int) (xa : Option Addr) (xn xc : Nat) (ya : Option Addr) (yn yc : Nat) (wo wi : Int) (c : Int) (w : World) (T : Hid (∀ w, Calls Try.prog 20 #[.agg #[.int .i64 mn, .int .i64 mx, .int .i64 st, .int .i64 pn, .int .i64 pd, .slice xa xn xc, .slice ya yn yc, .int .i64 wo, .int .i64 wi]] w fun e w' => e = .returned (.bool false) ∧ Keep w w')) :
    Calls Try.prog 12 #[.agg #[.int .i64 mn, .int .i64 mx, .int .i64 st, .int .i64 pn, .int .i64 pd, .slice xa xn xc, .slice ya yn yc, .int .i64 wo, .int .i64 wi], .int .i64 c] w fun e w' => e = .returned (.tuple #[.int .i64 0, .bool false]) ∧ Keep w w' := by
  go_enter Try.func12, Try.ntmps12
  go_wp2_with fail
  (refine ((uq T) _).mono ?_; rintro e w1 ⟨rfl, hk⟩; obtain ⟨o1, k1, rfl⟩ := hk.ext; clear hk)
  go_wp2_with fail
  exact bodyPost_ret (v := .tuple #[.int .i64 0, .bool false]) (by simp [results, Try.results12, go_sem]) rfl ⟨rfl, by repeat (first | apply keep_ext | apply Keep.alloc | apply Keep.drew | (refine keep_set _ _ _ (by omega) ?_) | assumption | exact Keep.refl _)⟩
set_option maxHeartbeats 1000000 in
theorem rallowed_yes (mn mx st pn pd : Int) (xa : Option Addr) (xn xc : Nat) (ya : Option Addr) (yn yc : Nat) (wo wi : Int) (c R : Int) (B : Bool) (w : World) (h1 : 1 ≤ mn) (h2 : mn ≤ mx) (h3 : mx ≤ 6000) (h4 : 1 ≤ st) (HR : Hid (∀ k : Int, 0 ≤ k → mn + k * st ≤ mx → (k = 0 ∨ mn + k * st - st < c) → (c ≤ mn + k * st ∨ mx - (mn + k * st) < st) → mn + k * st = R ∧ decide (c ≤ mn + k * st) = B)) (T : Hid (∀ w, Calls Try.prog 20 #[.agg #[.int .i64 mn, .int .i64 mx, .int .i64 st, .int .i64 pn, .int .i64 pd, .slice xa xn xc, .slice ya yn yc, .int .i64 wo, .int .i64 wi]] w fun e w' => e = .returned (.bool true) ∧ Keep w w')) :
    Calls Try.prog 12 #[.agg #[.int .i64 mn, .int .i64 mx, .int .i64 st, .int .i64 pn, .int .i64 pd, .slice xa xn xc, .slice ya yn yc, .int .i64 wo, .int .i64 wi], .int .i64 c] w fun e w' => e = .returned (.tuple #[.int .i64 R, .bool B]) ∧ Keep w w' := by
  go_enter Try.func12, Try.ntmps12
  go_wp2_with fail
  (refine ((uq T) _).mono ?_; rintro e w1 ⟨rfl, hk⟩; obtain ⟨o1, k1, rfl⟩ := hk.ext; clear hk)
  go_wp2_with fail
  go_loop [6] (fun vi => ∃ a : Int, vi = .int .i64 a ∧ mn ≤ a ∧ a ≤ mx ∧ Hid (∃ k : Int, 0 ≤ k ∧ a = mn + k * st ∧ (k = 0 ∨ a - st < c))) (fun vi => (mx - intOf vi).toNat)
  case atStart => exact ⟨mn, rfl, Int.le_refl _, h2, hide ⟨0, by omega, by omega, .inl rfl⟩⟩
  case round =>
    obtain ⟨a, rfl, ha, hb, HK⟩ := hrel
    by_cases hc : a < c
    · by_cases hd : st ≤ mx - a
      · go_wp2_with fail
        go_round
        case rel =>
          obtain ⟨k, k0, ek, _⟩ := uq HK
          exact ⟨a + st, rfl, by omega, by omega, hide ⟨k + 1, by omega, by rw [Int.add_mul]; omega, .inr (by omega)⟩⟩
        case measure => simp [intOf]; omega
      · obtain ⟨k, k0, ek, hk⟩ := uq HK
        obtain ⟨e1, e2⟩ := (uq HR) k k0 (by omega) (by rw [← ek]; exact hk) (.inr (by omega))
        rw [← ek] at e1 e2
        clear HR HK ek hk
        subst e1 e2
        have hd' : decide (st ≤ mx - a) = false := decide_eq_false hd
        go_wp2_with fail
        exact bodyPost_ret (v := .tuple #[.int .i64 a, .bool (decide (c ≤ a))]) (by simp [results, Try.results12, go_sem]) rfl ⟨rfl, by repeat (first | apply keep_ext | apply Keep.alloc | apply Keep.drew | exact Keep.refl _)⟩
    · obtain ⟨k, k0, ek, hk⟩ := uq HK
      obtain ⟨e1, e2⟩ := (uq HR) k k0 (by omega) (by rw [← ek]; exact hk) (.inl (by omega))
      rw [← ek] at e1 e2
      rw [decide_eq_true (by omega)] at e2
      clear HR HK ek hk
      subst e1 e2
      go_wp2_with fail
      exact bodyPost_ret (v := .tuple #[.int .i64 a, .bool true]) (by first | (simp [results, Try.results12, go_sem]; done) | (simp [results, Try.results12, go_sem]; omega)) rfl ⟨rfl, by repeat (first | apply keep_ext | apply Keep.alloc | apply Keep.drew | exact Keep.refl _)⟩
theorem rallowed_any (mn mx st pn pd : Int) (xa : Option Addr) (xn xc : Nat) (ya : Option Addr) (yn yc : Nat) (wo wi : Int) (c : Int) (w : World) : Calls Try.prog 12 #[.agg #[.int .i64 mn, .int .i64 mx, .int .i64 st, .int .i64 pn, .int .i64 pd, .slice xa xn xc, .slice ya yn yc, .int .i64 wo, .int .i64 wi], .int .i64 c] w fun e w' => e = .returned (.tuple #[.int .i64 (alw mn mx st c).1, .bool (alw mn mx st c).2]) ∧ Keep w w' := by
  have CT := fun w => rcycles_any mn mx st pn pd xa xn xc ya yn yc wo wi w
  by_cases h : okC mn mx st
  · rw [decide_eq_true h] at CT
    have h' := h
    obtain ⟨h1, h2, h3, h4⟩ := h'
    exact rallowed_yes mn mx st pn pd xa xn xc ya yn yc wo wi c _ _ w h1 h2 h3 h4 (hide fun k k0 a1 a2 a3 => by rw [alw_end h k0 a1 a2 a3]; exact ⟨rfl, rfl⟩) (hide CT)
  · rw [decide_eq_false h] at CT
    rw [alw_none h]
    exact rallowed_no mn mx st pn pd xa xn xc ya yn yc wo wi c w (hide CT)
set_option maxHeartbeats 1000000 in
theorem rcount_no (mn mx st pn pd : Int) (xa : Option Addr) (xn xc : Nat) (ya : Option Addr) (yn yc : Nat) (wo wi : Int) (w : World) (T : Hid (∀ w, Calls Try.prog 20 #[.agg #[.int .i64 mn, .int .i64 mx, .int .i64 st, .int .i64 pn, .int .i64 pd, .slice xa xn xc, .slice ya yn yc, .int .i64 wo, .int .i64 wi]] w fun e w' => e = .returned (.bool false) ∧ Keep w w')) :
    Calls Try.prog 14 #[.agg #[.int .i64 mn, .int .i64 mx, .int .i64 st, .int .i64 pn, .int .i64 pd, .slice xa xn xc, .slice ya yn yc, .int .i64 wo, .int .i64 wi]] w fun e w' => e = .returned (.int .i64 0) ∧ Keep w w' := by
  go_enter Try.func14, Try.ntmps14
  go_wp2_with fail
  (refine ((uq T) _).mono ?_; rintro e w1 ⟨rfl, hk⟩; obtain ⟨o1, k1, rfl⟩ := hk.ext; clear hk)
  go_wp2_with fail
  go_ret
  exact ⟨rfl, by repeat (first | apply keep_ext | apply Keep.alloc | apply Keep.drew | (refine keep_set _ _ _ (by omega) ?_) | assumption | exact Keep.refl _)⟩
set_option maxHeartbeats 1000000 in
theorem rcount_yes (mn mx st pn pd : Int) (xa : Option Addr) (xn xc : Nat) (ya : Option Addr) (yn yc : Nat) (wo wi : Int) (R : Int) (w : World) (h1 : 1 ≤ mn) (h2 : mn ≤ mx) (h3 : mx ≤ 6000) (h4 : 1 ≤ st) (HR : Hid (∀ k : Int, mn + k * st ≤ mx → mx - (mn + k * st) < st → k + 1 = R)) (T : Hid (∀ w, Calls Try.prog 20 #[.agg #[.int .i64 mn, .int .i64 mx, .int .i64 st, .int .i64 pn, .int .i64 pd, .slice xa xn xc, .slice ya yn yc, .int .i64 wo, .int .i64 wi]] w fun e w' => e = .returned (.bool true) ∧ Keep w w')) :
    Calls Try.prog 14 #[.agg #[.int .i64 mn, .int .i64 mx, .int .i64 st, .int .i64 pn, .int .i64 pd, .slice xa xn xc, .slice ya yn yc, .int .i64 wo, .int .i64 wi]] w fun e w' => e = .returned (.int .i64 R) ∧ Keep w w' := by
  go_enter Try.func14, Try.ntmps14
  go_wp2_with fail
  (refine ((uq T) _).mono ?_; rintro e w1 ⟨rfl, hk⟩; obtain ⟨o1, k1, rfl⟩ := hk.ext; clear hk)
  go_wp2_with fail
  go_loop [3, 4] (fun vk vi => ∃ u a : Int, vk = .int .i64 u ∧ vi = .int .i64 a ∧ 1 ≤ u ∧ u ≤ a ∧ mn ≤ a ∧ a ≤ mx ∧ Hid (∃ k : Int, 0 ≤ k ∧ u = k + 1 ∧ a = mn + k * st)) (fun vk vi => (mx - intOf vi).toNat)
  case atStart => exact ⟨1, mn, rfl, rfl, by omega, by omega, Int.le_refl _, h2, hide ⟨0, by omega, by omega, by omega⟩⟩
  case round =>
    obtain ⟨u, a, rfl, rfl, hu, hua, ha, hb, HK⟩ := hrel
    by_cases hd : st ≤ mx - a
    · go_wp2_with fail
      go_round
      case rel =>
        obtain ⟨k, k0, ku, ek⟩ := uq HK
        exact ⟨u + 1, a + st, rfl, rfl, by omega, by omega, by omega, by omega, hide ⟨k + 1, by omega, by omega, by rw [Int.add_mul]; omega⟩⟩
      case measure => simp [intOf]; omega
    · obtain ⟨k, k0, ku, ek⟩ := uq HK
      have e1 := (uq HR) k (by omega) (by omega)
      rw [← ku] at e1
      clear HR HK ek ku
      subst e1
      go_wp2_with fail
      go_ret
      exact ⟨rfl, by repeat (first | apply keep_ext | apply Keep.alloc | apply Keep.drew | exact Keep.refl _)⟩
theorem rcount_any (mn mx st pn pd : Int) (xa : Option Addr) (xn xc : Nat) (ya : Option Addr) (yn yc : Nat) (wo wi : Int) (w : World) : Calls Try.prog 14 #[.agg #[.int .i64 mn, .int .i64 mx, .int .i64 st, .int .i64 pn, .int .i64 pd, .slice xa xn xc, .slice ya yn yc, .int .i64 wo, .int .i64 wi]] w fun e w' => e = .returned (.int .i64 (cnt mn mx st)) ∧ Keep w w' := by
  have CT := fun w => rcycles_any mn mx st pn pd xa xn xc ya yn yc wo wi w
  by_cases h : okC mn mx st
  · rw [decide_eq_true h] at CT
    have h' := h
    obtain ⟨h1, h2, h3, h4⟩ := h'
    exact rcount_yes mn mx st pn pd xa xn xc ya yn yc wo wi _ w h1 h2 h3 h4 (hide fun k a1 a2 => (cnt_end h a1 a2).symm) (hide CT)
  · rw [decide_eq_false h] at CT
    rw [show cnt mn mx st = 0 by unfold cnt; rw [if_neg h]]
    exact rcount_no mn mx st pn pd xa xn xc ya yn yc wo wi w (hide CT)
end Wb
end Go.Proofs.Ytjibbekojbaopaa
