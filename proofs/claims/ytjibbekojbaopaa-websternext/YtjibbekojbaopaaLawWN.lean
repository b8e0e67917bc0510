/- Proved: for every network and every number, an allowed cycle is allowed itself, between the bounds, a number of steps above the least one, and none allowed is nearer. -/
import Derived.Test.YtjibbekojbaopaaRows
import Derived.Test.YtjibbekojbaopaaWbS
import Derived.Test.YtjibbekojbaopaaWbL
namespace Go.Proofs.Ytjibbekojbaopaa.wnext
open Go.ChangeShapes Go.WideShapes Go.ChangeAt Go.RowKit
open Go.WideMaps Go.WideElems
attribute [local go_sem ↓] Go.wp_at_zero Go.wp_at_succ
set_option linter.unusedVariables false
set_option linter.unusedSimpArgs false
set_option maxRecDepth 10000
open Wb W
set_option maxHeartbeats 1000000 in
theorem wno (mn mx st pn pd : Int) (xa : Option Addr) (xn xc : Nat) (ya : Option Addr) (yn yc : Nat) (wo wi : Int) (c : Int) (w : World) (T1 : Hid (∀ w, Calls Try.prog 11 #[.agg #[.int .i64 mn, .int .i64 mx, .int .i64 st, .int .i64 pn, .int .i64 pd, .slice xa xn xc, .slice ya yn yc, .int .i64 wo, .int .i64 wi], .int .i64 c] w fun e w' => e = .returned (.tuple #[.int .i64 0, .bool false]) ∧ Keep w w'))
    (T2 : Hid (∀ w, Calls Try.prog 20 #[.agg #[.int .i64 mn, .int .i64 mx, .int .i64 st, .int .i64 pn, .int .i64 pd, .slice xa xn xc, .slice ya yn yc, .int .i64 wo, .int .i64 wi]] w fun e w' => e = .returned (.bool false) ∧ Keep w w'))
    (T3 : Hid (∀ w, Calls Try.prog 13 #[.agg #[.int .i64 mn, .int .i64 mx, .int .i64 st, .int .i64 pn, .int .i64 pd, .slice xa xn xc, .slice ya yn yc, .int .i64 wo, .int .i64 wi]] w fun e w' => e = .returned (.int .i64 0) ∧ Keep w w'))
    (AW : Hid (∀ w, Calls Try.prog 10 #[] w fun e w' => e = .returned (.bool true) ∧ Keep w w')) :
    Calls Try.prog 7 #[.agg #[.int .i64 mn, .int .i64 mx, .int .i64 st, .int .i64 pn, .int .i64 pd, .slice xa xn xc, .slice ya yn yc, .int .i64 wo, .int .i64 wi], .int .i64 c] w fun e w' => e = .returned (.bool true) ∧ Keep w w' := by
  go_enter Try.func7, Try.ntmps7
  go_wp2_with fail
  (refine ((uq T1) _).mono ?_; rintro e w1 ⟨rfl, hk⟩; obtain ⟨o1, k1, rfl⟩ := hk.ext; clear hk)
  go_wp2_with fail
  (refine ((uq T2) _).mono ?_; rintro e w2 ⟨rfl, hk⟩; obtain ⟨o2, k2, rfl⟩ := hk.ext; clear hk)
  go_wp2_with fail
  (refine ((uq T3) _).mono ?_; rintro e w3 ⟨rfl, hk⟩; obtain ⟨o3, k3, rfl⟩ := hk.ext; clear hk)
  go_wp2_with fail
  (refine ((uq AW) _).mono ?_; rintro e w4 ⟨rfl, hk⟩; obtain ⟨o4, k4, rfl⟩ := hk.ext; clear hk)
  go_wp2_with fail
  go_ret
  exact ⟨rfl, by repeat (first | apply keep_ext | apply Keep.alloc | apply Keep.drew | (refine keep_set _ _ _ (by omega) ?_) | assumption | exact Keep.refl _)⟩
set_option maxHeartbeats 1000000 in
theorem wyes1 (mn mx st pn pd : Int) (xa : Option Addr) (xn xc : Nat) (ya : Option Addr) (yn yc : Nat) (wo wi : Int) (c a : Int) (w : World) (h1 : 1 ≤ mn) (h3 : mx ≤ 6000) (h4 : 1 ≤ st) (ha : mn ≤ a) (hb : a ≤ mx) (ho : decide (c ≤ a) = true) (hm : (a - mn).tmod st = 0) (hm2 : (a - mn) % st = 0) (hz : (st == 0) = false) (hy : ¬ st = 0) (hc : c ≤ a) (hn : a = mn) (T1 : Hid (∀ w, Calls Try.prog 11 #[.agg #[.int .i64 mn, .int .i64 mx, .int .i64 st, .int .i64 pn, .int .i64 pd, .slice xa xn xc, .slice ya yn yc, .int .i64 wo, .int .i64 wi], .int .i64 c] w fun e w' => e = .returned (.tuple #[.int .i64 a, .bool true]) ∧ Keep w w'))
    (T2 : Hid (∀ w, Calls Try.prog 20 #[.agg #[.int .i64 mn, .int .i64 mx, .int .i64 st, .int .i64 pn, .int .i64 pd, .slice xa xn xc, .slice ya yn yc, .int .i64 wo, .int .i64 wi]] w fun e w' => e = .returned (.bool true) ∧ Keep w w'))
    (T3 : Hid (∀ w, Calls Try.prog 11 #[.agg #[.int .i64 mn, .int .i64 mx, .int .i64 st, .int .i64 pn, .int .i64 pd, .slice xa xn xc, .slice ya yn yc, .int .i64 wo, .int .i64 wi], .int .i64 a] w fun e w' => e = .returned (.tuple #[.int .i64 a, .bool true]) ∧ Keep w w'))
    (AW : Hid (∀ w, Calls Try.prog 10 #[] w fun e w' => e = .returned (.bool true) ∧ Keep w w')) :
    Calls Try.prog 7 #[.agg #[.int .i64 mn, .int .i64 mx, .int .i64 st, .int .i64 pn, .int .i64 pd, .slice xa xn xc, .slice ya yn yc, .int .i64 wo, .int .i64 wi], .int .i64 c] w fun e w' => e = .returned (.bool true) ∧ Keep w w' := by
  subst hn
  go_enter Try.func7, Try.ntmps7
  go_wp2_with fail
  (refine ((uq T1) _).mono ?_; rintro e w1 ⟨rfl, hk⟩; obtain ⟨o1, k1, rfl⟩ := hk.ext; clear hk)
  go_wp2_with fail
  (refine ((uq T2) _).mono ?_; rintro e w2 ⟨rfl, hk⟩; obtain ⟨o2, k2, rfl⟩ := hk.ext; clear hk)
  go_wp2_with fail
  (refine ((uq T3) _).mono ?_; rintro e w3 ⟨rfl, hk⟩; obtain ⟨o3, k3, rfl⟩ := hk.ext; clear hk)
  go_wp2_with fail
  (refine ((uq AW) _).mono ?_; rintro e w4 ⟨rfl, hk⟩; obtain ⟨o4, k4, rfl⟩ := hk.ext; clear hk)
  go_wp2_with fail
  go_ret
  exact ⟨rfl, by repeat (first | apply keep_ext | apply Keep.alloc | apply Keep.drew | (refine keep_set _ _ _ (by omega) ?_) | assumption | exact Keep.refl _)⟩
set_option maxHeartbeats 1000000 in
theorem wyes2 (mn mx st pn pd : Int) (xa : Option Addr) (xn xc : Nat) (ya : Option Addr) (yn yc : Nat) (wo wi : Int) (c a : Int) (w : World) (h1 : 1 ≤ mn) (h3 : mx ≤ 6000) (h4 : 1 ≤ st) (ha : mn ≤ a) (hb : a ≤ mx) (ho : decide (c ≤ a) = true) (hm : (a - mn).tmod st = 0) (hm2 : (a - mn) % st = 0) (hz : (st == 0) = false) (hy : ¬ st = 0) (hc : c ≤ a) (hn : ¬ a = mn) (hl : wrap64 (a - st) < c) (T1 : Hid (∀ w, Calls Try.prog 11 #[.agg #[.int .i64 mn, .int .i64 mx, .int .i64 st, .int .i64 pn, .int .i64 pd, .slice xa xn xc, .slice ya yn yc, .int .i64 wo, .int .i64 wi], .int .i64 c] w fun e w' => e = .returned (.tuple #[.int .i64 a, .bool true]) ∧ Keep w w'))
    (T2 : Hid (∀ w, Calls Try.prog 20 #[.agg #[.int .i64 mn, .int .i64 mx, .int .i64 st, .int .i64 pn, .int .i64 pd, .slice xa xn xc, .slice ya yn yc, .int .i64 wo, .int .i64 wi]] w fun e w' => e = .returned (.bool true) ∧ Keep w w'))
    (T3 : Hid (∀ w, Calls Try.prog 11 #[.agg #[.int .i64 mn, .int .i64 mx, .int .i64 st, .int .i64 pn, .int .i64 pd, .slice xa xn xc, .slice ya yn yc, .int .i64 wo, .int .i64 wi], .int .i64 a] w fun e w' => e = .returned (.tuple #[.int .i64 a, .bool true]) ∧ Keep w w'))
    (AW : Hid (∀ w, Calls Try.prog 10 #[] w fun e w' => e = .returned (.bool true) ∧ Keep w w')) :
    Calls Try.prog 7 #[.agg #[.int .i64 mn, .int .i64 mx, .int .i64 st, .int .i64 pn, .int .i64 pd, .slice xa xn xc, .slice ya yn yc, .int .i64 wo, .int .i64 wi], .int .i64 c] w fun e w' => e = .returned (.bool true) ∧ Keep w w' := by
  go_enter Try.func7, Try.ntmps7
  go_wp2_with fail
  (refine ((uq T1) _).mono ?_; rintro e w1 ⟨rfl, hk⟩; obtain ⟨o1, k1, rfl⟩ := hk.ext; clear hk)
  go_wp2_with fail
  (refine ((uq T2) _).mono ?_; rintro e w2 ⟨rfl, hk⟩; obtain ⟨o2, k2, rfl⟩ := hk.ext; clear hk)
  go_wp2_with fail
  (refine ((uq T3) _).mono ?_; rintro e w3 ⟨rfl, hk⟩; obtain ⟨o3, k3, rfl⟩ := hk.ext; clear hk)
  go_wp2_with fail
  (refine ((uq AW) _).mono ?_; rintro e w4 ⟨rfl, hk⟩; obtain ⟨o4, k4, rfl⟩ := hk.ext; clear hk)
  go_wp2_with fail
  go_ret
  exact ⟨rfl, by repeat (first | apply keep_ext | apply Keep.alloc | apply Keep.drew | (refine keep_set _ _ _ (by omega) ?_) | assumption | exact Keep.refl _)⟩
set_option maxHeartbeats 1000000 in
theorem wyes3 (mn mx st pn pd : Int) (xa : Option Addr) (xn xc : Nat) (ya : Option Addr) (yn yc : Nat) (wo wi : Int) (c a : Int) (w : World) (h1 : 1 ≤ mn) (h3 : mx ≤ 6000) (h4 : 1 ≤ st) (ha : mn ≤ a) (hb : a ≤ mx) (ho : decide (c ≤ a) = false) (hm : (a - mn).tmod st = 0) (hm2 : (a - mn) % st = 0) (hz : (st == 0) = false) (hy : ¬ st = 0) (hc : ¬ c ≤ a) (hl : mx - a < st) (T1 : Hid (∀ w, Calls Try.prog 11 #[.agg #[.int .i64 mn, .int .i64 mx, .int .i64 st, .int .i64 pn, .int .i64 pd, .slice xa xn xc, .slice ya yn yc, .int .i64 wo, .int .i64 wi], .int .i64 c] w fun e w' => e = .returned (.tuple #[.int .i64 a, .bool false]) ∧ Keep w w'))
    (T2 : Hid (∀ w, Calls Try.prog 20 #[.agg #[.int .i64 mn, .int .i64 mx, .int .i64 st, .int .i64 pn, .int .i64 pd, .slice xa xn xc, .slice ya yn yc, .int .i64 wo, .int .i64 wi]] w fun e w' => e = .returned (.bool true) ∧ Keep w w'))
    (T3 : Hid (∀ w, Calls Try.prog 11 #[.agg #[.int .i64 mn, .int .i64 mx, .int .i64 st, .int .i64 pn, .int .i64 pd, .slice xa xn xc, .slice ya yn yc, .int .i64 wo, .int .i64 wi], .int .i64 a] w fun e w' => e = .returned (.tuple #[.int .i64 a, .bool true]) ∧ Keep w w'))
    (AW : Hid (∀ w, Calls Try.prog 10 #[] w fun e w' => e = .returned (.bool true) ∧ Keep w w')) :
    Calls Try.prog 7 #[.agg #[.int .i64 mn, .int .i64 mx, .int .i64 st, .int .i64 pn, .int .i64 pd, .slice xa xn xc, .slice ya yn yc, .int .i64 wo, .int .i64 wi], .int .i64 c] w fun e w' => e = .returned (.bool true) ∧ Keep w w' := by
  go_enter Try.func7, Try.ntmps7
  go_wp2_with fail
  (refine ((uq T1) _).mono ?_; rintro e w1 ⟨rfl, hk⟩; obtain ⟨o1, k1, rfl⟩ := hk.ext; clear hk)
  go_wp2_with fail
  (refine ((uq T2) _).mono ?_; rintro e w2 ⟨rfl, hk⟩; obtain ⟨o2, k2, rfl⟩ := hk.ext; clear hk)
  go_wp2_with fail
  (refine ((uq T3) _).mono ?_; rintro e w3 ⟨rfl, hk⟩; obtain ⟨o3, k3, rfl⟩ := hk.ext; clear hk)
  go_wp2_with fail
  (refine ((uq AW) _).mono ?_; rintro e w4 ⟨rfl, hk⟩; obtain ⟨o4, k4, rfl⟩ := hk.ext; clear hk)
  go_wp2_with fail
  go_ret
  exact ⟨rfl, by repeat (first | apply keep_ext | apply Keep.alloc | apply Keep.drew | (refine keep_set _ _ _ (by omega) ?_) | assumption | exact Keep.refl _)⟩
theorem walk {w : World} {ds : List D} {us : List Value} (hs : ShL Wb.wnetT ds) (hr : Rvs w ds us) (c : Int) : Calls Try.prog 7 #[.agg us.toArray, .int .i64 c] w fun e w' => e = .returned (.bool true) ∧ Below w.heap.size w w' := by
  obtain ⟨mn, mx, st, pn, pd, xa, xn, xc, ya, yn, yc, wo, wi, rfl, hst⟩ := nine hs hr
  have A1 := fun w => allowed_any mn mx st pn pd xa xn xc ya yn yc wo wi c w hst
  have A2 := fun w => rcycles_any mn mx st pn pd xa xn xc ya yn yc wo wi w
  by_cases h : okC mn mx st
  · have A3 := fun w => allowed_any mn mx st pn pd xa xn xc ya yn yc wo wi (alw mn mx st c).1 w hst
    rw [alw_again h] at A3
    rw [decide_eq_true h] at A2
    obtain ⟨k, k0, e1, h1, e2, h2, h3⟩ := alw_in (c := c) h
    obtain ⟨g1, g2, g3, g4⟩ := h
    have kz : 0 ≤ k * st := Int.mul_nonneg k0 (by omega)
    have m1 : (mn + k * st - mn).tmod st = 0 := by rw [show mn + k * st - mn = k * st by omega]; exact Int.mul_tmod_left k st
    have m2 : (mn + k * st - mn) % st = 0 := by rw [show mn + k * st - mn = k * st by omega]; exact Int.mul_emod_left k st
    rw [e1, e2] at A1
    rw [e1] at A3
    clear e1 e2
    by_cases hc : c ≤ mn + k * st
    · rw [decide_eq_true hc] at A1
      by_cases hn : mn + k * st = mn
      · exact wyes1 mn mx st pn pd xa xn xc ya yn yc wo wi c _ w g1 g3 g4 (by omega) h1 (decide_eq_true hc) m1 m2 (by simp; omega) (by omega) hc hn (hide A1) (hide A2) (hide A3) (hide awake_any)
      · refine wyes2 mn mx st pn pd xa xn xc ya yn yc wo wi c _ w g1 g3 g4 (by omega) h1 (decide_eq_true hc) m1 m2 (by simp; omega) (by omega) hc hn ?_ (hide A1) (hide A2) (hide A3) (hide awake_any)
        rw [wrap_in (by omega)]
        rcases h2 hc with h2 | h2
        · subst h2; simp at hn
        · exact h2
    · rw [decide_eq_false hc] at A1
      exact wyes3 mn mx st pn pd xa xn xc ya yn yc wo wi c _ w g1 g3 g4 (by omega) h1 (decide_eq_false hc) m1 m2 (by simp; omega) (by omega) hc (h3 hc) (hide A1) (hide A2) (hide A3) (hide awake_any)
  · have A3 := fun w => wcount_any mn mx st pn pd xa xn xc ya yn yc wo wi w hst
    rw [decide_eq_false h] at A2
    rw [alw_none h] at A1
    rw [show cnt mn mx st = 0 by unfold cnt; rw [if_neg h]] at A3
    exact wno mn mx st pn pd xa xn xc ya yn yc wo wi c w (hide A1) (hide A2) (hide A3) (hide awake_any)
theorem laidOut : laidOutB Try.prog = true := by kernel_rfl
theorem own : ownKnob Try.prog.godebug = none := by kernel_rfl
set_option maxHeartbeats 400000 in
set_option maxRecDepth 100000 in
theorem lifted (os : Os) (started : os.Started) (H : Type) (enc : TypeId × Value → H) :
    ReturnsInHanded {} Try.checked os 7 .any (Rows.websterNextSpec.pre6 enc Try.prog Try.f7 Rows.websterNextRow.domain false) (Rows.websterNextSpec.post enc Try.prog Try.f7 false true false false) := by
  refine returnsInHanded_of_change (C := Try.checked) own started (by kernel_rfl) Try.func7
    (ChangeSpec.witness6 (enc := enc) (C := Try.checked) false ⟨#[], #[.agg #[.int .i64 0, .int .i64 0, .int .i64 0, .int .i64 0, .int .i64 0, .slice none 0 0, .slice none 0 0, .int .i64 0, .int .i64 0], .int .i64 0], []⟩ 8 (by kernel_rfl) (by kernel_rfl) (by kernel_rfl) (by kernel_rfl)) ?_
  intro W base args ds gs before hval0 hW hcnd _
  have hval : ∀ (j : Nat) t v, Try.f7.params[j]? = some t → args[j]? = some v → Value.okWide Try.prog W .any base t v := hval0
  have hW' := hW
  obtain ⟨p, q, hA0, hV, rfl, hfz, hnd⟩ := hW
  have hA : DataW.TrodAll enc Try.prog W 0 (fun _ => true) true Try.f7.params.toList args.toList ds p := hA0
  rw [Try.params7] at hA hval
  obtain ⟨v0, vs0, d0, ds0, p0, q0, hargs, rfl, rfl, h0, r0⟩ := trodAll_cons hA
  obtain ⟨v1, vs1, d1, ds1, p1, q1, rfl, rfl, rfl, h1, r1⟩ := trodAll_cons r0
  obtain ⟨rfl, rfl, rfl⟩ := trodAll_nil r1
  obtain rfl : args = #[v0, v1] := by cases args; simp_all
  obtain ⟨rfl, rfl⟩ := trodVars_none hV
  have k0 := h0
  have lt0 : ∀ x ∈ p0, x.block < W.heap.size := by obtain ⟨m, hm⟩ := k0; exact DataW.trod_lt m _ _ _ hm
  obtain ⟨es0, us0, rfl, s0, x0⟩ := open_struct Try.underlying32 Wb.wnet_desc (hval 0 32 v0 rfl rfl) h0
  clear h0
  obtain ⟨a1, rfl, rfl, rfl, w1⟩ := open_int Try.underlying2 (hval 1 2 v1 rfl rfl) h1
  clear hA0 hval0
  refine (walk s0 x0 a1).mono fun e W' ⟨he, bel⟩ => ?_
  subst he
  exact ⟨_, rfl, _, _, _, [], _, [], hW', trodAll_mk1 (shut_bool Try.underlying4 _), (trodAll_cons_mk (Below.trod laidOut (by kernel_rfl) (of_decide_eq_true (by kernel_rfl)) k0 bel lt0) (trodAll_cons_mk (shut_int Try.underlying2 w1) trodAll_mk0)), rfl, bel.frame _, fun h => by cases h⟩
theorem over : Rows.websterNextRow.holds Try.pinned (OpenSpec.ofChange Rows.websterNextSpec) :=
  OpenClaim.holds_of_wide 7 Try.f7 rfl rfl rfl rfl rfl rfl rfl ⟨rfl, rfl, rfl, rfl, rfl⟩ rfl rfl rfl rfl rfl (by kernel_rfl) Try.func7 (by kernel_rfl)
    (of_decide_eq_true (by kernel_rfl)) (by unfold Func.isWrapper; first | (rw [if_pos (by decide +kernel)]; kernel_rfl) | (rw [if_neg (by decide +kernel)]; exact ⟨rfl, rfl⟩))
    (fun os started H enc _ => lifted os started H enc)

end Go.Proofs.Ytjibbekojbaopaa.wnext
namespace Go.Proofs.Ytjibbekojbaopaa
theorem WebsterNext_holds : Rows.WebsterNextSaid := wnext.over
end Go.Proofs.Ytjibbekojbaopaa
