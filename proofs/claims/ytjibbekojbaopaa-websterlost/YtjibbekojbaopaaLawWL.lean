/- Proved: for all needs and all places, 50 of each at most, times of 10^12, the lost time is the document's. -/
import Derived.Test.YtjibbekojbaopaaRows
import Derived.Test.YtjibbekojbaopaaWbL
namespace Go.Proofs.Ytjibbekojbaopaa.wlost
open Go.ChangeShapes Go.WideShapes Go.ChangeAt Go.RowKit
open Go.WideMaps Go.WideElems
attribute [local go_sem ↓] Go.wp_at_zero Go.wp_at_succ
set_option linter.unusedVariables false
set_option linter.unusedSimpArgs false
set_option maxRecDepth 10000
open Wb W
set_option maxHeartbeats 1000000 in
theorem wbig (la : Option Addr) (ln lc : Nat) (pa : Option Addr) (pn pc : Nat) (w : World) (hn : pn ≤ 9223372036854775807) (hl : ln ≤ 9223372036854775807) (h : 50 < (ln : Int) ∨ (¬ 50 < (ln : Int) ∧ 50 < (pn : Int))) : Calls Try.prog 5 #[.slice la ln lc, .slice pa pn pc] w fun e w' => e = .returned (.bool true) ∧ Keep w w' := by
  rcases h with h | ⟨h, h2⟩
  · go_enter Try.func5, Try.ntmps5
    go_wp2_with fail
    go_ret
    exact ⟨rfl, by repeat (first | apply keep_ext | apply Keep.alloc | apply Keep.drew | (refine keep_set _ _ _ (by omega) ?_) | assumption | exact Keep.refl _)⟩
  · go_enter Try.func5, Try.ntmps5
    go_wp2_with fail
    go_ret
    exact ⟨rfl, by repeat (first | apply keep_ext | apply Keep.alloc | apply Keep.drew | (refine keep_set _ _ _ (by omega) ?_) | assumption | exact Keep.refl _)⟩
set_option maxHeartbeats 4000000 in
theorem wcore (la : Option Addr) (ln lc : Nat) (pa : Option Addr) (pn pc : Nat) (Y R : Nat → Int) (L : Int) (w : World) (hl : ¬ 50 < (ln : Int)) (hn : ¬ 50 < (pn : Int)) (HN : Hid (∀ k, k < ln → NeedAt w la k (Y k) (R k))) (T1 : Hid (∀ w1, Keep w w1 → Calls Try.prog 15 #[.slice la ln lc, .slice pa pn pc] w1 fun e w' => e = .returned (.int .i64 L) ∧ Keep w1 w'))
    (T2 : Hid (∀ w1, Keep w w1 → Calls Try.prog 16 #[.slice la ln lc, .slice pa pn pc] w1 fun e w' => e = .returned (.int .i64 L) ∧ Keep w1 w'))
    (AW : Hid (∀ w, Calls Try.prog 10 #[] w fun e w' => e = .returned (.bool true) ∧ Keep w w')) :
    Calls Try.prog 5 #[.slice la ln lc, .slice pa pn pc] w fun e w' => e = .returned (.bool true) ∧ Keep w w' := by
  go_enter Try.func5, Try.ntmps5
  go_wp2_with fail
  go_loop [5] (fun vi => ∃ k : Nat, k ≤ ln ∧ vi = .int .i64 (k : Int)) (fun vi => ln - (intOf vi).toNat)
  case atStart => exact ⟨0, Nat.zero_le _, rfl⟩
  case round =>
    obtain ⟨k, hk, rfl⟩ := hrel
    by_cases hlt : k < ln
    · have li : (k : Int) < (ln : Int) := by omega
      obtain ⟨ld, s, g, p, q, xa, xn, xc, rfl, hb2, c0, c1, c2, c3, c4, c5, c6⟩ := (uq HN) k hlt
      clear c0 c1 c4 c5 c6
      generalize Y k = y at c2
      generalize R k = r at c3
      by_cases a1 : y < 0
      · go_wp2_with fail
        go_ret
        exact ⟨rfl, Keep.refl _⟩
      · by_cases a2 : 1000000000000 < y
        · go_wp2_with fail
          go_ret
          exact ⟨rfl, Keep.refl _⟩
        · by_cases a3 : r < 0
          · go_wp2_with fail
            go_ret
            exact ⟨rfl, Keep.refl _⟩
          · by_cases a4 : 1000000000000 < r
            · go_wp2_with fail
              go_ret
              exact ⟨rfl, Keep.refl _⟩
            · go_wp2_with fail
              go_round
              case rel => exact ⟨k + 1, hlt, by go_num⟩
              case measure => simp [intOf]; omega
    · have li : ¬ (k : Int) < (ln : Int) := by omega
      go_wp2_with fail
      (refine ((uq T1) _ (Keep.refl _)).mono ?_; rintro e w2 ⟨rfl, k2⟩; replace k2 := hide k2)
      go_wp2_with fail
      (refine ((uq T2) _ (uq k2)).mono ?_; rintro e w3 ⟨rfl, k3⟩; replace k3 := hide ((uq k2).trans k3))
      go_wp2_with fail
      (refine ((uq AW) _).mono ?_; rintro e w4 ⟨rfl, k4⟩)
      go_wp2_with fail
      go_ret
      exact ⟨rfl, (uq k3).trans k4⟩
theorem walk {w : World} {ds : List D} {v : Value} (hs : ShL needsT ds) (hr : Rvs w ds [v]) {es : List D} {u : Value} (gs : ShL intsT es) (gr : Rvs w es [u]) : Calls Try.prog 5 #[v, u] w fun e w' => e = .returned (.bool true) ∧ Below w.heap.size w w' := by
  obtain ⟨la, ln, lc, Y, R, rfl, hl, HN⟩ := needs hs hr
  obtain ⟨pa, pn, pc, Pl, rfl, hn, HP⟩ := ints gs gr
  have m0 : maxLen ≤ 9223372036854775807 := by decide
  by_cases h : 50 < (ln : Int) ∨ (¬ 50 < (ln : Int) ∧ 50 < (pn : Int))
  · exact wbig la ln lc pa pn pc w (by omega) (by omega) h
  · have HP' : ∀ w1, Keep w w1 → ∀ k, k < pn → ∃ ad, pa = some ad ∧ ad.block < w1.heap.size ∧ w1.cell? (ad.add k) = some (.int .i64 (Pl k)) := fun w1 k1 k hk => by
      obtain ⟨ad, e, hb, hc⟩ := HP k hk
      exact ⟨ad, e, Nat.lt_of_lt_of_le hb k1.size, Keep.cl k1 hc⟩
    exact wcore la ln lc pa pn pc Y R _ w (by omega) (by omega) (hide HN)
      (hide fun w1 k1 => lost_core la ln lc pa pn pc Y R Pl w1 (by omega) (by omega) (hide (HP' w1 k1)) (hide fun k hk => (HN k hk).keep k1))
      (hide fun w1 k1 => rlost_core la ln lc pa pn pc Y R Pl w1 (by omega) (by omega) (hide (HP' w1 k1)) (hide fun k hk => (HN k hk).keep k1)) (hide awake_any)
theorem laidOut : laidOutB Try.prog = true := by kernel_rfl
theorem own : ownKnob Try.prog.godebug = none := by kernel_rfl
set_option maxHeartbeats 400000 in
set_option maxRecDepth 100000 in
theorem lifted (os : Os) (started : os.Started) (H : Type) (enc : TypeId × Value → H) :
    ReturnsInHanded {} Try.checked os 5 .any (Rows.websterLostSpec.pre6 enc Try.prog Try.f5 Rows.websterLostRow.domain false) (Rows.websterLostSpec.post enc Try.prog Try.f5 false true false false) := by
  refine returnsInHanded_of_change (C := Try.checked) own started (by kernel_rfl) Try.func5
    (ChangeSpec.witness6 (enc := enc) (C := Try.checked) false ⟨#[], #[.slice none 0 0, .slice none 0 0], []⟩ 8 (by kernel_rfl) (by kernel_rfl) (by kernel_rfl) (by kernel_rfl)) ?_
  intro W base args ds gs before hval0 hW hcnd _
  have hval : ∀ (j : Nat) t v, Try.f5.params[j]? = some t → args[j]? = some v → Value.okWide Try.prog W .any base t v := hval0
  have hW' := hW
  obtain ⟨p, q, hA0, hV, rfl, hfz, hnd⟩ := hW
  have hA : DataW.TrodAll enc Try.prog W 0 (fun _ => true) true Try.f5.params.toList args.toList ds p := hA0
  rw [Try.params5] at hA hval
  obtain ⟨v0, vs0, d0, ds0, p0, q0, hargs, rfl, rfl, h0, r0⟩ := trodAll_cons hA
  obtain ⟨v1, vs1, d1, ds1, p1, q1, rfl, rfl, rfl, h1, r1⟩ := trodAll_cons r0
  obtain ⟨rfl, rfl, rfl⟩ := trodAll_nil r1
  obtain rfl : args = #[v0, v1] := by cases args; simp_all
  obtain ⟨rfl, rfl⟩ := trodVars_none hV
  have k0 := h0
  have lt0 : ∀ x ∈ p0, x.block < W.heap.size := by obtain ⟨m, hm⟩ := k0; exact DataW.trod_lt m _ _ _ hm
  obtain ⟨es0, s0, x0⟩ := Wb.open_row Try.underlying37 Wb.needs_desc (hval 0 37 v0 rfl rfl) h0
  clear h0
  have k1 := h1
  have lt1 : ∀ x ∈ p1, x.block < W.heap.size := by obtain ⟨m, hm⟩ := k1; exact DataW.trod_lt m _ _ _ hm
  obtain ⟨es1, s1, x1⟩ := Wb.open_row Try.underlying38 Wb.ints_desc (hval 1 38 v1 rfl rfl) h1
  clear h1
  clear hA0 hval0
  refine (walk s0 x0 s1 x1).mono fun e W' ⟨he, bel⟩ => ?_
  subst he
  exact ⟨_, rfl, _, _, _, [], _, [], hW', trodAll_mk1 (shut_bool Try.underlying4 _), (trodAll_cons_mk (Below.trod laidOut (by kernel_rfl) (of_decide_eq_true (by kernel_rfl)) k0 bel lt0) (trodAll_cons_mk (Below.trod laidOut (by kernel_rfl) (of_decide_eq_true (by kernel_rfl)) k1 bel lt1) trodAll_mk0)), rfl, bel.frame _, fun h => by cases h⟩
theorem over : Rows.websterLostRow.holds Try.pinned (OpenSpec.ofChange Rows.websterLostSpec) :=
  OpenClaim.holds_of_wide 5 Try.f5 rfl rfl rfl rfl rfl rfl rfl ⟨rfl, rfl, rfl, rfl, rfl⟩ rfl rfl rfl rfl rfl (by kernel_rfl) Try.func5 (by kernel_rfl)
    (of_decide_eq_true (by kernel_rfl)) (by unfold Func.isWrapper; first | (rw [if_pos (by decide +kernel)]; kernel_rfl) | (rw [if_neg (by decide +kernel)]; exact ⟨rfl, rfl⟩))
    (fun os started H enc _ => lifted os started H enc)

end Go.Proofs.Ytjibbekojbaopaa.wlost
namespace Go.Proofs.Ytjibbekojbaopaa
theorem WebsterLost_holds : Rows.WebsterLostSaid := wlost.over
end Go.Proofs.Ytjibbekojbaopaa
