/- Proved: for every lost time and every fraction, a cycle that is told, times what the sum leaves, is not below half the lost time more and 50, and a cycle of one less is; where none is told it is 0, and the sum is 1 or more or there is an error. -/
import Derived.Test.YtjibbekojbaopaaRows
import Derived.Test.YtjibbekojbaopaaWbS
import Derived.Test.YtjibbekojbaopaaWbL
namespace Go.Proofs.Ytjibbekojbaopaa.wleast
open Go.ChangeShapes Go.WideShapes Go.ChangeAt Go.RowKit
open Go.WideMaps Go.WideElems
attribute [local go_sem ↓] Go.wp_at_zero Go.wp_at_succ
set_option linter.unusedVariables false
set_option linter.unusedSimpArgs false
set_option maxRecDepth 10000
open Wb W
set_option maxHeartbeats 1000000 in
theorem wno1 (lost n d e0 : Int) (b : Bool) (w : World) (he : ¬ e0 = 0) (T1 : Hid (∀ w, Calls Try.prog 8 #[.int .i64 lost, .agg #[.int .i64 n, .int .i64 d]] w fun e w' => e = .returned (.tuple #[.int .i64 0, .bool b, .int .i64 e0]) ∧ Keep w w')) (AW : Hid (∀ w, Calls Try.prog 10 #[] w fun e w' => e = .returned (.bool true) ∧ Keep w w')) : Calls Try.prog 6 #[.int .i64 lost, .agg #[.int .i64 n, .int .i64 d]] w fun e w' => e = .returned (.bool true) ∧ Keep w w' := by
  go_enter Try.func6, Try.ntmps6
  go_wp2_with fail
  (refine ((uq T1) _).mono ?_; rintro e w1 ⟨rfl, hk⟩; obtain ⟨o1, k1, rfl⟩ := hk.ext; clear hk)
  go_wp2_with fail
  (refine ((uq AW) _).mono ?_; rintro e w2 ⟨rfl, hk⟩; obtain ⟨o2, k2, rfl⟩ := hk.ext; clear hk)
  go_wp2_with fail
  go_ret
  exact ⟨rfl, by repeat (first | apply keep_ext | apply Keep.alloc | apply Keep.drew | (refine keep_set _ _ _ (by omega) ?_) | assumption | exact Keep.refl _)⟩
set_option maxHeartbeats 1000000 in
theorem wno2 (lost n d : Int) (w : World) (hd : d ≤ n) (T1 : Hid (∀ w, Calls Try.prog 8 #[.int .i64 lost, .agg #[.int .i64 n, .int .i64 d]] w fun e w' => e = .returned (.tuple #[.int .i64 0, .bool false, .int .i64 0]) ∧ Keep w w')) (AW : Hid (∀ w, Calls Try.prog 10 #[] w fun e w' => e = .returned (.bool true) ∧ Keep w w')) : Calls Try.prog 6 #[.int .i64 lost, .agg #[.int .i64 n, .int .i64 d]] w fun e w' => e = .returned (.bool true) ∧ Keep w w' := by
  go_enter Try.func6, Try.ntmps6
  go_wp2_with fail
  (refine ((uq T1) _).mono ?_; rintro e w1 ⟨rfl, hk⟩; obtain ⟨o1, k1, rfl⟩ := hk.ext; clear hk)
  go_wp2_with fail
  (refine ((uq AW) _).mono ?_; rintro e w2 ⟨rfl, hk⟩; obtain ⟨o2, k2, rfl⟩ := hk.ext; clear hk)
  go_wp2_with fail
  go_ret
  exact ⟨rfl, by repeat (first | apply keep_ext | apply Keep.alloc | apply Keep.drew | (refine keep_set _ _ _ (by omega) ?_) | assumption | exact Keep.refl _)⟩
set_option maxHeartbeats 4000000 in
theorem wyes (lost n d c p1 p2 p3 l1 l2 a1 a2 a3 b1 b2 b3 : Int) (w : World) (h1 : 0 ≤ lost) (h2 : lost ≤ 600000) (h3 : 0 ≤ n) (h4 : n < d) (h5 : d ≤ 9223372036854775807) (hc : 1 ≤ c) (hc2 : c ≤ 9223372036854775807) (T1 : Hid (∀ w, Calls Try.prog 8 #[.int .i64 lost, .agg #[.int .i64 n, .int .i64 d]] w fun e w' => e = .returned (.tuple #[.int .i64 c, .bool true, .int .i64 0]) ∧ Keep w w'))
    (T2 : Hid (∀ w, Calls Try.prog 17 #[.int .i64 (3 * lost + 100), .int .i64 2] w fun e w' => e = .returned (.tuple #[.agg #[.int .i64 p1, .int .i64 p2], .int .i64 p3]) ∧ Keep w w'))
    (T3 : Hid (∀ w, Calls Try.prog 17 #[.int .i64 (d - n), .int .i64 d] w fun e w' => e = .returned (.tuple #[.agg #[.int .i64 l1, .int .i64 l2], .int .i64 0]) ∧ Keep w w'))
    (T4 : Hid (∀ w, Calls Try.prog 18 #[.agg #[.int .i64 l1, .int .i64 l2], .agg #[.int .i64 c, .int .i64 1]] w fun e w' => e = .returned (.tuple #[.agg #[.int .i64 a1, .int .i64 a2], .int .i64 a3]) ∧ Keep w w'))
    (T5 : Hid (∀ w, Calls Try.prog 18 #[.agg #[.int .i64 l1, .int .i64 l2], .agg #[.int .i64 (c - 1), .int .i64 1]] w fun e w' => e = .returned (.tuple #[.agg #[.int .i64 b1, .int .i64 b2], .int .i64 b3]) ∧ Keep w w'))
    (T6 : Hid (a3 = 0 → ∃ v : Int, ¬ v < 0 ∧ ∀ w, Calls Try.prog 19 #[.agg #[.int .i64 a1, .int .i64 a2], .agg #[.int .i64 p1, .int .i64 p2]] w fun e w' => e = .returned (.int .i64 v) ∧ Keep w w'))
    (T7 : Hid (b3 = 0 → ∃ v : Int, ¬ 0 ≤ v ∧ ∀ w, Calls Try.prog 19 #[.agg #[.int .i64 b1, .int .i64 b2], .agg #[.int .i64 p1, .int .i64 p2]] w fun e w' => e = .returned (.int .i64 v) ∧ Keep w w')) (AW : Hid (∀ w, Calls Try.prog 10 #[] w fun e w' => e = .returned (.bool true) ∧ Keep w w')) : Calls Try.prog 6 #[.int .i64 lost, .agg #[.int .i64 n, .int .i64 d]] w fun e w' => e = .returned (.bool true) ∧ Keep w w' := by
  go_enter Try.func6, Try.ntmps6
  go_wp2_with fail
  (refine ((uq T1) _).mono ?_; rintro e w1 ⟨rfl, hk⟩; obtain ⟨o1, k1, rfl⟩ := hk.ext; clear hk)
  go_wp2_with fail
  (refine ((uq T2) _).mono ?_; rintro e w2 ⟨rfl, hk⟩; obtain ⟨o2, k2, rfl⟩ := hk.ext; clear hk)
  go_wp2_with fail
  (refine ((uq T3) _).mono ?_; rintro e w3 ⟨rfl, hk⟩; obtain ⟨o3, k3, rfl⟩ := hk.ext; clear hk)
  go_wp2_with fail
  (refine ((uq T4) _).mono ?_; rintro e w4 ⟨rfl, hk⟩; obtain ⟨o4, k4, rfl⟩ := hk.ext; clear hk)
  go_wp2_with fail
  (refine ((uq T5) _).mono ?_; rintro e w5 ⟨rfl, hk⟩; obtain ⟨o5, k5, rfl⟩ := hk.ext; clear hk)
  by_cases ha : a3 = 0
  · obtain ⟨v1, hv1, C1⟩ := (uq T6) ha
    replace C1 := hide C1
    subst ha
    clear T6
    go_wp2_with fail
    (refine ((uq C1) _).mono ?_; rintro e w6 ⟨rfl, hk⟩; obtain ⟨o6, k6, rfl⟩ := hk.ext; clear hk)
    by_cases hb : b3 = 0
    · obtain ⟨v2, hv2, C2⟩ := (uq T7) hb
      replace C2 := hide C2
      subst hb
      go_wp2_with fail
      (refine ((uq C2) _).mono ?_; rintro e w7 ⟨rfl, hk⟩; obtain ⟨o7, k7, rfl⟩ := hk.ext; clear hk)
      go_wp2_with fail
      (refine ((uq AW) _).mono ?_; rintro e w8 ⟨rfl, hk⟩; obtain ⟨o8, k8, rfl⟩ := hk.ext; clear hk)
      go_wp2_with fail
      go_ret
      exact ⟨rfl, by repeat (first | apply keep_ext | apply Keep.alloc | apply Keep.drew | (refine keep_set _ _ _ (by omega) ?_) | assumption | exact Keep.refl _)⟩
    · clear T7
      go_wp2_with fail
      (refine ((uq AW) _).mono ?_; rintro e w8 ⟨rfl, hk⟩; obtain ⟨o8, k8, rfl⟩ := hk.ext; clear hk)
      go_wp2_with fail
      go_ret
      exact ⟨rfl, by repeat (first | apply keep_ext | apply Keep.alloc | apply Keep.drew | (refine keep_set _ _ _ (by omega) ?_) | assumption | exact Keep.refl _)⟩
  · clear T6
    by_cases hb : b3 = 0
    · obtain ⟨v2, hv2, C2⟩ := (uq T7) hb
      replace C2 := hide C2
      subst hb
      go_wp2_with fail
      (refine ((uq C2) _).mono ?_; rintro e w7 ⟨rfl, hk⟩; obtain ⟨o7, k7, rfl⟩ := hk.ext; clear hk)
      go_wp2_with fail
      (refine ((uq AW) _).mono ?_; rintro e w8 ⟨rfl, hk⟩; obtain ⟨o8, k8, rfl⟩ := hk.ext; clear hk)
      go_wp2_with fail
      go_ret
      exact ⟨rfl, by repeat (first | apply keep_ext | apply Keep.alloc | apply Keep.drew | (refine keep_set _ _ _ (by omega) ?_) | assumption | exact Keep.refl _)⟩
    · clear T7
      go_wp2_with fail
      (refine ((uq AW) _).mono ?_; rintro e w8 ⟨rfl, hk⟩; obtain ⟨o8, k8, rfl⟩ := hk.ext; clear hk)
      go_wp2_with fail
      go_ret
      exact ⟨rfl, by repeat (first | apply keep_ext | apply Keep.alloc | apply Keep.drew | (refine keep_set _ _ _ (by omega) ?_) | assumption | exact Keep.refl _)⟩
theorem cm_lt {x y : Int} : ¬ cm x y < 0 ↔ y ≤ x := by
  have := cm_ge (x := x) (y := y)
  omega
theorem low3 (n d : Int) (h : i64 n) (h' : i64 d) (w : World) (hz : ¬ d = 0) : Calls Try.prog 17 #[.int .i64 n, .int .i64 d] w fun e w' => e = .returned (.tuple #[.agg #[.int .i64 (ofF n d).1, .int .i64 (ofF n d).2.1], .int .i64 (ofF n d).2.2]) ∧ Keep w w' := by
  have := r2of_any n d w h.1 h.2 h'.1 h'.2 hz
  unfold ofF
  rw [if_neg hz]
  exact this
set_option maxHeartbeats 1000000 in
theorem walk (lost : Int) {w : World} {ds : List D} {us : List Value} (hs : ShL fracT ds) (hr : Rvs w ds us) : Calls Try.prog 6 #[.int .i64 lost, .agg us.toArray] w fun e w' => e = .returned (.bool true) ∧ Below w.heap.size w w' := by
  obtain ⟨n, d, rfl, h1, h2, h3, h4⟩ := two hs hr
  have T1 := fun w => cycle_any lost n d w h1 h2 h3 h4
  by_cases h : okY lost n d
  · have h' := h
    obtain ⟨l0, l1, n0, hr⟩ := h'
    have R := rt_Rt hr h1 h2 h4
    by_cases hl : n < d
    · by_cases he : (dvC lost n d).2.2 = 0
      · rw [show cyB lost n d = true by unfold cyB; exact decide_eq_true ⟨h, hl, he⟩, show cyE lost n d = 0 by unfold cyE; rw [if_pos h, if_pos hl, he]] at T1
        obtain ⟨c1, c2, c3, c4⟩ := cyc_least h R hl he
        obtain ⟨w0, wr, wv⟩ := of_two (N := 3 * lost + 100) (by omega) (by omega)
        have lr := left_rt R n0 hl
        have hd : 0 < d := by have := R.1; omega
        have F3 := fun w => low3 (d - n) d ⟨by omega, by omega⟩ ⟨h3, h4⟩ w (by omega)
        rw [of_left R n0 hl] at F3
        have ML : ∀ c, i64 c → ∀ w, Calls Try.prog 18 #[.agg #[.int .i64 (d - n), .int .i64 d], .agg #[.int .i64 c, .int .i64 1]] w fun e w' => e = .returned (.tuple #[.agg #[.int .i64 (mulF (d - n) d c 1).1, .int .i64 (mulF (d - n) d c 1).2.1], .int .i64 (mulF (d - n) d c 1).2.2]) ∧ Keep w w' := fun c hc w => rfmul_any (d - n) d c 1 w (by omega) (by omega) h3 h4 hc.1 hc.2 (by omega) (by omega)
        have CM : ∀ c, i64 c → (mulF (d - n) d c 1).2.2 = 0 → ∀ w, Calls Try.prog 19 #[.agg #[.int .i64 (mulF (d - n) d c 1).1, .int .i64 (mulF (d - n) d c 1).2.1], .agg #[.int .i64 (ofF (3 * lost + 100) 2).1, .int .i64 (ofF (3 * lost + 100) 2).2.1]] w fun e w' => e = .returned (.int .i64 (cm ((mulF (d - n) d c 1).1 * (ofF (3 * lost + 100) 2).2.1) ((ofF (3 * lost + 100) 2).1 * (mulF (d - n) d c 1).2.1))) ∧ Keep w w' := fun c hc he w => by
          obtain ⟨mr, _⟩ := mul_left R n0 hl hc he
          have := rfcmp_any (mulF (d - n) d c 1).1 (mulF (d - n) d c 1).2.1 (ofF (3 * lost + 100) 2).1 (ofF (3 * lost + 100) 2).2.1 w mr.2.2.1 mr.2.2.2.1 (by have := mr.1; omega) mr.2.2.2.2 wr.2.2.1 wr.2.2.2.1 (by have := wr.1; omega) wr.2.2.2.2
          rw [mr.cn, mr.cd, wr.cn, wr.cd] at this
          exact this
        have i1 : i64 (cyC lost n d) := ⟨by omega, c2⟩
        have i2 : i64 (cyC lost n d - 1) := ⟨by omega, by omega⟩
        refine wyes lost n d _ _ _ _ _ _ _ _ _ _ _ _ w l0 l1 n0 hl h4 c1 c2 (hide T1) (hide fun w => low3 (3 * lost + 100) 2 ⟨by omega, by omega⟩ ⟨by omega, by omega⟩ w (by omega)) (hide F3) (hide (ML _ i1)) (hide (ML _ i2)) (hide fun e0 => ⟨_, ?_, CM _ i1 e0⟩) (hide fun e0 => ⟨_, ?_, CM _ i2 e0⟩) (hide awake_any)
        · obtain ⟨mr, mv⟩ := mul_left R n0 hl i1 e0
          rw [cm_lt]
          exact held_ge hd (by have := mr.1; omega) mv c3
        · obtain ⟨mr, mv⟩ := mul_left R n0 hl i2 e0
          rw [cm_ge]
          have := held_lt hd (by have := mr.1; omega) mv c4
          omega
      · rw [show cyC lost n d = 0 by unfold cyC; rw [if_neg (fun c => he c.2.2)], show cyE lost n d = (dvC lost n d).2.2 by unfold cyE; rw [if_pos h, if_pos hl]] at T1
        exact wno1 lost n d _ _ w he (hide T1) (hide awake_any)
    · rw [show cyC lost n d = 0 by unfold cyC; rw [if_neg (fun c => hl c.2.1)], show cyB lost n d = false by unfold cyB; exact decide_eq_false (fun c => hl c.2.1), show cyE lost n d = 0 by unfold cyE; rw [if_pos h, if_neg hl]] at T1
      exact wno2 lost n d w (by omega) (hide T1) (hide awake_any)
  · rw [show cyC lost n d = 0 by unfold cyC; rw [if_neg (fun c => h c.1)], show cyE lost n d = 1 by unfold cyE; rw [if_neg h]] at T1
    exact wno1 lost n d _ _ w (by omega) (hide T1) (hide awake_any)
theorem laidOut : laidOutB Try.prog = true := by kernel_rfl
theorem own : ownKnob Try.prog.godebug = none := by kernel_rfl
set_option maxHeartbeats 400000 in
set_option maxRecDepth 100000 in
theorem lifted (os : Os) (started : os.Started) (H : Type) (enc : TypeId × Value → H) :
    ReturnsInHanded {} Try.checked os 6 .any (Rows.websterLeastSpec.pre6 enc Try.prog Try.f6 Rows.websterLeastRow.domain false) (Rows.websterLeastSpec.post enc Try.prog Try.f6 false true false false) := by
  refine returnsInHanded_of_change (C := Try.checked) own started (by kernel_rfl) Try.func6
    (ChangeSpec.witness6 (enc := enc) (C := Try.checked) false ⟨#[], #[.int .i64 0, .agg #[.int .i64 0, .int .i64 0]], []⟩ 8 (by kernel_rfl) (by kernel_rfl) (by kernel_rfl) (by kernel_rfl)) ?_
  intro W base args ds gs before hval0 hW hcnd _
  have hval : ∀ (j : Nat) t v, Try.f6.params[j]? = some t → args[j]? = some v → Value.okWide Try.prog W .any base t v := hval0
  have hW' := hW
  obtain ⟨p, q, hA0, hV, rfl, hfz, hnd⟩ := hW
  have hA : DataW.TrodAll enc Try.prog W 0 (fun _ => true) true Try.f6.params.toList args.toList ds p := hA0
  rw [Try.params6] at hA hval
  obtain ⟨v0, vs0, d0, ds0, p0, q0, hargs, rfl, rfl, h0, r0⟩ := trodAll_cons hA
  obtain ⟨v1, vs1, d1, ds1, p1, q1, rfl, rfl, rfl, h1, r1⟩ := trodAll_cons r0
  obtain ⟨rfl, rfl, rfl⟩ := trodAll_nil r1
  obtain rfl : args = #[v0, v1] := by cases args; simp_all
  obtain ⟨rfl, rfl⟩ := trodVars_none hV
  obtain ⟨a0, rfl, rfl, rfl, w0⟩ := open_int Try.underlying2 (hval 0 2 v0 rfl rfl) h0
  have k1 := h1
  have lt1 : ∀ x ∈ p1, x.block < W.heap.size := by obtain ⟨m, hm⟩ := k1; exact DataW.trod_lt m _ _ _ hm
  obtain ⟨es1, us1, rfl, s1, x1⟩ := open_struct Try.underlying23 Wb.frac_desc (hval 1 23 v1 rfl rfl) h1
  clear h1
  clear hA0 hval0
  refine (walk a0 s1 x1).mono fun e W' ⟨he, bel⟩ => ?_
  subst he
  exact ⟨_, rfl, _, _, _, [], _, [], hW', trodAll_mk1 (shut_bool Try.underlying4 _), (trodAll_cons_mk (shut_int Try.underlying2 w0) (trodAll_cons_mk (Below.trod laidOut (by kernel_rfl) (of_decide_eq_true (by kernel_rfl)) k1 bel lt1) trodAll_mk0)), rfl, bel.frame _, fun h => by cases h⟩
theorem over : Rows.websterLeastRow.holds Try.pinned (OpenSpec.ofChange Rows.websterLeastSpec) :=
  OpenClaim.holds_of_wide 6 Try.f6 rfl rfl rfl rfl rfl rfl rfl ⟨rfl, rfl, rfl, rfl, rfl⟩ rfl rfl rfl rfl rfl (by kernel_rfl) Try.func6 (by kernel_rfl)
    (of_decide_eq_true (by kernel_rfl)) (by unfold Func.isWrapper; first | (rw [if_pos (by decide +kernel)]; kernel_rfl) | (rw [if_neg (by decide +kernel)]; exact ⟨rfl, rfl⟩))
    (fun os started H enc _ => lifted os started H enc)

end Go.Proofs.Ytjibbekojbaopaa.wleast
namespace Go.Proofs.Ytjibbekojbaopaa
theorem WebsterLeast_holds : Rows.WebsterLeastSaid := wleast.over
end Go.Proofs.Ytjibbekojbaopaa
