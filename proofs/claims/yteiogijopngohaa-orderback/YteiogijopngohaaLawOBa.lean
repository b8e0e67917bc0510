/- Proved: for every two numbers, the order at a place has that place, the next one's place is one more, and where numbers stand, told twice, is the order itself; where there is no order there, none is told. -/
import Derived.Test.YteiogijopngohaaRows
import Derived.Test.YteiogijopngohaaOdW
import Derived.Test.YteiogijopngohaaOdP
import Derived.WalkKit
import Derived.ProofKit
import Derived.OpenShut
import Derived.ShutString
import Derived.ChangeOld
import Derived.Below
namespace Go.Proofs.Yteiogijopngohaa.oback
open Go.ChangeShapes Go.WideShapes Go.ChangeAt Go.RowKit
attribute [local go_sem ↓] Go.wp_at_zero Go.wp_at_succ
set_option linter.unusedVariables false
set_option linter.unusedSimpArgs false
set_option maxRecDepth 10000
open Od
theorem same_self (v u : Value) (L : List Int) (w : World) (h : Is w v L) (g : Is w u L) (hn : L.length ≤ 1000000) : Calls Try.prog 11 #[v, u] w fun e w' => e = .returned (.bool true) ∧ Keep w w' := by
  have := same_any v u L L w h g hn hn
  rw [decide_eq_true (rfl : L = L)] at this
  exact this
theorem own : ownKnob Try.prog.godebug = none := by kernel_rfl
theorem Iw.len {w : World} {u : Value} {L : List Int} (h : Iw w u L) : ∃ a c, u = .slice a L.length c := by
  rcases h with ⟨rfl, rfl⟩ | ⟨g, c, arr, rfl, _⟩
  · exact ⟨none, 0, rfl⟩
  · exact ⟨_, c, rfl⟩
set_option maxHeartbeats 2000000 in
theorem walk (a0 : Int) (a1 : Int) (w0 : (Lit.int .i64 a0).wf = true) (w1 : (Lit.int .i64 a1).wf = true) (w : World) :
    Calls Try.prog 6 #[.int .i64 a0, .int .i64 a1] w fun e w' => e = .returned (.bool true) ∧ Below w.heap.size w w' := by
  have TN := hide (fun w => nth_any a0 a1 w)
  by_cases hk : 0 ≤ a1 ∧ a1 < cnt a0
  · obtain ⟨m, i, rfl, rfl, h8, hi⟩ := isO_nat hk
    obtain ⟨ho, hr, hl⟩ := nth_rank h8 hi
    have TC := hide (fun w => count_any (m : Int) w)
    rw [cnt_nat h8] at TC
    have hf := fc_le h8
    have HT : Hid (tnL (nth m i) = tl (nth m i) ∧ tnL (tl (nth m i)) = nth m i) := hide ⟨by unfold tnL; rw [ho]; rfl, by unfold tnL; rw [tl_isO ho]; exact tl_tl ho⟩
    have HL : Hid ((tl (nth m i)).length = m) := hide (by rw [tl_len, hl])
    have HB : Hid (nxB (nth m i) = decide ((i : Int) < (fc m : Int) - 1)) := hide (by
      unfold nxB; rw [ho, hr, hl, cnt_nat h8, Bool.true_and]
      exact decide_eq_decide.2 (by omega))
    have HN : Hid (i + 1 < fc m → rank (nxL (nth m i)) = (i : Int) + 1 ∧ (nxL (nth m i)).length = m) := hide (fun h => by
      have hb : nxB (nth m i) = true := by unfold nxB; rw [ho, hr, hl, cnt_nat h8, Bool.true_and]; exact decide_eq_true (by omega)
      unfold nxL
      rw [if_pos hb, hr, hl]
      have := nth_rank h8 h
      rw [show (((i + 1 : Nat)) : Int) = (i : Int) + 1 by omega] at this
      exact ⟨this.2.1, this.2.2⟩)
    have hb0 : ¬ (i : Int) < 0 := by omega
    have hb1 : ¬ (fc m : Int) ≤ (i : Int) := by omega
    have HO := hide ho
    have HR := hide hr
    have hlen := hl
    have HLE := hide hl
    generalize nth m i = L at TN HT HL HB HN HO HR HLE hlen
    clear hk ho hr hl
    obtain ⟨F, hF⟩ : ∃ F, fc m = F := ⟨_, rfl⟩
    rw [hF] at TC HB HN hf hb1 hi
    clear hF
    go_enter Try.func6, Try.ntmps6
    go_wp2_with fail
    (refine ((unhide TN) _).mono ?_; rintro e w1 ⟨v1, rfl, hk9, hi9⟩; have K1 := hide hk9; have I1 := hide hi9; clear TN)
    obtain ⟨a, c, hv⟩ := Iw.len hi9
    subst hv
    clear hk9 hi9
    rw [hlen] at I1 ⊢
    have TR := hide (fun w (h : Is w (.slice a m c) L) => right_any _ L w h (by omega))
    have TK := hide (fun w (h : Is w (.slice a m c) L) => rank_any _ L w h (by omega))
    have TX := hide (fun w (h : Is w (.slice a m c) L) => next_any _ L w h (by omega))
    have TT := hide (fun w (h : Is w (.slice a m c) L) => turned_any _ L w h (by omega))
    have TS := hide (fun u w (h : Is w u L) (g : Is w (.slice a m c) L) => same_self u _ L w h g (by omega))
    rw [(unhide HO)] at TR
    rw [(unhide HR)] at TK
    clear hlen
    go_wp2_with fail
    (refine ((unhide TC) _).mono ?_; rintro e w2 ⟨rfl, hk9⟩; have K2 := hide ((unhide K1).trans hk9); have I2 := hide ((unhide I1).keep hk9); clear hk9 I1 K1)
    go_wp2_with fail
    (refine ((unhide TR) _ (unhide I2).is).mono ?_; rintro e w3 ⟨rfl, hk9⟩; have K3 := hide ((unhide K2).trans hk9); have I3 := hide ((unhide I2).keep hk9); clear hk9 I2 K2 TR)
    go_wp2_with fail
    (refine ((unhide TK) _ (unhide I3).is).mono ?_; rintro e w4 ⟨rfl, hk9⟩; have K4 := hide ((unhide K3).trans hk9); have I4 := hide ((unhide I3).keep hk9); clear hk9 I3 K3)
    go_wp2_with fail
    (refine ((unhide TX) _ (unhide I4).is).mono ?_; rintro e w5 ⟨v5, rfl, hk9, hi9⟩; have K5 := hide ((unhide K4).trans hk9); have I5 := hide ((unhide I4).keep hk9); have J5 := hide hi9; clear hk9 hi9 I4 K4)
    rw [(unhide HB)]
    have TZ := hide (fun w (h : i + 1 < F) (g : Is w v5 (nxL L)) => rank_any _ _ w g (by have := (unhide HN h).2; omega))
    have TU := hide (fun u w (h : Is w u (tl L)) => turned_any _ _ w h (by rw [unhide HL]; omega))
    by_cases h : i + 1 < F
    · have hd : decide ((i : Int) < (F : Int) - 1) = true := decide_eq_true (by omega)
      have hd2 : (i : Int) < (F : Int) - 1 := by omega
      rw [hd]
      go_wp2_with fail
      (refine ((unhide TC) _).mono ?_; rintro e w6 ⟨rfl, hk9⟩; have K6 := hide ((unhide K5).trans hk9); have I6 := hide ((unhide I5).keep hk9); have J6 := hide ((unhide J5).keep hk9); clear hk9 I5 K5 J5)
      go_wp2_with fail
      (refine ((unhide TZ) _ h (unhide J6).is).mono ?_; rintro e w7 ⟨rfl, hk9⟩; have K7 := hide ((unhide K6).trans hk9); have I7 := hide ((unhide I6).keep hk9); clear hk9 I6 K6)
      rw [(unhide HN h).1]
      go_wp2_with fail
      (refine ((unhide TT) _ (unhide I7).is).mono ?_; rintro e w8 ⟨v8, rfl, hk9, hi9⟩; have K8 := hide ((unhide K7).trans hk9); have I8 := hide ((unhide I7).keep hk9); rw [(unhide HT).1] at hi9; have J8 := hide hi9; clear hk9 hi9 I7 K7)
      go_wp2_with fail
      (refine ((unhide TU) _ _ (unhide J8).is).mono ?_; rintro e w9 ⟨v9, rfl, hk9, hi9⟩; have K9 := hide ((unhide K8).trans hk9); have I9 := hide ((unhide I8).keep hk9); rw [(unhide HT).2] at hi9; have J9 := hide hi9; clear hk9 hi9 I8 K8)
      go_wp2_with fail
      (refine ((unhide TS) _ _ (unhide J9).is (unhide I9).is).mono ?_; rintro e w10 ⟨rfl, hk9⟩; have K10 := hide ((unhide K9).trans hk9); clear hk9 I9 K9)
      go_wp2_with fail
      (refine (awake_any _).mono ?_; rintro e w11 ⟨rfl, hk9⟩; have K11 := hide ((unhide K10).trans hk9); clear hk9 K10)
      go_wp2_with fail
      go_ret
      exact ⟨rfl, unhide K11⟩
    · have hd : decide ((i : Int) < (F : Int) - 1) = false := decide_eq_false (by omega)
      have hd2 : ¬ (i : Int) < (F : Int) - 1 := by omega
      rw [hd]
      go_wp2_with fail
      (refine ((unhide TC) _).mono ?_; rintro e w6 ⟨rfl, hk9⟩; have K6 := hide ((unhide K5).trans hk9); have I6 := hide ((unhide I5).keep hk9); clear hk9 I5 K5 J5)
      go_wp2_with fail
      (refine ((unhide TT) _ (unhide I6).is).mono ?_; rintro e w8 ⟨v8, rfl, hk9, hi9⟩; have K8 := hide ((unhide K6).trans hk9); have I8 := hide ((unhide I6).keep hk9); rw [(unhide HT).1] at hi9; have J8 := hide hi9; clear hk9 hi9 I6 K6)
      go_wp2_with fail
      (refine ((unhide TU) _ _ (unhide J8).is).mono ?_; rintro e w9 ⟨v9, rfl, hk9, hi9⟩; have K9 := hide ((unhide K8).trans hk9); have I9 := hide ((unhide I8).keep hk9); rw [(unhide HT).2] at hi9; have J9 := hide hi9; clear hk9 hi9 I8 K8)
      go_wp2_with fail
      (refine ((unhide TS) _ _ (unhide J9).is (unhide I9).is).mono ?_; rintro e w10 ⟨rfl, hk9⟩; have K10 := hide ((unhide K9).trans hk9); clear hk9 I9 K9)
      go_wp2_with fail
      (refine (awake_any _).mono ?_; rintro e w11 ⟨rfl, hk9⟩; have K11 := hide ((unhide K10).trans hk9); clear hk9 K10)
      go_wp2_with fail
      go_ret
      exact ⟨rfl, unhide K11⟩
  · rw [nth_no hk] at TN
    by_cases h0 : a1 < 0
    · go_enter Try.func6, Try.ntmps6
      go_wp2_with fail
      (refine ((unhide TN) _).mono ?_; rintro e w1 ⟨v1, rfl, hk9, hi9⟩; have K1 := hide hk9; clear TN)
      obtain ⟨a, c, hv⟩ := Iw.len hi9
      subst hv
      clear hk9 hi9
      go_wp2_with fail
      (refine (awake_any _).mono ?_; rintro e w11 ⟨rfl, hk9⟩; have K11 := hide ((unhide K1).trans hk9); clear hk9 K1)
      go_wp2_with fail
      go_ret
      exact ⟨rfl, unhide K11⟩
    · have h1 : cnt a0 ≤ a1 := by omega
      have TC := hide (fun w => count_any a0 w)
      generalize cnt a0 = C at TC h1
      clear hk
      go_enter Try.func6, Try.ntmps6
      go_wp2_with fail
      (refine ((unhide TN) _).mono ?_; rintro e w1 ⟨v1, rfl, hk9, hi9⟩; have K1 := hide hk9; clear TN)
      obtain ⟨a, c, hv⟩ := Iw.len hi9
      subst hv
      clear hk9 hi9
      go_wp2_with fail
      (refine ((unhide TC) _).mono ?_; rintro e w2 ⟨rfl, hk9⟩; have K2 := hide ((unhide K1).trans hk9); clear hk9 K1)
      go_wp2_with fail
      (refine (awake_any _).mono ?_; rintro e w11 ⟨rfl, hk9⟩; have K11 := hide ((unhide K2).trans hk9); clear hk9 K2)
      go_wp2_with fail
      go_ret
      exact ⟨rfl, unhide K11⟩
set_option maxRecDepth 100000 in
theorem lifted (os : Os) (started : os.Started) (H : Type) (enc : TypeId × Value → H) :
    ReturnsInHanded {} Try.checked os 6 .any (Rows.orderBackSpec.pre6 enc Try.prog Try.f6 Rows.orderBackRow.domain false) (Rows.orderBackSpec.post enc Try.prog Try.f6 false true false false) := by
  refine returnsInHanded_of_change (C := Try.checked) own started (by kernel_rfl) Try.func6
    (ChangeSpec.witness6 (enc := enc) (C := Try.checked) false ⟨#[], #[.int .i64 0, .int .i64 0], []⟩ 8 (by kernel_rfl) (by kernel_rfl) (by kernel_rfl) (by kernel_rfl)) ?_
  intro W base args ds gs before hval0 hW hcnd _
  have hval : ∀ (j : Nat) t v, Try.f6.params[j]? = some t → args[j]? = some v → Value.okWide Try.prog W .any base t v := hval0
  have hW' := hW
  obtain ⟨p, q, hA0, hV, rfl, hfz, hnd⟩ := hW
  have hA : DataW.TrodAll enc Try.prog W 0 (fun _ => true) true Try.f6.params.toList args.toList ds p := hA0
  rw [Try.params6] at hA hval
  obtain ⟨v0, vs0, d0, ds0, p0, q0, hargs, rfl, rfl, h0, r0⟩ := trodAll_cons hA
  obtain ⟨v1, vs1, d1, ds1, p1, q1, rfl, rfl, rfl, h1, r1⟩ := trodAll_cons r0
  obtain ⟨rfl, rfl, rfl⟩ := trodAll_nil r1
  obtain rfl : args = #[v0, v1] := by cases args; simp_all
  obtain ⟨rfl, rfl⟩ := trodVars_none hV
  obtain ⟨a0, rfl, rfl, rfl, w0⟩ := open_int Try.underlying3 (hval 0 3 v0 rfl rfl) h0
  obtain ⟨a1, rfl, rfl, rfl, w1⟩ := open_int Try.underlying3 (hval 1 3 v1 rfl rfl) h1
  clear hA0 hval0
  refine (walk a0 a1 w0 w1 W).mono fun e W' ⟨he, bel⟩ => ?_
  subst he
  exact ⟨_, rfl, _, _, _, [], _, [], hW', trodAll_mk1 (shut_bool Try.underlying4 _), (trodAll_cons_mk (shut_int Try.underlying3 w0) (trodAll_cons_mk (shut_int Try.underlying3 w1) trodAll_mk0)), rfl, bel.frame _, fun h => by cases h⟩

theorem over : Rows.orderBackRow.holds Try.pinned (OpenSpec.ofChange Rows.orderBackSpec) :=
  OpenClaim.holds_of_wide 6 Try.f6 rfl rfl rfl rfl rfl rfl rfl ⟨rfl, rfl, rfl, rfl, rfl⟩ rfl rfl rfl rfl rfl (by kernel_rfl) Try.func6 (by kernel_rfl)
    (of_decide_eq_true (by kernel_rfl)) (by unfold Func.isWrapper; first | (rw [if_pos (by decide +kernel)]; kernel_rfl) | (rw [if_neg (by decide +kernel)]; exact ⟨rfl, rfl⟩))
    (fun os started H enc _ => lifted os started H enc)

end Go.Proofs.Yteiogijopngohaa.oback
namespace Go.Proofs.Yteiogijopngohaa
theorem OrderBack_holds : Rows.OrderBackSaid := oback.over
end Go.Proofs.Yteiogijopngohaa
