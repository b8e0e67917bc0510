/- Proved: for every number (of five at most, or of which there are no orders), the rows that a row may have, free or not, are the document's. -/
import Derived.Test.YteiogijopngohaaRows
import Derived.Test.YteiogijopngohaaOdT
import Derived.Test.YteiogijopngohaaOdS
import Derived.WalkKit
import Derived.ProofKit
import Derived.OpenShut
import Derived.ShutString
import Derived.ChangeOld
import Derived.Below
namespace Go.Proofs.Yteiogijopngohaa.orows
open Go.ChangeShapes Go.WideShapes Go.ChangeAt Go.RowKit
open Go.WideMaps Go.WideElems
attribute [local go_sem ↓] Go.wp_at_zero Go.wp_at_succ
set_option linter.unusedVariables false
set_option linter.unusedSimpArgs false
set_option maxRecDepth 10000
open Od
set_option maxHeartbeats 4000000 in
theorem walk {w : World} (a0 : Bool) (a1 : Int) : Calls Try.prog 5 #[.bool a0, .int .i64 a1] w fun e w' => e = .returned (.bool true) ∧ Below w.heap.size w w' := by
  have K0 := hide (Keep.refl w)
  by_cases hm : 5 < a1 ∧ a1 ≤ 8
  · obtain ⟨h1, h2⟩ := hm
    go_enter Try.func5, Try.ntmps5
    go_wp2_with fail
    go_ret
    exact ⟨rfl, unhide K0⟩
  · have hc : cnt a1 ≤ 1000 := by
      by_cases h : a1 < 0 ∨ 8 < a1
      · rw [cnt_no h]; omega
      · obtain ⟨m, rfl⟩ : ∃ m : Nat, a1 = (m : Int) := ⟨a1.toNat, by omega⟩
        rw [cnt_nat (by omega)]
        have := fc_mono (show m ≤ 5 by omega)
        have h5 : fc 5 = 120 := rfl
        omega
    have TA := hide (fun w => rows_any a0 a1 w hc)
    have TB := hide (fun w => rrows_any a0 a1 (by omega) w)
    have hD : (if a0 then (cnt a1).toNat else min (cnt a1).toNat 1) ≤ 1000 := by split <;> omega
    obtain ⟨D, hD9⟩ : ∃ D, (if a0 then (cnt a1).toNat else min (cnt a1).toNat 1) = D := ⟨_, rfl⟩
    rw [hD9] at TA TB hD
    clear hD9 hc
    have TS := hide (fun (k : Nat) v u w h g => same_selfR v u (nth a1 (k : Int)) w h g (by have := nth_short a1 (k : Int); omega))
    have h6 : a1 ≤ 5 ∨ 8 < a1 := by omega
    have hne : ((D : Int) != (D : Int)) = false := by simp
    clear hm
    rcases h6 with hm | hm
    all_goals (
      first | have hq1 : ¬ 5 < a1 := (by omega) | have hq1 : ¬ a1 ≤ 8 := (by omega)
      first | have hq2 : 5 < a1 := (by omega) | have hq2 : a1 ≤ 5 := (by omega)
      go_enter Try.func5, Try.ntmps5
      go_wp2_with fail
      (refine ((unhide TA) _).mono ?_; rintro e w1 ⟨va, vc, rfl, hk9, hc9, hw9⟩; have K1 := hide hk9; have A1 := hide hw9; clear hk9 hc9 hw9)
      rw [rowsN_len]
      go_wp2_with fail
      (refine ((unhide TB) _).mono ?_; rintro e w2 ⟨vb, vd, rfl, hk9, hc9, hw9⟩; have K2 := hide ((unhide K1).trans hk9); have A2 := hide ((unhide A1).keep hk9); have B2 := hide hw9; clear hk9 hc9 hw9 A1)
      rw [rowsN_len]
      go_wp2_with fail
      go_loopw [7] (fun vi wr => ∃ i : Nat, i ≤ D ∧ vi = .int .i64 (i : Int) ∧ Hid (Keep w2 wr)) (fun vi _ => D - (intOf vi).toNat)
      case atStart => exact ⟨0, Nat.zero_le _, rfl, hide (Keep.refl _)⟩
      case round =>
        obtain ⟨i, hi, rfl, KW⟩ := hrel
        by_cases hlt : i < D
        · have li : (i : Int) < (D : Int) := by omega
          have lz : (0 : Int) ≤ (i : Int) := by omega
          have h8 := (unhide A2) i (by rw [rowsN_len]; exact hlt)
          have h9 := (unhide B2) i (by rw [rowsN_len]; exact hlt)
          rw [rowsN_at hlt] at h8 h9
          obtain ⟨ad, u, rfl, y8, hu⟩ := h8
          obtain ⟨bd, v, rfl, y9, hv⟩ := h9
          have CK : Hid (∀ w', Keep wr w' → w'.cell? (ad.add i) = some u ∧ w'.cell? (bd.add i) = some v) := hide (fun w' hk => ⟨kc hk (kc (unhide KW) y8), kc hk (kc (unhide KW) y9)⟩)
          have HU := hide ((hu.keep (unhide KW)).keep ((Keep.refl wr).drew)).is
          have HV := hide ((hv.keep (unhide KW)).keep ((Keep.refl wr).drew)).is
          obtain ⟨ua, uc, hus⟩ := hu.sl
          obtain ⟨ub, ud, hvs⟩ := hv.sl
          subst hus hvs
          clear y8 y9 hu hv
          obtain ⟨ln, hln⟩ : ∃ l, (nth a1 (i : Int)).length = l := ⟨_, rfl⟩
          have TSi := hide (fun w h g => (unhide TS) i (.slice ua (nth a1 (i : Int)).length uc) (.slice ub (nth a1 (i : Int)).length ud) w h g)
          rw [hln] at TSi CK HU HV
          clear hln
          go_upto_region 10 with fail
          refine wp_region_held_drew (S := (fun w' => w'.cell? (ad.add i) = some (.slice ua ln uc) ∧ w'.cell? (bd.add i) = some (.slice ub ln ud))) (by kernel_rfl) (by exact unhide CK _ ((Keep.refl _).drew)) (fun hHeld => ?_)
          refine wpAnyH_take (i := 0) (v := ?_) rfl (by kernel_rfl) (by kernel_rfl) (by kernel_rfl) (fun _ _ _ h => h) (Or.inl ⟨by rfl, ?_⟩) hHeld ?_
          rotate_left
          · intro w hSw
            try dsimp only at hSw
            go_simp
            try with_reducible rfl
          show wpAnyH _ _ _ _ _ _ _ (Act.put _ (some 31) _) _
          try simp only [Act.put, List.setIfInBounds_toArray, List.set_cons_zero, List.set_cons_succ]
          refine wpAnyH_take (i := 1) (v := ?_) rfl (by kernel_rfl) (by kernel_rfl) (by kernel_rfl) (fun _ _ _ h => h) (Or.inl ⟨by rfl, ?_⟩) hHeld ?_
          rotate_left
          · intro w hSw
            try dsimp only at hSw
            go_simp
            try with_reducible rfl
          show wpAnyH _ _ _ _ _ _ _ (Act.put _ (some 32) _) _
          try simp only [Act.put, List.setIfInBounds_toArray, List.set_cons_zero, List.set_cons_succ]
          refine wpAnyH_take (i := 2) (v := ?_) rfl (by kernel_rfl) (by kernel_rfl) (by kernel_rfl) (fun _ _ _ h => h) (Or.inl ⟨by rfl, ?_⟩) hHeld ?_
          rotate_left
          · intro w hSw
            try dsimp only at hSw
            go_simp
            try with_reducible rfl
          show wpAnyH _ _ _ _ _ _ _ (Act.put _ (some 33) _) _
          try simp only [Act.put, List.setIfInBounds_toArray, List.set_cons_zero, List.set_cons_succ]
          refine wpAnyH_take (i := 3) (v := ?_) rfl (by kernel_rfl) (by kernel_rfl) (by kernel_rfl) (fun _ _ _ h => h) (Or.inl ⟨by rfl, ?_⟩) hHeld ?_
          rotate_left
          · intro w hSw
            try dsimp only at hSw
            go_simp
            try with_reducible rfl
          show wpAnyH _ _ _ _ _ _ _ (Act.put _ (some 34) _) _
          try simp only [Act.put, List.setIfInBounds_toArray, List.set_cons_zero, List.set_cons_succ]
          refine wpAnyH_take (i := 4) (v := ?_) rfl (by kernel_rfl) (by kernel_rfl) (by kernel_rfl) (fun _ _ _ h => h) (Or.inl ⟨by rfl, ?_⟩) hHeld ?_
          rotate_left
          · intro w hSw
            try dsimp only at hSw
            go_simp
            try with_reducible rfl
          show wpAnyH _ _ _ _ _ _ _ (Act.put _ (some 35) _) _
          try simp only [Act.put, List.setIfInBounds_toArray, List.set_cons_zero, List.set_cons_succ]
          refine wpAnyH_take (i := 5) (v := ?_) rfl (by kernel_rfl) (by kernel_rfl) (by kernel_rfl) (fun _ _ _ h => h) (Or.inl ⟨by rfl, ?_⟩) hHeld ?_
          rotate_left
          · intro w hSw
            try dsimp only at hSw
            go_simp
            try with_reducible rfl
          show wpAnyH _ _ _ _ _ _ _ (Act.put _ (some 36) _) _
          try simp only [Act.put, List.setIfInBounds_toArray, List.set_cons_zero, List.set_cons_succ]
          refine wpAnyH_take (i := 6) (v := ?_) rfl (by kernel_rfl) (by kernel_rfl) (by kernel_rfl) (fun _ _ _ h => h) (Or.inl ⟨by rfl, ?_⟩) hHeld ?_
          rotate_left
          · intro w hSw
            try dsimp only at hSw
            go_simp
            try with_reducible rfl
          show wpAnyH _ _ _ _ _ _ _ (Act.put _ (some 37) _) _
          try simp only [Act.put, List.setIfInBounds_toArray, List.set_cons_zero, List.set_cons_succ]
          refine wpAnyH_take (i := 7) (v := ?_) rfl (by kernel_rfl) (by kernel_rfl) (by kernel_rfl) (fun _ _ _ h => h) (Or.inl ⟨by rfl, ?_⟩) hHeld ?_
          rotate_left
          · intro w hSw
            try dsimp only at hSw
            go_simp
            try with_reducible rfl
          show wpAnyH _ _ _ _ _ _ _ (Act.put _ (some 38) _) _
          try simp only [Act.put, List.setIfInBounds_toArray, List.set_cons_zero, List.set_cons_succ]
          refine wpAnyH_ready (rs := [8]) (by kernel_rfl) (by simp) ?_
          refine AllReadyH.cons rfl (fun K hK => ?_) AllReadyH.nil
          go_simp
          clear hHeld
          (refine ((unhide TSi) _ (unhide HU) (unhide HV)).mono ?_; rintro e w5 ⟨rfl, hk9⟩)
          try go_wp2_with fail
          refine hK.out _ _ ?_ (fun hHeld => ?_)
          · exact unhide CK _ (((Keep.refl _).drew).trans hk9)
          clear hK K
          try simp only [Act.put, List.setIfInBounds_toArray, List.set_cons_zero, List.set_cons_succ]
          refine wpAnyH_take (i := 9) (v := ?_) rfl (by kernel_rfl) (by kernel_rfl) (by kernel_rfl) (fun _ _ _ h => h) (Or.inl ⟨by rfl, ?_⟩) hHeld ?_
          rotate_left
          · intro w hSw
            try dsimp only at hSw
            go_simp
            try with_reducible rfl
          show wpAnyH _ _ _ _ _ _ _ (Act.put _ (some 40) _) _
          try simp only [Act.put, List.setIfInBounds_toArray, List.set_cons_zero, List.set_cons_succ]
          refine wpAnyH_done (by kernel_rfl) ?_ _
          clear hHeld
          have K5 := hide (((unhide KW).drew).trans hk9)
          clear hk9
          go_wp2_with fail
          go_roundw
          case rel => exact ⟨i + 1, hlt, by go_num, K5⟩
          case measure => simp [intOf]; omega
        · have li : ¬ (i : Int) < (D : Int) := by omega
          obtain rfl : i = D := by omega
          go_wp2_with fail
          (refine (awake_any _).mono ?_; rintro e w9 ⟨rfl, hk9⟩; have K9 := hide (((unhide K2).trans (unhide KW)).trans hk9); clear hk9)
          go_wp2_with fail
          go_ret
          exact ⟨rfl, unhide K9⟩)
theorem laidOut : laidOutB Try.prog = true := by kernel_rfl
theorem own : ownKnob Try.prog.godebug = none := by kernel_rfl
set_option maxHeartbeats 400000 in
set_option maxRecDepth 100000 in
theorem lifted (os : Os) (started : os.Started) (H : Type) (enc : TypeId × Value → H) :
    ReturnsInHanded {} Try.checked os 5 .any (Rows.orderRowsSpec.pre6 enc Try.prog Try.f5 Rows.orderRowsRow.domain false) (Rows.orderRowsSpec.post enc Try.prog Try.f5 false true false false) := by
  refine returnsInHanded_of_change (C := Try.checked) own started (by kernel_rfl) Try.func5
    (ChangeSpec.witness6 (enc := enc) (C := Try.checked) false ⟨#[], #[.bool false, .int .i64 0], []⟩ 8 (by kernel_rfl) (by kernel_rfl) (by kernel_rfl) (by kernel_rfl)) ?_
  intro W base args ds gs before hval0 hW hcnd _
  have hval : ∀ (j : Nat) t v, Try.f5.params[j]? = some t → args[j]? = some v → Value.okWide Try.prog W .any base t v := hval0
  have hW' := hW
  obtain ⟨p, q, hA0, hV, rfl, hfz, hnd⟩ := hW
  have hA : DataW.TrodAll enc Try.prog W 0 (fun _ => true) true Try.f5.params.toList args.toList ds p := hA0
  rw [Try.params5] at hA hval
  obtain ⟨v0, vs0, d0, ds0, p0, q0, hargs, rfl, rfl, h0, r0⟩ := trodAll_cons hA
  obtain ⟨v1, vs1, d1, ds1, p1, q1, rfl, rfl, rfl, h1, r1⟩ := trodAll_cons r0
  obtain ⟨rfl, rfl, rfl⟩ := trodAll_nil r1
  obtain rfl : args = #[v0, v1] := by cases args; simp_all
  obtain ⟨rfl, rfl⟩ := trodVars_none hV
  obtain ⟨a0, rfl, rfl, rfl⟩ := open_bool Try.underlying4 (hval 0 4 v0 rfl rfl) h0
  obtain ⟨a1, rfl, rfl, rfl, w1⟩ := open_int Try.underlying3 (hval 1 3 v1 rfl rfl) h1
  clear hA0 hval0
  refine (walk a0 a1).mono fun e W' ⟨he, bel⟩ => ?_
  subst he
  exact ⟨_, rfl, _, _, _, [], _, [], hW', trodAll_mk1 (shut_bool Try.underlying4 _), (trodAll_cons_mk (shut_bool Try.underlying4 a0) (trodAll_cons_mk (shut_int Try.underlying3 w1) trodAll_mk0)), rfl, bel.frame _, fun h => by cases h⟩
theorem over : Rows.orderRowsRow.holds Try.pinned (OpenSpec.ofChange Rows.orderRowsSpec) :=
  OpenClaim.holds_of_wide 5 Try.f5 rfl rfl rfl rfl rfl rfl rfl ⟨rfl, rfl, rfl, rfl, rfl⟩ rfl rfl rfl rfl rfl (by kernel_rfl) Try.func5 (by kernel_rfl)
    (of_decide_eq_true (by kernel_rfl)) (by unfold Func.isWrapper; first | (rw [if_pos (by decide +kernel)]; kernel_rfl) | (rw [if_neg (by decide +kernel)]; exact ⟨rfl, rfl⟩))
    (fun os started H enc _ => lifted os started H enc)

end Go.Proofs.Yteiogijopngohaa.orows
namespace Go.Proofs.Yteiogijopngohaa
theorem OrderRows_holds : Rows.OrderRowsSaid := orows.over
end Go.Proofs.Yteiogijopngohaa
