/- Proved: for every job (of few rows, times and pairs), whether it may be and how many steps it takes at most are the document's. -/
import Derived.Test.YtakandlehneciaaRows
import Derived.Test.YtakandlehneciaaGqB
import Derived.Test.YtakandlehneciaaGpA
import Derived.WalkKit
import Derived.ProofKit
import Derived.OpenShut
import Derived.ShutString
import Derived.ChangeOld
import Derived.Below
namespace Go.Proofs.Ytakandlehneciaa.gright
open Go.ChangeShapes Go.WideShapes Go.ChangeAt Go.RowKit
open Go.WideMaps Go.WideElems
attribute [local go_sem ↓] Go.wp_at_zero Go.wp_at_succ
set_option linter.unusedVariables false
set_option linter.unusedSimpArgs false
set_option maxRecDepth 10000
open Pa Gp
theorem hi_more {P : Nat → Prop} {k : Nat} (h : ∀ j, j < k → P j) (hk : P k) : ∀ j, j < k + 1 → P j := fun j hj => by
  by_cases e : j = k
  · subst e; exact hk
  · exact h j (by omega)
set_option maxHeartbeats 4000000 in
theorem walk {w : World} {ds : List Gp.D} {us : List Value} (hs : ShL jobT ds) (hr : Rvs w ds us) : Calls Try.prog 4 #[.agg us.toArray] w fun e w' => e = .returned (.bool true) ∧ Below w.heap.size w w' := by
  obtain ⟨vr, vf, va, RR, FR, AP, rfl, hJ, -, -, -, -⟩ := job_of hs hr
  clear hs hr
  show Calls Try.prog _ #[.agg #[vr, vf, va]] w _
  have HJ := hide hJ
  obtain ⟨hR, hF, hA⟩ := hJ.at
  have J0 : Jc w.heap.size vr vf va (w.alloc (.cells #[vr, vf, va] 26)) := ⟨box_c w [vr, vf, va] _ 0 _ rfl, box_c w [vr, vf, va] _ 1 _ rfl, box_c w [vr, vf, va] _ 2 _ rfl⟩
  have K0 := (Keep.refl w).alloc (.cells #[vr, vf, va] 26)
  have CK := hide (fun (w' : World) (hk : Keep (w.alloc (.cells #[vr, vf, va] 26)) w') => J0.keep hk)
  have EK := hide (fun (w' : World) (hk : Keep (w.alloc (.cells #[vr, vf, va] 26)) w') => K0.trans hk)
  obtain ⟨ar, cr, rfl, -, hR⟩ := hR
  obtain ⟨af, cf, rfl, -⟩ := hF
  obtain ⟨aa, ca, rfl, -, -⟩ := hA
  have HR := hide hR
  have TX : Hid (RR.length ≤ 20 → AP.length ≤ 40 → (∀ j, j < RR.length → (RR.getD j []).length ≤ 20) → ∀ w', Keep w w' → (Calls Try.prog 14 #[.agg #[.slice ar RR.length cr, .slice af FR.length cf, .slice aa AP.length ca]] w' fun e w2 => e = .returned (.bool (jobR RR FR AP)) ∧ Keep w' w2) ∧ (Calls Try.prog 15 #[.agg #[.slice ar RR.length cr, .slice af FR.length cf, .slice aa AP.length ca]] w' fun e w2 => e = .returned (.bool (jobR RR FR AP)) ∧ Keep w' w2) ∧ (Calls Try.prog 10 #[.agg #[.slice ar RR.length cr, .slice af FR.length cf, .slice aa AP.length ca]] w' fun e w2 => e = .returned (.int .i64 (mostN RR FR AP)) ∧ Keep w' w2) ∧ (Calls Try.prog 16 #[.agg #[.slice ar RR.length cr, .slice af FR.length cf, .slice aa AP.length ca]] w' fun e w2 => e = .returned (.int .i64 (mostN RR FR AP)) ∧ Keep w' w2)) := hide (fun h1 h3 h2 w' hk => by
    have h2' : ∀ L ∈ RR, L.length ≤ 1000 := fun L hL => by
      obtain ⟨j, hj, rfl⟩ := List.getElem_of_mem hL
      have := h2 j hj
      rw [List.getD_eq_getElem?_getD, List.getElem?_eq_getElem hj] at this
      exact Nat.le_trans this (by omega)
    exact ⟨jright_any _ RR FR AP w' ((unhide HJ).keep hk) (by omega) h2' (by omega), rright15_any _ RR FR AP w' ((unhide HJ).keep hk) (by omega) h2' (by omega), most_any _ RR FR AP w' ((unhide HJ).keep hk) (by omega) h2' (by omega), rmost15_any _ RR FR AP w' ((unhide HJ).keep hk) (by omega) h2' (by omega)⟩)
  obtain ⟨c0, c1, c2⟩ := unhide CK _ (Keep.refl _)
  clear J0 K0 HJ hR hJ
  generalize RR.length = m at *
  generalize FR.length = fl at *
  generalize AP.length = al at *
  by_cases h1 : 20 < m
  · have d1 : decide ((20 : Int) < (m : Int)) = true := decide_eq_true (by omega)
    have e1 : (20 : Int) < (m : Int) := by omega
    clear TX HR
    go_enter Try.func4, Try.ntmps4
    go_wp2_with fail
    go_ret
    exact ⟨rfl, unhide EK _ (Keep.refl _)⟩
  have d1 : decide ((20 : Int) < (m : Int)) = false := decide_eq_false (by omega)
  by_cases h2 : 20 < fl
  · have d2 : decide ((20 : Int) < (fl : Int)) = true := decide_eq_true (by omega)
    clear TX HR
    go_enter Try.func4, Try.ntmps4
    go_wp2_with fail
    go_ret
    exact ⟨rfl, unhide EK _ (Keep.refl _)⟩
  have d2 : decide ((20 : Int) < (fl : Int)) = false := decide_eq_false (by omega)
  by_cases h3 : 40 < al
  · have d3 : decide ((40 : Int) < (al : Int)) = true := decide_eq_true (by omega)
    clear TX HR
    go_enter Try.func4, Try.ntmps4
    go_wp2_with fail
    go_ret
    exact ⟨rfl, unhide EK _ (Keep.refl _)⟩
  have d3 : decide ((40 : Int) < (al : Int)) = false := decide_eq_false (by omega)
  have TX2 := hide (unhide TX (by omega) (by omega))
  have hm : m ≤ 20 := by omega
  clear TX h1 h2 h3
  have hb1 : ((jobR RR FR AP) == (jobR RR FR AP)) = true := by simp
  have hb2 : ((mostN RR FR AP) == (mostN RR FR AP)) = true := by simp
  generalize jobR RR FR AP = B at *
  generalize mostN RR FR AP = X at *
  have KW1 : Hid (Keep (w.alloc (.cells #[.slice ar m cr, .slice af fl cf, .slice aa al ca] 26)) (w.alloc (.cells #[.slice ar m cr, .slice af fl cf, .slice aa al ca] 26))) := hide (Keep.refl _)
  go_enter Try.func4, Try.ntmps4
  go_wp2_with fail
  generalize w.alloc (.cells #[.slice ar m cr, .slice af fl cf, .slice aa al ca] 26) = w1 at CK EK KW1 c0 c1 c2 ⊢
  generalize w.heap.size = b at CK c0 c1 c2 ⊢
  clear d1 d2 d3
  go_loopw [3] (fun vi wr => ∃ i : Nat, i ≤ m ∧ vi = .int .i64 (i : Int) ∧ Hid (Keep w1 wr) ∧ Hid (∀ j, j < i → (RR.getD j []).length ≤ 20)) (fun vi _ => m - (intOf vi).toNat)
  case atStart => exact ⟨0, Nat.zero_le _, rfl, KW1, hide (fun j h => absurd h (Nat.not_lt_zero _))⟩
  case round =>
    clear KW1 c0 c1 c2
    obtain ⟨i, hi, rfl, KW, NR⟩ := hrel
    obtain ⟨c0, c1, c2⟩ := unhide CK _ (unhide KW)
    by_cases hlt : i < m
    · have li : (i : Int) < (m : Int) := by omega
      obtain ⟨ad, u, rfl, y0, hu⟩ := (unhide HR) i hlt
      obtain ⟨ua, uc, rfl, -⟩ := hu
      have y0 := kc ((unhide EK) _ (unhide KW)) y0
      have HM := hide (fun h => hi_more (unhide NR) (k := i) h)
      generalize (RR.getD i []).length = n at y0 HM
      by_cases hn : 20 < n
      · have e1 : decide ((20 : Int) < (n : Int)) = true := decide_eq_true (by omega)
        have e2 : (20 : Int) < (n : Int) := by omega
        go_wp2_with fail
        go_ret
        exact ⟨rfl, unhide EK _ (unhide KW)⟩
      · have e2 : ¬ (20 : Int) < (n : Int) := by omega
        have HM2 := hide (unhide HM (by omega))
        go_wp2_with fail
        go_roundw
        case rel => exact ⟨i + 1, hlt, by go_num, KW, HM2⟩
        case measure => simp [intOf]; omega
    · have li : ¬ (i : Int) < (m : Int) := by omega
      obtain rfl : i = m := by omega
      have TY := hide (fun w' (hk : Keep w1 w') => unhide TX2 (unhide NR) w' (unhide EK _ hk))
      have SS := hide (fun w' (hk : Keep wr w') => unhide CK w' ((unhide KW).trans hk))
      have KK := hide (fun w' (hk : Keep wr w') => (unhide KW).trans hk)
      unfold Jc at SS
      clear TX2 NR HR CK hi hlt
      go_upto_region 8 with fail
      clear c0 c1 c2
      refine wp_region_held_drew (S := (fun w' => w'.cell? ⟨b, 0, none⟩ = some (.slice ar i cr) ∧ w'.cell? ⟨b, 1, none⟩ = some (.slice af fl cf) ∧ w'.cell? ⟨b, 2, none⟩ = some (.slice aa al ca))) (by kernel_rfl) (by exact unhide SS _ ((Keep.refl _).drew)) (fun hHeld => ?_)
      refine wpAnyH_take (i := 0) (v := ?_) rfl (by kernel_rfl) (by kernel_rfl) (by kernel_rfl) (fun _ _ _ h => h) (Or.inl ⟨by rfl, ?_⟩) hHeld ?_
      rotate_left
      · intro w hSw
        try dsimp only at hSw
        go_simp
        try with_reducible rfl
      show wpAnyH _ _ _ _ _ _ _ (Act.put _ (some 34) _) _
      try simp only [Act.put, List.setIfInBounds_toArray, List.set_cons_zero, List.set_cons_succ]
      refine wpAnyH_take (i := 2) (v := ?_) rfl (by kernel_rfl) (by kernel_rfl) (by kernel_rfl) (fun _ _ _ h => h) (Or.inl ⟨by rfl, ?_⟩) hHeld ?_
      rotate_left
      · intro w hSw
        try dsimp only at hSw
        go_simp
        try with_reducible rfl
      show wpAnyH _ _ _ _ _ _ _ (Act.put _ (some 36) _) _
      try simp only [Act.put, List.setIfInBounds_toArray, List.set_cons_zero, List.set_cons_succ]
      refine wpAnyH_ready (rs := [1]) (by kernel_rfl) (by simp) ?_
      refine AllReadyH.cons rfl (fun K hK => ?_) AllReadyH.nil
      go_simp
      clear hHeld
      (refine ((unhide TY) _ (unhide KK _ ((Keep.refl _).drew))).1.mono ?_; rintro e w3 ⟨rfl, hk3⟩)
      try go_wp2_with fail
      refine hK.out _ _ ?_ (fun hHeld => ?_)
      · exact unhide SS _ (((Keep.refl _).drew).trans hk3)
      clear hK K
      try simp only [Act.put, List.setIfInBounds_toArray, List.set_cons_zero, List.set_cons_succ]
      have k3 := hide (((Keep.refl wr).drew).trans hk3)
      clear hk3
      refine wpAnyH_ready (rs := [3]) (by kernel_rfl) (by simp) ?_
      refine AllReadyH.cons rfl (fun K hK => ?_) AllReadyH.nil
      go_simp
      clear hHeld
      (refine ((unhide TY) _ (unhide KK _ (unhide k3))).2.1.mono ?_; rintro e w4 ⟨rfl, hk4⟩)
      try go_wp2_with fail
      refine hK.out _ _ ?_ (fun hHeld => ?_)
      · exact unhide SS _ ((unhide k3).trans hk4)
      clear hK K
      try simp only [Act.put, List.setIfInBounds_toArray, List.set_cons_zero, List.set_cons_succ]
      have k4 := hide ((unhide k3).trans hk4)
      clear hk4
      refine wpAnyH_take (i := 4) (v := ?_) rfl (by kernel_rfl) (by kernel_rfl) (by kernel_rfl) (fun _ _ _ h => h) (Or.inl ⟨by rfl, ?_⟩) hHeld ?_
      rotate_left
      · intro w hSw
        try dsimp only at hSw
        go_simp
        try with_reducible rfl
      show wpAnyH _ _ _ _ _ _ _ (Act.put _ (some 38) _) _
      try simp only [Act.put, List.setIfInBounds_toArray, List.set_cons_zero, List.set_cons_succ]
      refine wpAnyH_take (i := 5) (v := ?_) rfl (by kernel_rfl) (by kernel_rfl) (by kernel_rfl) (fun _ _ _ h => h) (Or.inl ⟨by rfl, ?_⟩) hHeld ?_
      rotate_left
      · intro w hSw
        try dsimp only at hSw
        go_simp
        try with_reducible rfl
      show wpAnyH _ _ _ _ _ _ _ (Act.put _ (some 39) _) _
      try simp only [Act.put, List.setIfInBounds_toArray, List.set_cons_zero, List.set_cons_succ]
      refine wpAnyH_take (i := 6) (v := ?_) rfl (by kernel_rfl) (by kernel_rfl) (by kernel_rfl) (fun _ _ _ h => h) (Or.inl ⟨by rfl, ?_⟩) hHeld ?_
      rotate_left
      · intro w hSw
        try dsimp only at hSw
        go_simp
        try with_reducible rfl
      show wpAnyH _ _ _ _ _ _ _ (Act.put _ (some 40) _) _
      try simp only [Act.put, List.setIfInBounds_toArray, List.set_cons_zero, List.set_cons_succ]
      refine wpAnyH_take (i := 8) (v := ?_) rfl (by kernel_rfl) (by kernel_rfl) (by kernel_rfl) (fun _ _ _ h => h) (Or.inl ⟨by rfl, ?_⟩) hHeld ?_
      rotate_left
      · intro w hSw
        try dsimp only at hSw
        go_simp
        try with_reducible rfl
      show wpAnyH _ _ _ _ _ _ _ (Act.put _ (some 42) _) _
      try simp only [Act.put, List.setIfInBounds_toArray, List.set_cons_zero, List.set_cons_succ]
      refine wpAnyH_ready (rs := [7]) (by kernel_rfl) (by simp) ?_
      refine AllReadyH.cons rfl (fun K hK => ?_) AllReadyH.nil
      go_simp
      clear hHeld
      (refine ((unhide TY) _ (unhide KK _ (unhide k4))).2.2.1.mono ?_; rintro e w5 ⟨rfl, hk5⟩)
      try go_wp2_with fail
      refine hK.out _ _ ?_ (fun hHeld => ?_)
      · exact unhide SS _ ((unhide k4).trans hk5)
      clear hK K
      try simp only [Act.put, List.setIfInBounds_toArray, List.set_cons_zero, List.set_cons_succ]
      have k5 := hide ((unhide k4).trans hk5)
      clear hk5
      refine wpAnyH_ready (rs := [9]) (by kernel_rfl) (by simp) ?_
      refine AllReadyH.cons rfl (fun K hK => ?_) AllReadyH.nil
      go_simp
      clear hHeld
      (refine ((unhide TY) _ (unhide KK _ (unhide k5))).2.2.2.mono ?_; rintro e w6 ⟨rfl, hk6⟩)
      try go_wp2_with fail
      refine hK.out _ _ ?_ (fun hHeld => ?_)
      · exact unhide SS _ ((unhide k5).trans hk6)
      clear hK K
      try simp only [Act.put, List.setIfInBounds_toArray, List.set_cons_zero, List.set_cons_succ]
      have k6 := hide ((unhide k5).trans hk6)
      clear hk6
      refine wpAnyH_take (i := 10) (v := ?_) rfl (by kernel_rfl) (by kernel_rfl) (by kernel_rfl) (fun _ _ _ h => h) (Or.inl ⟨by rfl, ?_⟩) hHeld ?_
      rotate_left
      · intro w hSw
        try dsimp only at hSw
        go_simp
        try with_reducible rfl
      show wpAnyH _ _ _ _ _ _ _ (Act.put _ (some 44) _) _
      try simp only [Act.put, List.setIfInBounds_toArray, List.set_cons_zero, List.set_cons_succ]
      refine wpAnyH_take (i := 11) (v := ?_) rfl (by kernel_rfl) (by kernel_rfl) (by kernel_rfl) (fun _ _ _ h => h) (Or.inl ⟨by rfl, ?_⟩) hHeld ?_
      rotate_left
      · intro w hSw
        try dsimp only at hSw
        go_simp
        try with_reducible rfl
      show wpAnyH _ _ _ _ _ _ _ (Act.put _ (some 45) _) _
      try simp only [Act.put, List.setIfInBounds_toArray, List.set_cons_zero, List.set_cons_succ]
      refine wpAnyH_take (i := 12) (v := ?_) rfl (by kernel_rfl) (by kernel_rfl) (by kernel_rfl) (fun _ _ _ h => h) (Or.inl ⟨by rfl, ?_⟩) hHeld ?_
      rotate_left
      · intro w hSw
        try dsimp only at hSw
        go_simp
        try with_reducible rfl
      show wpAnyH _ _ _ _ _ _ _ (Act.put _ (some 46) _) _
      try simp only [Act.put, List.setIfInBounds_toArray, List.set_cons_zero, List.set_cons_succ]
      refine wpAnyH_ready (rs := [13]) (by kernel_rfl) (by simp) ?_
      refine AllReadyH.cons rfl (fun K hK => ?_) AllReadyH.nil
      go_simp
      clear hHeld
      (refine (awake_any _).mono ?_; rintro e w7 ⟨rfl, hk7⟩)
      try go_wp2_with fail
      refine hK.out _ _ ?_ (fun hHeld => ?_)
      · exact unhide SS _ ((unhide k6).trans hk7)
      clear hK K
      try simp only [Act.put, List.setIfInBounds_toArray, List.set_cons_zero, List.set_cons_succ]
      have k7 := hide ((unhide k6).trans hk7)
      clear hk7
      refine wpAnyH_take (i := 14) (v := ?_) rfl (by kernel_rfl) (by kernel_rfl) (by kernel_rfl) (fun _ _ _ h => h) (Or.inl ⟨by rfl, ?_⟩) hHeld ?_
      rotate_left
      · intro w hSw
        try dsimp only at hSw
        go_simp
        try with_reducible rfl
      show wpAnyH _ _ _ _ _ _ _ (Act.put _ (some 48) _) _
      try simp only [Act.put, List.setIfInBounds_toArray, List.set_cons_zero, List.set_cons_succ]
      refine wpAnyH_take (i := 15) (v := ?_) rfl (by kernel_rfl) (by kernel_rfl) (by kernel_rfl) (fun _ _ _ h => h) (Or.inl ⟨by rfl, ?_⟩) hHeld ?_
      rotate_left
      · intro w hSw
        try dsimp only at hSw
        go_simp
        try with_reducible rfl
      show wpAnyH _ _ _ _ _ _ _ (Act.put _ (some 2) _) _
      try simp only [Act.put, List.setIfInBounds_toArray, List.set_cons_zero, List.set_cons_succ]
      refine wpAnyH_done (by kernel_rfl) ?_ _
      clear hHeld
      go_wp2_with fail
      try go_ret
      exact ⟨rfl, unhide EK _ (unhide KK _ (unhide k7))⟩
theorem laidOut : laidOutB Try.prog = true := by kernel_rfl
theorem own : ownKnob Try.prog.godebug = none := by kernel_rfl
set_option maxHeartbeats 400000 in
set_option maxRecDepth 100000 in
theorem lifted (os : Os) (started : os.Started) (H : Type) (enc : TypeId × Value → H) :
    ReturnsInHanded {} Try.checked os 4 .any (Rows.groupRightSpec.pre6 enc Try.prog Try.f4 Rows.groupRightRow.domain false) (Rows.groupRightSpec.post enc Try.prog Try.f4 false true false false) := by
  refine returnsInHanded_of_change (C := Try.checked) own started (by kernel_rfl) Try.func4
    (ChangeSpec.witness6 (enc := enc) (C := Try.checked) false ⟨#[], #[.agg #[.slice none 0 0, .slice none 0 0, .slice none 0 0]], []⟩ 8 (by kernel_rfl) (by kernel_rfl) (by kernel_rfl) (by kernel_rfl)) ?_
  intro W base args ds gs before hval0 hW hcnd _
  have hval : ∀ (j : Nat) t v, Try.f4.params[j]? = some t → args[j]? = some v → Value.okWide Try.prog W .any base t v := hval0
  have hW' := hW
  obtain ⟨p, q, hA0, hV, rfl, hfz, hnd⟩ := hW
  have hA : DataW.TrodAll enc Try.prog W 0 (fun _ => true) true Try.f4.params.toList args.toList ds p := hA0
  rw [Try.params4] at hA hval
  obtain ⟨v0, vs0, d0, ds0, p0, q0, hargs, rfl, rfl, h0, r0⟩ := trodAll_cons hA
  obtain ⟨rfl, rfl, rfl⟩ := trodAll_nil r0
  obtain rfl : args = #[v0] := by cases args; simp_all
  obtain ⟨rfl, rfl⟩ := trodVars_none hV
  have k0 := h0
  have lt0 : ∀ x ∈ p0, x.block < W.heap.size := by obtain ⟨m, hm⟩ := k0; exact DataW.trod_lt m _ _ _ hm
  obtain ⟨es0, us0, rfl, s0, x0⟩ := Gp.open_struct Try.underlying26 Gp.job_desc (hval 0 26 v0 rfl rfl) h0
  clear h0
  clear hA0 hval0
  refine (walk s0 x0).mono fun e W' ⟨he, bel⟩ => ?_
  subst he
  exact ⟨_, rfl, _, _, _, [], _, [], hW', trodAll_mk1 (shut_bool Try.underlying4 _), (trodAll_cons_mk (Below.trod laidOut (by kernel_rfl) (of_decide_eq_true (by kernel_rfl)) k0 bel lt0) trodAll_mk0), rfl, bel.frame _, fun h => by cases h⟩
theorem over : Rows.groupRightRow.holds Try.pinned (OpenSpec.ofChange Rows.groupRightSpec) :=
  OpenClaim.holds_of_wide 4 Try.f4 rfl rfl rfl rfl rfl rfl rfl ⟨rfl, rfl, rfl, rfl, rfl⟩ rfl rfl rfl rfl rfl (by kernel_rfl) Try.func4 (by kernel_rfl)
    (of_decide_eq_true (by kernel_rfl)) (by unfold Func.isWrapper; first | (rw [if_pos (by decide +kernel)]; kernel_rfl) | (rw [if_neg (by decide +kernel)]; exact ⟨rfl, rfl⟩))
    (fun os started H enc _ => lifted os started H enc)

end Go.Proofs.Ytakandlehneciaa.gright
namespace Go.Proofs.Ytakandlehneciaa
theorem GroupRight_holds : Rows.GroupRightSaid := gright.over
end Go.Proofs.Ytakandlehneciaa
