/- Proved: for every job (of few layouts), the layout that is told does what the job asks, and none is told just where the job may not be or no layout fits. -/
import Derived.Test.YtakandlehneciaaRows
import Derived.Test.YtakandlehneciaaGqE
import Derived.Test.YtakandlehneciaaGqF
import Derived.Test.YtakandlehneciaaGpA
import Derived.WalkKit
import Derived.ProofKit
import Derived.OpenShut
import Derived.ShutString
import Derived.ChangeOld
import Derived.Below
namespace Go.Proofs.Ytakandlehneciaa.gholds
open Go.ChangeShapes Go.WideShapes Go.ChangeAt Go.RowKit
open Go.WideMaps Go.WideElems
attribute [local go_sem ↓] Go.wp_at_zero Go.wp_at_succ
set_option linter.unusedVariables false
set_option linter.unusedSimpArgs false
set_option maxRecDepth 10000
open Pa Gp
/-- what Lay tells, with as many steps as there may be -/
theorem lay_full {RR : List (List Int)} {FR : List Bool} {AP : List P2} {B : Option Bt} {sn er : Int} (h : layN RR FR AP (max 1 (mostN RR FR AP)) = (B, sn, er)) : (er = 0 ∧ ∃ b, B = some b ∧ HoldsP RR FR AP b.2 (oo RR.length b.1.1) (STn (MKn RR RR.length) (oo RR.length b.1.1) b.1.2 (oo RR.length b.1.1).length)) ∨ (er = 1 ∧ B = none ∧ jobR RR FR AP = false) ∨ (er = 150 ∧ B = none ∧ jobR RR FR AP = true) := by
  cases hJ : jobR RR FR AP with
  | false =>
    unfold layN at h
    rw [hJ, if_pos rfl] at h
    injection h with h1 h2
    injection h2 with h2 h3
    exact .inr (.inl ⟨h3.symm, h1.symm, rfl⟩)
  | true =>
    rcases lay_of (bud := max 1 (mostN RR FR AP)) hJ (by omega) (most_le hJ (by omega)) with ⟨h1, h2⟩ | ⟨b, h1, h2⟩
    · rw [h2] at h
      injection h with h3 h4
      injection h4 with h4 h5
      exact .inr (.inr ⟨h5.symm, h3.symm, rfl⟩)
    · rw [h2] at h
      injection h with h3 h4
      injection h4 with h4 h5
      exact .inl ⟨h5.symm, b, h3.symm, best_holds (rt_of hJ) h1⟩
theorem most_bd (RR : List (List Int)) (FR : List Bool) (AP : List P2) : 0 ≤ mostN RR FR AP ∧ mostN RR FR AP ≤ 10000000000 := by
  unfold mostN
  split
  · rename_i h
    have hrt := rt_of h
    have l0 := osN_len hrt 0
    have l1 := osN_len hrt 1
    have l2 := hrt.few
    have hP : (2 : Nat) ^ AP.length ≤ 65536 := Nat.pow_le_pow_right (by decide) l2
    have h2 : (osN RR FR 0).length * (osN RR FR 1).length ≤ 24 * 24 := Nat.mul_le_mul l0 l1
    have h3 := Nat.mul_le_mul (Nat.mul_le_mul hP h2) (show AP.length + 1 ≤ 17 by omega)
    omega
  · omega
set_option maxHeartbeats 8000000 in
theorem walk {w : World} {ds : List Gp.D} {us : List Value} (hs : ShL jobT ds) (hr : Rvs w ds us) : Calls Try.prog 5 #[.agg us.toArray] w fun e w' => e = .returned (.bool true) ∧ Below w.heap.size w w' := by
  obtain ⟨vr, vf, va, RR, FR, AP, rfl, hJ, -, -, -, -⟩ := job_of hs hr
  clear hs hr
  show Calls Try.prog _ #[.agg #[vr, vf, va]] w _
  have HJ := hide hJ
  obtain ⟨hR, hF, hA⟩ := hJ.at
  have J0 : Jc w.heap.size vr vf va (w.alloc (.cells #[vr, vf, va] 26)) := ⟨box_c w [vr, vf, va] _ 0 _ rfl, box_c w [vr, vf, va] _ 1 _ rfl, box_c w [vr, vf, va] _ 2 _ rfl⟩
  have K0 := (Keep.refl w).alloc (.cells #[vr, vf, va] 26)
  have CK := hide (fun (w' : World) (hk : Keep (w.alloc (.cells #[vr, vf, va] 26)) w') => J0.keep hk)
  have EK := hide (fun (w' : World) (hk : Keep (w.alloc (.cells #[vr, vf, va] 26)) w') => K0.trans hk)
  obtain ⟨Bo, sn, er, hL⟩ : ∃ a b c, layN RR FR AP (max 1 (mostN RR FR AP)) = (a, b, c) := ⟨_, _, _, rfl⟩
  have hX := most_bd RR FR AP
  have RES := hide (lay_full hL)
  have TF := hide (fun (w' : World) (hk : Keep w w') => few15_any vr vf va RR FR AP w' (hJ.keep hk))
  have TX : Hid (FewJ RR FR AP → ∀ w', Keep w w' → (Calls Try.prog 10 #[.agg #[vr, vf, va]] w' fun e w2 => e = .returned (.int .i64 (mostN RR FR AP)) ∧ Keep w' w2) ∧ (Calls Try.prog 9 #[.agg #[vr, vf, va], .int .i64 (max 1 (mostN RR FR AP))] w' fun e w2 => ∃ v, e = .returned (.tuple #[v, .int .i64 sn, .int .i64 er]) ∧ Keep w' w2 ∧ Ft RR w2 v Bo) ∧ (Calls Try.prog 14 #[.agg #[vr, vf, va]] w' fun e w2 => e = .returned (.bool (jobR RR FR AP)) ∧ Keep w' w2)) := hide (fun hf w' hk => by
    have h1 : RR.length ≤ 1000 := Nat.le_trans hf.1 (by omega)
    have h2 : ∀ L ∈ RR, L.length ≤ 1000 := fun L hL => Nat.le_trans (few_all hf L hL) (by omega)
    have h3 : AP.length ≤ 1000 := Nat.le_trans hf.2.1 (by omega)
    have hl := lay_any _ RR FR AP (max 1 (mostN RR FR AP)) w' ((unhide HJ).keep hk) h1 h2 h3 (by omega)
    unfold LyQ at hl
    rw [hL] at hl
    exact ⟨most_any _ RR FR AP w' ((unhide HJ).keep hk) h1 h2 h3, hl, jright_any _ RR FR AP w' ((unhide HJ).keep hk) h1 h2 h3⟩)
  have TH : Hid (er = 0 → ∀ (x : Int) (vo st : Value) (w' : World), Keep w w' → Ft RR w' (.agg #[.int .i64 x, vo, st]) Bo → Calls Try.prog 17 #[.agg #[vr, vf, va], .agg #[.int .i64 x, vo, st]] w' fun e w2 => e = .returned (.bool true) ∧ Keep w' w2) := hide (fun he x vo st w' hk hft => by
    rcases unhide RES with ⟨_, b, hb, hh⟩ | ⟨h1, _⟩ | ⟨h1, _⟩
    · subst hb
      obtain ⟨vo9, st9, e, h1, h2⟩ := hft
      simp at e
      obtain ⟨rfl, rfl, rfl⟩ := e
      exact holds_any _ _ _ _ _ _ RR FR AP _ _ w' ((unhide HJ).keep hk) h1.ir h2.ir hh
    · omega
    · omega)
  have RES2 : Hid (er = 0 ∨ (er = 1 ∧ Bo = none ∧ jobR RR FR AP = false) ∨ (er = 150 ∧ Bo = none ∧ jobR RR FR AP = true)) := hide ((unhide RES).imp (fun h => h.1) id)
  clear RES
  obtain ⟨ar, cr, rfl, -, -⟩ := hR
  obtain ⟨af, cf, rfl, -⟩ := hF
  obtain ⟨aa, ca, rfl, -, -⟩ := hA
  obtain ⟨c0, c1, c2⟩ := unhide CK _ (Keep.refl _)
  clear J0 K0 hJ hL HJ
  generalize FewJ RR FR AP = FJ at *
  generalize jobR RR FR AP = JR at *
  generalize mostN RR FR AP = X at *
  generalize RR.length = m at *
  generalize FR.length = fl at *
  generalize AP.length = al at *
  have hY : max 1 X = if 1 < X then X else 1 := by split <;> omega
  go_enter Try.func5, Try.ntmps5
  go_wp2_with fail
  generalize w.alloc (.cells #[.slice ar m cr, .slice af fl cf, .slice aa al ca] 26) = w1 at CK EK c0 c1 c2 ⊢
  generalize w.heap.size = b0 at CK c0 c1 c2 ⊢
  (refine ((unhide TF) _ (unhide EK _ (Keep.refl _))).mono ?_; rintro e w2 ⟨fw, rfl, hk9, hfw⟩; have K2 := hide hk9; have HFW := hide hfw; clear hk9 hfw)
  clear c0 c1 c2 TF
  have SS : Hid (∀ w', Keep w2 w' → w'.cell? ⟨b0, 0, none⟩ = some (.slice ar m cr) ∧ w'.cell? ⟨b0, 1, none⟩ = some (.slice af fl cf) ∧ w'.cell? ⟨b0, 2, none⟩ = some (.slice aa al ca)) := hide (fun w' hk => unhide CK _ ((unhide K2).trans hk))
  have KK := hide (fun w' (hk : Keep w2 w') => unhide EK _ ((unhide K2).trans hk))
  clear CK EK K2
  cases fw with
  | false =>
    go_wp2_with fail
    try go_ret
    exact ⟨rfl, unhide KK _ (Keep.refl _)⟩
  | true =>
    have TX2 := hide (unhide TX (unhide HFW rfl))
    have TM := hide (fun w' hk => (unhide TX2 w' hk).1)
    have TL := hide (fun w' hk => (unhide TX2 w' hk).2.1)
    have TR := hide (fun w' hk => (unhide TX2 w' hk).2.2)
    rw [hY] at TL
    clear TX TX2 HFW hY
    go_upto_region 3 with fail
    go_cut [3, 4, 5] (fun vp vn ve wc => ∃ fb, vp = .pointer (some ⟨fb, 0, none⟩) ∧ vn = .int .i64 sn ∧ ve = .int .i64 er ∧ Hid (Bxf RR Bo w2 wc fb))
    case first =>
      refine wp_region_held_drew (S := (fun w' => w'.cell? ⟨b0, 0, none⟩ = some (.slice ar m cr) ∧ w'.cell? ⟨b0, 1, none⟩ = some (.slice af fl cf) ∧ w'.cell? ⟨b0, 2, none⟩ = some (.slice aa al ca))) (by kernel_rfl) (by exact unhide SS _ ((Keep.refl _).drew)) (fun hHeld => ?_)
      refine wpAnyH_take (i := 0) (v := ?_) rfl (by kernel_rfl) (by kernel_rfl) (by kernel_rfl) (fun _ _ _ h => h) (Or.inl ⟨by rfl, ?_⟩) hHeld ?_
      rotate_left
      · intro w hSw
        try dsimp only at hSw
        go_simp
        try with_reducible rfl
      show wpAnyH _ _ _ _ _ _ _ (Act.put _ (some 10) _) _
      try simp only [Act.put, List.setIfInBounds_toArray, List.set_cons_zero, List.set_cons_succ]
      refine wpAnyH_take (i := 1) (v := ?_) rfl (by kernel_rfl) (by kernel_rfl) (by kernel_rfl) (fun _ _ _ h => h) (Or.inl ⟨by rfl, ?_⟩) hHeld ?_
      rotate_left
      · intro w hSw
        try dsimp only at hSw
        go_simp
        try with_reducible rfl
      show wpAnyH _ _ _ _ _ _ _ (Act.put _ (some 11) _) _
      try simp only [Act.put, List.setIfInBounds_toArray, List.set_cons_zero, List.set_cons_succ]
      refine wpAnyH_ready (rs := [2, 9]) (by kernel_rfl) (by simp) ?_
      refine AllReadyH.cons rfl (fun K hK => ?_) (AllReadyH.cons rfl (fun K hK => ?_) AllReadyH.nil)
      ·
        go_simp
        clear hHeld
        (refine ((unhide TM) _ (unhide KK _ (((Keep.refl w2).drew)))).mono ?_; rintro e w3 ⟨rfl, hk9⟩; have k3 := hide ((((Keep.refl w2).drew)).trans hk9); clear hk9)
        try go_wp2_with fail
        refine hK.out _ _ ?_ (fun hHeld => ?_)
        · exact unhide SS _ (unhide k3)
        clear hK K
        try simp only [Act.put, List.setIfInBounds_toArray, List.set_cons_zero, List.set_cons_succ]
        refine wpAnyH_take (i := 3) (v := ?_) rfl (by kernel_rfl) (by kernel_rfl) (by kernel_rfl) (fun _ _ _ h => h) (Or.inl ⟨by rfl, ?_⟩) hHeld ?_
        rotate_left
        · intro w hSw
          try dsimp only at hSw
          go_simp
          try with_reducible rfl
        show wpAnyH _ _ _ _ _ _ _ (Act.put _ (some 13) _) _
        try simp only [Act.put, List.setIfInBounds_toArray, List.set_cons_zero, List.set_cons_succ]
        generalize (if 1 < X then X else 1) = Y9 at *
        refine wpAnyH_ready (rs := [4, 9]) (by kernel_rfl) (by simp) ?_
        refine AllReadyH.cons rfl (fun K hK => ?_) (AllReadyH.cons rfl (fun K hK => ?_) AllReadyH.nil)
        ·
          go_simp
          clear hHeld
          (refine ((unhide TL) _ (unhide KK _ ((unhide k3)))).mono ?_; rintro e w4 ⟨v9, rfl, hk9, hft⟩; have k4 := hide (((unhide k3)).trans hk9); obtain ⟨x4, ao4, lo4, co4, as4, ls4, cs4, rfl⟩ := ft_shape hft; have FT4 := hide hft; clear hft)
          try go_wp2_with fail
          refine hK.out _ _ ?_ (fun hHeld => ?_)
          · exact unhide SS _ (unhide k4)
          clear hK K
          try simp only [Act.put, List.setIfInBounds_toArray, List.set_cons_zero, List.set_cons_succ]
          clear hk9
          refine wpAnyH_take (i := 5) (v := ?_) rfl (by kernel_rfl) (by kernel_rfl) (by kernel_rfl) (fun _ _ _ h => h) (Or.inl ⟨by rfl, ?_⟩) hHeld ?_
          rotate_left
          · intro w hSw
            try dsimp only at hSw
            go_simp
            try with_reducible rfl
          show wpAnyH _ _ _ _ _ _ _ (Act.put _ (some 9) _) _
          try simp only [Act.put, List.setIfInBounds_toArray, List.set_cons_zero, List.set_cons_succ]
          refine wpAnyH_take (i := 6) (v := ?_) rfl (by kernel_rfl) (by kernel_rfl) (by kernel_rfl) (fun _ _ _ h => h) (Or.inl ⟨by rfl, ?_⟩) hHeld ?_
          rotate_left
          · intro w hSw
            try dsimp only at hSw
            go_simp
            try with_reducible rfl
          show wpAnyH _ _ _ _ _ _ _ (Act.put _ (some 15) _) _
          try simp only [Act.put, List.setIfInBounds_toArray, List.set_cons_zero, List.set_cons_succ]
          refine wpAnyH_take (i := 7) (v := ?_) rfl (by kernel_rfl) (by kernel_rfl) (by kernel_rfl) (fun _ _ _ h => h) (Or.inl ⟨by rfl, ?_⟩) hHeld ?_
          rotate_left
          · intro w hSw
            try dsimp only at hSw
            go_simp
            try with_reducible rfl
          show wpAnyH _ _ _ _ _ _ _ (Act.put _ (some 16) _) _
          try simp only [Act.put, List.setIfInBounds_toArray, List.set_cons_zero, List.set_cons_succ]
          refine wpAnyH_take (i := 8) (v := ?_) rfl (by kernel_rfl) (by kernel_rfl) (by kernel_rfl) (fun _ _ _ h => h) (Or.inl ⟨by rfl, ?_⟩) hHeld ?_
          rotate_left
          · intro w hSw
            try dsimp only at hSw
            go_simp
            try with_reducible rfl
          show wpAnyH _ _ _ _ _ _ _ (Act.put _ (some 17) _) _
          try simp only [Act.put, List.setIfInBounds_toArray, List.set_cons_zero, List.set_cons_succ]
          have HB5 := hide (heap_alloc_new w4 (.cells #[.int .i64 0, .slice none 0 0, .slice none 0 0] 30))
          have K5 := hide ((unhide k4).alloc (.cells #[.int .i64 0, .slice none 0 0, .slice none 0 0] 30))
          have FT5 := hide ((unhide FT4).keep ((Keep.refl w4).alloc (.cells #[.int .i64 0, .slice none 0 0, .slice none 0 0] 30)))
          have LW5 : Hid (w2.heap.size ≤ w4.heap.size) := hide (Below.size (unhide k4))
          refine wpAnyH_ready (rs := [9]) (by kernel_rfl) (by simp) ?_
          refine AllReadyH.cons rfl (fun K hK => ?_) AllReadyH.nil
          go_simp
          clear hHeld
          refine hK.out _ _ ?_ (fun hHeld => ?_)
          · exact unhide SS _ (unhide K5)
          clear hK K
          try simp only [Act.put, List.setIfInBounds_toArray, List.set_cons_zero, List.set_cons_succ]
          generalize w4.alloc (.cells #[.int .i64 0, .slice none 0 0, .slice none 0 0] 30) = w5 at *
          generalize w4.heap.size = fb5 at *
          obtain ⟨f0, f1, f2⟩ := fit_fz (unhide HB5)
          obtain ⟨e0, e1, e2⟩ := fit_sz (unhide HB5)
          have BE := hide (lay_end (RR := RR) (unhide K5) (unhide LW5) (unhide HB5) (unhide FT5))
          refine wpAnyH_ready (rs := [10]) (by kernel_rfl) (by simp) ?_
          refine AllReadyH.cons rfl (fun K hK => ?_) AllReadyH.nil
          go_simp
          clear hHeld
          refine hK.out _ _ ?_ (fun hHeld => ?_)
          · exact unhide SS _ (unhide BE).kp
          clear hK K
          try simp only [Act.put, List.setIfInBounds_toArray, List.set_cons_zero, List.set_cons_succ]
          clear f0 f1 f2 e0 e1 e2
          refine wpAnyH_take (i := 11) (v := ?_) rfl (by kernel_rfl) (by kernel_rfl) (by kernel_rfl) (fun _ _ _ h => h) (Or.inl ⟨by rfl, ?_⟩) hHeld ?_
          rotate_left
          · intro w hSw
            try dsimp only at hSw
            go_simp
            try with_reducible rfl
          show wpAnyH _ _ _ _ _ _ _ (Act.put _ (some 4) _) _
          try simp only [Act.put, List.setIfInBounds_toArray, List.set_cons_zero, List.set_cons_succ]
          refine wpAnyH_take (i := 12) (v := ?_) rfl (by kernel_rfl) (by kernel_rfl) (by kernel_rfl) (fun _ _ _ h => h) (Or.inl ⟨by rfl, ?_⟩) hHeld ?_
          rotate_left
          · intro w hSw
            try dsimp only at hSw
            go_simp
            try with_reducible rfl
          show wpAnyH _ _ _ _ _ _ _ (Act.put _ (some 5) _) _
          try simp only [Act.put, List.setIfInBounds_toArray, List.set_cons_zero, List.set_cons_succ]
          refine wpAnyH_done (by kernel_rfl) ?_ _
          clear hHeld
          go_wp2_with fail
          go_meet
          exact ⟨_, rfl, rfl, rfl, BE⟩
        ·
          have HB4 := hide (heap_alloc_new w3 (.cells #[.int .i64 0, .slice none 0 0, .slice none 0 0] 30))
          have k4 := hide ((unhide k3).alloc (.cells #[.int .i64 0, .slice none 0 0, .slice none 0 0] 30))
          have LW5 : Hid (w2.heap.size ≤ w3.heap.size) := hide (Below.size (unhide k3))
          go_simp
          clear hHeld
          refine hK.out _ _ ?_ (fun hHeld => ?_)
          · exact unhide SS _ (unhide k4)
          clear hK K
          try simp only [Act.put, List.setIfInBounds_toArray, List.set_cons_zero, List.set_cons_succ]
          generalize w3.alloc (.cells #[.int .i64 0, .slice none 0 0, .slice none 0 0] 30) = w4 at *
          generalize w3.heap.size = fb5 at *
          refine wpAnyH_ready (rs := [4]) (by kernel_rfl) (by simp) ?_
          refine AllReadyH.cons rfl (fun K hK => ?_) AllReadyH.nil
          go_simp
          clear hHeld
          (refine ((unhide TL) _ (unhide KK _ ((unhide k4)))).mono ?_; rintro e w5 ⟨v9, rfl, hk9, hft⟩; have K5 := hide (((unhide k4)).trans hk9); obtain ⟨x4, ao4, lo4, co4, as4, ls4, cs4, rfl⟩ := ft_shape hft; have FT4 := hide hft; clear hft)
          try go_wp2_with fail
          refine hK.out _ _ ?_ (fun hHeld => ?_)
          · exact unhide SS _ (unhide K5)
          clear hK K
          try simp only [Act.put, List.setIfInBounds_toArray, List.set_cons_zero, List.set_cons_succ]
          have HB5 := hide (kblk (unhide HB4) hk9)
          have FT5 := FT4
          clear hk9
          refine wpAnyH_take (i := 5) (v := ?_) rfl (by kernel_rfl) (by kernel_rfl) (by kernel_rfl) (fun _ _ _ h => h) (Or.inl ⟨by rfl, ?_⟩) hHeld ?_
          rotate_left
          · intro w hSw
            try dsimp only at hSw
            go_simp
            try with_reducible rfl
          show wpAnyH _ _ _ _ _ _ _ (Act.put _ (some 9) _) _
          try simp only [Act.put, List.setIfInBounds_toArray, List.set_cons_zero, List.set_cons_succ]
          refine wpAnyH_take (i := 6) (v := ?_) rfl (by kernel_rfl) (by kernel_rfl) (by kernel_rfl) (fun _ _ _ h => h) (Or.inl ⟨by rfl, ?_⟩) hHeld ?_
          rotate_left
          · intro w hSw
            try dsimp only at hSw
            go_simp
            try with_reducible rfl
          show wpAnyH _ _ _ _ _ _ _ (Act.put _ (some 15) _) _
          try simp only [Act.put, List.setIfInBounds_toArray, List.set_cons_zero, List.set_cons_succ]
          refine wpAnyH_take (i := 7) (v := ?_) rfl (by kernel_rfl) (by kernel_rfl) (by kernel_rfl) (fun _ _ _ h => h) (Or.inl ⟨by rfl, ?_⟩) hHeld ?_
          rotate_left
          · intro w hSw
            try dsimp only at hSw
            go_simp
            try with_reducible rfl
          show wpAnyH _ _ _ _ _ _ _ (Act.put _ (some 16) _) _
          try simp only [Act.put, List.setIfInBounds_toArray, List.set_cons_zero, List.set_cons_succ]
          refine wpAnyH_take (i := 8) (v := ?_) rfl (by kernel_rfl) (by kernel_rfl) (by kernel_rfl) (fun _ _ _ h => h) (Or.inl ⟨by rfl, ?_⟩) hHeld ?_
          rotate_left
          · intro w hSw
            try dsimp only at hSw
            go_simp
            try with_reducible rfl
          show wpAnyH _ _ _ _ _ _ _ (Act.put _ (some 17) _) _
          try simp only [Act.put, List.setIfInBounds_toArray, List.set_cons_zero, List.set_cons_succ]
          obtain ⟨f0, f1, f2⟩ := fit_fz (unhide HB5)
          obtain ⟨e0, e1, e2⟩ := fit_sz (unhide HB5)
          have BE := hide (lay_end (RR := RR) (unhide K5) (unhide LW5) (unhide HB5) (unhide FT5))
          refine wpAnyH_ready (rs := [10]) (by kernel_rfl) (by simp) ?_
          refine AllReadyH.cons rfl (fun K hK => ?_) AllReadyH.nil
          go_simp
          clear hHeld
          refine hK.out _ _ ?_ (fun hHeld => ?_)
          · exact unhide SS _ (unhide BE).kp
          clear hK K
          try simp only [Act.put, List.setIfInBounds_toArray, List.set_cons_zero, List.set_cons_succ]
          clear f0 f1 f2 e0 e1 e2
          refine wpAnyH_take (i := 11) (v := ?_) rfl (by kernel_rfl) (by kernel_rfl) (by kernel_rfl) (fun _ _ _ h => h) (Or.inl ⟨by rfl, ?_⟩) hHeld ?_
          rotate_left
          · intro w hSw
            try dsimp only at hSw
            go_simp
            try with_reducible rfl
          show wpAnyH _ _ _ _ _ _ _ (Act.put _ (some 4) _) _
          try simp only [Act.put, List.setIfInBounds_toArray, List.set_cons_zero, List.set_cons_succ]
          refine wpAnyH_take (i := 12) (v := ?_) rfl (by kernel_rfl) (by kernel_rfl) (by kernel_rfl) (fun _ _ _ h => h) (Or.inl ⟨by rfl, ?_⟩) hHeld ?_
          rotate_left
          · intro w hSw
            try dsimp only at hSw
            go_simp
            try with_reducible rfl
          show wpAnyH _ _ _ _ _ _ _ (Act.put _ (some 5) _) _
          try simp only [Act.put, List.setIfInBounds_toArray, List.set_cons_zero, List.set_cons_succ]
          refine wpAnyH_done (by kernel_rfl) ?_ _
          clear hHeld
          go_wp2_with fail
          go_meet
          exact ⟨_, rfl, rfl, rfl, BE⟩
      ·
        have HB3 : Hid ((w2.alloc (.cells #[.int .i64 0, .slice none 0 0, .slice none 0 0] 30)).drew.heap[w2.heap.size]? = some (.cells #[.int .i64 0, .slice none 0 0, .slice none 0 0] 30)) := hide (heap_alloc_new w2 (.cells #[.int .i64 0, .slice none 0 0, .slice none 0 0] 30))
        have k3 := hide ((Keep.refl w2).alloc (.cells #[.int .i64 0, .slice none 0 0, .slice none 0 0] 30)).drew
        have LW5 : Hid (w2.heap.size ≤ w2.heap.size) := hide (Nat.le_refl _)
        go_simp
        clear hHeld
        refine hK.out _ _ ?_ (fun hHeld => ?_)
        · exact unhide SS _ (unhide k3)
        clear hK K
        try simp only [Act.put, List.setIfInBounds_toArray, List.set_cons_zero, List.set_cons_succ]
        generalize (w2.alloc (.cells #[.int .i64 0, .slice none 0 0, .slice none 0 0] 30)).drew = w3 at *
        obtain ⟨fb5, hfb5⟩ : ∃ f, w2.heap.size = f := ⟨_, rfl⟩
        have LW6 : Hid (w2.heap.size ≤ fb5) := hide (by rw [hfb5]; exact Nat.le_refl _)
        rw [hfb5] at HB3
        simp only [hfb5]
        clear LW5 hfb5
        have LW5 := LW6
        refine wpAnyH_ready (rs := [2]) (by kernel_rfl) (by simp) ?_
        refine AllReadyH.cons rfl (fun K hK => ?_) AllReadyH.nil
        go_simp
        clear hHeld
        (refine ((unhide TM) _ (unhide KK _ ((unhide k3)))).mono ?_; rintro e w4 ⟨rfl, hk9⟩; have k4 := hide (((unhide k3)).trans hk9); have HB4 := hide (kblk (unhide HB3) hk9); clear hk9)
        try go_wp2_with fail
        refine hK.out _ _ ?_ (fun hHeld => ?_)
        · exact unhide SS _ (unhide k4)
        clear hK K
        try simp only [Act.put, List.setIfInBounds_toArray, List.set_cons_zero, List.set_cons_succ]
        refine wpAnyH_take (i := 3) (v := ?_) rfl (by kernel_rfl) (by kernel_rfl) (by kernel_rfl) (fun _ _ _ h => h) (Or.inl ⟨by rfl, ?_⟩) hHeld ?_
        rotate_left
        · intro w hSw
          try dsimp only at hSw
          go_simp
          try with_reducible rfl
        show wpAnyH _ _ _ _ _ _ _ (Act.put _ (some 13) _) _
        try simp only [Act.put, List.setIfInBounds_toArray, List.set_cons_zero, List.set_cons_succ]
        generalize (if 1 < X then X else 1) = Y9 at *
        refine wpAnyH_ready (rs := [4]) (by kernel_rfl) (by simp) ?_
        refine AllReadyH.cons rfl (fun K hK => ?_) AllReadyH.nil
        go_simp
        clear hHeld
        (refine ((unhide TL) _ (unhide KK _ ((unhide k4)))).mono ?_; rintro e w5 ⟨v9, rfl, hk9, hft⟩; have K5 := hide (((unhide k4)).trans hk9); obtain ⟨x4, ao4, lo4, co4, as4, ls4, cs4, rfl⟩ := ft_shape hft; have FT4 := hide hft; clear hft)
        try go_wp2_with fail
        refine hK.out _ _ ?_ (fun hHeld => ?_)
        · exact unhide SS _ (unhide K5)
        clear hK K
        try simp only [Act.put, List.setIfInBounds_toArray, List.set_cons_zero, List.set_cons_succ]
        have HB5 := hide (kblk (unhide HB4) hk9)
        have FT5 := FT4
        clear hk9
        refine wpAnyH_take (i := 5) (v := ?_) rfl (by kernel_rfl) (by kernel_rfl) (by kernel_rfl) (fun _ _ _ h => h) (Or.inl ⟨by rfl, ?_⟩) hHeld ?_
        rotate_left
        · intro w hSw
          try dsimp only at hSw
          go_simp
          try with_reducible rfl
        show wpAnyH _ _ _ _ _ _ _ (Act.put _ (some 9) _) _
        try simp only [Act.put, List.setIfInBounds_toArray, List.set_cons_zero, List.set_cons_succ]
        refine wpAnyH_take (i := 6) (v := ?_) rfl (by kernel_rfl) (by kernel_rfl) (by kernel_rfl) (fun _ _ _ h => h) (Or.inl ⟨by rfl, ?_⟩) hHeld ?_
        rotate_left
        · intro w hSw
          try dsimp only at hSw
          go_simp
          try with_reducible rfl
        show wpAnyH _ _ _ _ _ _ _ (Act.put _ (some 15) _) _
        try simp only [Act.put, List.setIfInBounds_toArray, List.set_cons_zero, List.set_cons_succ]
        refine wpAnyH_take (i := 7) (v := ?_) rfl (by kernel_rfl) (by kernel_rfl) (by kernel_rfl) (fun _ _ _ h => h) (Or.inl ⟨by rfl, ?_⟩) hHeld ?_
        rotate_left
        · intro w hSw
          try dsimp only at hSw
          go_simp
          try with_reducible rfl
        show wpAnyH _ _ _ _ _ _ _ (Act.put _ (some 16) _) _
        try simp only [Act.put, List.setIfInBounds_toArray, List.set_cons_zero, List.set_cons_succ]
        refine wpAnyH_take (i := 8) (v := ?_) rfl (by kernel_rfl) (by kernel_rfl) (by kernel_rfl) (fun _ _ _ h => h) (Or.inl ⟨by rfl, ?_⟩) hHeld ?_
        rotate_left
        · intro w hSw
          try dsimp only at hSw
          go_simp
          try with_reducible rfl
        show wpAnyH _ _ _ _ _ _ _ (Act.put _ (some 17) _) _
        try simp only [Act.put, List.setIfInBounds_toArray, List.set_cons_zero, List.set_cons_succ]
        obtain ⟨f0, f1, f2⟩ := fit_fz (unhide HB5)
        obtain ⟨e0, e1, e2⟩ := fit_sz (unhide HB5)
        have BE := hide (lay_end (RR := RR) (unhide K5) (unhide LW5) (unhide HB5) (unhide FT5))
        refine wpAnyH_ready (rs := [10]) (by kernel_rfl) (by simp) ?_
        refine AllReadyH.cons rfl (fun K hK => ?_) AllReadyH.nil
        go_simp
        clear hHeld
        refine hK.out _ _ ?_ (fun hHeld => ?_)
        · exact unhide SS _ (unhide BE).kp
        clear hK K
        try simp only [Act.put, List.setIfInBounds_toArray, List.set_cons_zero, List.set_cons_succ]
        clear f0 f1 f2 e0 e1 e2
        refine wpAnyH_take (i := 11) (v := ?_) rfl (by kernel_rfl) (by kernel_rfl) (by kernel_rfl) (fun _ _ _ h => h) (Or.inl ⟨by rfl, ?_⟩) hHeld ?_
        rotate_left
        · intro w hSw
          try dsimp only at hSw
          go_simp
          try with_reducible rfl
        show wpAnyH _ _ _ _ _ _ _ (Act.put _ (some 4) _) _
        try simp only [Act.put, List.setIfInBounds_toArray, List.set_cons_zero, List.set_cons_succ]
        refine wpAnyH_take (i := 12) (v := ?_) rfl (by kernel_rfl) (by kernel_rfl) (by kernel_rfl) (fun _ _ _ h => h) (Or.inl ⟨by rfl, ?_⟩) hHeld ?_
        rotate_left
        · intro w hSw
          try dsimp only at hSw
          go_simp
          try with_reducible rfl
        show wpAnyH _ _ _ _ _ _ _ (Act.put _ (some 5) _) _
        try simp only [Act.put, List.setIfInBounds_toArray, List.set_cons_zero, List.set_cons_succ]
        refine wpAnyH_done (by kernel_rfl) ?_ _
        clear hHeld
        go_wp2_with fail
        go_meet
        exact ⟨_, rfl, rfl, rfl, BE⟩
    case rest =>
      obtain ⟨fb, rfl, rfl, rfl, BX⟩ := hcut
      have k5 := hide (unhide BX).kp
      have KC := hide (fun w' (hk : Keep wc w') => unhide KK _ ((unhide k5).trans hk))
      obtain ⟨c0, c1, c2⟩ := unhide SS _ (unhide k5)
      obtain ⟨x5, ao5, lo5, co5, as5, ls5, cs5, hb5, hf5, -, -⟩ := unhide BX
      obtain ⟨d0, d1, d2⟩ := fit_sz hb5
      have TRc := hide (unhide TR wc (unhide KC _ (Keep.refl _)))
      have FT5 := hide hf5
      have HB5 := hide hb5
      clear hb5 hf5 BX SS TR TM TL k5 KK
      rcases unhide RES2 with he | ⟨he, hn, hj⟩ | ⟨he, hn, hj⟩
      · have TH2 := hide (unhide TH he _ _ _ wc (unhide KC _ (Keep.refl _)) (unhide FT5))
        subst he
        clear RES2 TH FT5 HB5
        go_wp2_with fail
        (refine (unhide TH2).mono ?_; rintro e w6 ⟨rfl, hk6⟩; have k6 := hide hk6; clear hk6 c0 c1 c2 d0 d1 d2)
        go_wp2_with fail
        (refine (awake_any _).mono ?_; rintro e w7 ⟨rfl, hk7⟩; have k7 := hide ((unhide k6).trans hk7); clear hk7)
        go_wp2_with fail
        try go_ret
        exact ⟨rfl, unhide KC _ (unhide k7)⟩
      · subst hn
        have hft : (Value.agg #[.int .i64 x5, .slice ao5 lo5 co5, .slice as5 ls5 cs5]) = .agg #[.int .i64 0, .slice none 0 0, .slice none 0 0] := unhide FT5
        simp at hft
        obtain ⟨rfl, ⟨rfl, rfl, rfl⟩, rfl, rfl, rfl⟩ := hft
        rw [hj] at TRc
        subst he
        clear RES2 TH FT5 HB5 hj
        go_wp2_with fail
        (refine (unhide TRc).mono ?_; rintro e w6 ⟨rfl, hk6⟩; have k6 := hide hk6; clear hk6 c0 c1 c2 d0 d1 d2)
        go_wp2_with fail
        (refine (awake_any _).mono ?_; rintro e w7 ⟨rfl, hk7⟩; have k7 := hide ((unhide k6).trans hk7); clear hk7)
        go_wp2_with fail
        try go_ret
        exact ⟨rfl, unhide KC _ (unhide k7)⟩
      · subst hn
        have hft : (Value.agg #[.int .i64 x5, .slice ao5 lo5 co5, .slice as5 ls5 cs5]) = .agg #[.int .i64 0, .slice none 0 0, .slice none 0 0] := unhide FT5
        simp at hft
        obtain ⟨rfl, ⟨rfl, rfl, rfl⟩, rfl, rfl, rfl⟩ := hft
        rw [hj] at TRc
        subst he
        clear RES2 TH FT5 HB5 hj
        go_wp2_with fail
        (refine (unhide TRc).mono ?_; rintro e w6 ⟨rfl, hk6⟩; have k6 := hide hk6; clear hk6 c0 c1 c2 d0 d1 d2)
        go_wp2_with fail
        (refine (awake_any _).mono ?_; rintro e w7 ⟨rfl, hk7⟩; have k7 := hide ((unhide k6).trans hk7); clear hk7)
        go_wp2_with fail
        try go_ret
        exact ⟨rfl, unhide KC _ (unhide k7)⟩
theorem laidOut : laidOutB Try.prog = true := by kernel_rfl
theorem own : ownKnob Try.prog.godebug = none := by kernel_rfl
set_option maxHeartbeats 400000 in
set_option maxRecDepth 100000 in
theorem lifted (os : Os) (started : os.Started) (H : Type) (enc : TypeId × Value → H) :
    ReturnsInHanded {} Try.checked os 5 .any (Rows.groupHoldsSpec.pre6 enc Try.prog Try.f5 Rows.groupHoldsRow.domain false) (Rows.groupHoldsSpec.post enc Try.prog Try.f5 false true false false) := by
  refine returnsInHanded_of_change (C := Try.checked) own started (by kernel_rfl) Try.func5
    (ChangeSpec.witness6 (enc := enc) (C := Try.checked) false ⟨#[], #[.agg #[.slice none 0 0, .slice none 0 0, .slice none 0 0]], []⟩ 8 (by kernel_rfl) (by kernel_rfl) (by kernel_rfl) (by kernel_rfl)) ?_
  intro W base args ds gs before hval0 hW hcnd _
  have hval : ∀ (j : Nat) t v, Try.f5.params[j]? = some t → args[j]? = some v → Value.okWide Try.prog W .any base t v := hval0
  have hW' := hW
  obtain ⟨p, q, hA0, hV, rfl, hfz, hnd⟩ := hW
  have hA : DataW.TrodAll enc Try.prog W 0 (fun _ => true) true Try.f5.params.toList args.toList ds p := hA0
  rw [Try.params5] at hA hval
  obtain ⟨v0, vs0, d0, ds0, p0, q0, hargs, rfl, rfl, h0, r0⟩ := trodAll_cons hA
  obtain ⟨rfl, rfl, rfl⟩ := trodAll_nil r0
  obtain rfl : args = #[v0] := by cases args; simp_all
  obtain ⟨rfl, rfl⟩ := trodVars_none hV
  have k0 := h0
  have lt0 : ∀ x ∈ p0, x.block < W.heap.size := by obtain ⟨m, hm⟩ := k0; exact DataW.trod_lt m _ _ _ hm
  obtain ⟨es0, us0, rfl, s0, x0⟩ := Gp.open_struct Try.underlying26 Gp.job_desc (hval 0 26 v0 rfl rfl) h0
  clear h0
  clear hA0 hval0
  refine (walk s0 x0).mono fun e W' ⟨he, bel⟩ => ?_
  subst he
  exact ⟨_, rfl, _, _, _, [], _, [], hW', trodAll_mk1 (shut_bool Try.underlying4 _), (trodAll_cons_mk (Below.trod laidOut (by kernel_rfl) (of_decide_eq_true (by kernel_rfl)) k0 bel lt0) trodAll_mk0), rfl, bel.frame _, fun h => by cases h⟩
theorem over : Rows.groupHoldsRow.holds Try.pinned (OpenSpec.ofChange Rows.groupHoldsSpec) :=
  OpenClaim.holds_of_wide 5 Try.f5 rfl rfl rfl rfl rfl rfl rfl ⟨rfl, rfl, rfl, rfl, rfl⟩ rfl rfl rfl rfl rfl (by kernel_rfl) Try.func5 (by kernel_rfl)
    (of_decide_eq_true (by kernel_rfl)) (by unfold Func.isWrapper; first | (rw [if_pos (by decide +kernel)]; kernel_rfl) | (rw [if_neg (by decide +kernel)]; exact ⟨rfl, rfl⟩))
    (fun os started H enc _ => lifted os started H enc)

end Go.Proofs.Ytakandlehneciaa.gholds
namespace Go.Proofs.Ytakandlehneciaa
theorem GroupHolds_holds : Rows.GroupHoldsSaid := gholds.over
end Go.Proofs.Ytakandlehneciaa
