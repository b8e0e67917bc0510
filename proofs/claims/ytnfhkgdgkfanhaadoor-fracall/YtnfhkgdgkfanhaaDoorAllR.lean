/- Sums of any fractions: the document's Sum. -/
import Derived.Test.YtnfhkgdgkfanhaaDoorAllW
import Derived.Test.YtnfhkgdgkfanhaaDoorRefP
namespace Go.Proofs.YtnfhkgdgkfanhaaDoor
open Go.RowKit
attribute [local go_sem ↓] Go.wp_at_zero Go.wp_at_succ
set_option linter.unusedVariables false
set_option linter.unusedSimpArgs false
set_option maxRecDepth 10000
theorem Ft.keep {w wr wc : World} {B : Nat} {x y : Int} (h : Ft w wr B x y) (hk : Keep wr wc) : Ft w wc B x y := by
  obtain ⟨h1, h2, h3, h4, h5, h6, h7, h8, h9, h10, h11, h12⟩ := h
  have hs := Below.size hk
  refine ⟨h1.trans hk, by omega, h3, by omega, ?_, ?_, ?_, ?_, ?_, ?_, ?_, ?_⟩
  · rw [Below.cell (p := ⟨B, 0, none⟩) hk h4]; exact h5
  · rw [Below.cell (p := ⟨B, 1, none⟩) hk h4]; exact h6
  · rw [Below.frozen (p := ⟨B, 0, none⟩) hk h4]; exact h7
  · rw [Below.frozen (p := ⟨B, 1, none⟩) hk h4]; exact h8
  · rw [Below.cell (p := ⟨w.heap.size, 0, none⟩) hk h2]; exact h9
  · rw [Below.cell (p := ⟨w.heap.size, 1, none⟩) hk h2]; exact h10
  · rw [Below.frozen (p := ⟨w.heap.size, 0, none⟩) hk h2]; exact h11
  · rw [Below.frozen (p := ⟨w.heap.size, 1, none⟩) hk h2]; exact h12
theorem Ft.set {w wc : World} {B : Nat} {x y : Int} (h : Ft w wc B x y) (ax ay : Int) : Ft w ((wc.setCell ⟨B, 0, none⟩ (.int .i64 ax)).setCell ⟨B, 1, none⟩ (.int .i64 ay)) B ax ay := by
  obtain ⟨h1, h2, h3, h4, h5, h6, h7, h8, h9, h10, h11, h12⟩ := h
  have ne1 : ¬ B = w.heap.size := by omega
  have ne2 : ¬ w.heap.size = B := by omega
  refine ⟨keep_setB _ _ _ h3 (keep_setB _ _ _ h3 h1), ?_, h3, ?_, ?_, ?_, ?_, ?_, ?_, ?_, ?_, ?_⟩
  all_goals simp [go_sem, h2, h4, h5, h6, h7, h8, h9, h10, h11, h12, ne1, ne2]
set_option maxHeartbeats 2000000 in
theorem rsum_core (ad : Addr) (L : List (Int × Int)) (cap : Nat) (w : World) (hn : L.length ≤ 50) (hF : Fs w ad L) (X Y Z : Int) (HS : Hid (sm (0, 1) L = (X, Y, Z)))
    (AD : Hid (∀ (t f : Int × Int), In t.1 → In t.2 → In f.1 → In f.2 → ∀ w, Calls Tryd.prog 16 #[.agg #[.int .i64 t.1, .int .i64 t.2], .agg #[.int .i64 f.1, .int .i64 f.2]] w fun e w' => e = .returned (.tuple #[.agg #[.int .i64 (adX t f), .int .i64 (adY t f)], .int .i64 (adE t f)]) ∧ Keep w w')) :
    Calls Tryd.prog 32 #[.slice (some ad) L.length cap] w fun e w' => e = .returned (.tuple #[.agg #[.int .i64 X, .int .i64 Y], .int .i64 Z]) ∧ Keep w w' := by
  go_enter Tryd.func32, Tryd.ntmps32
  go_wp2_with fail
  obtain ⟨B, hB⟩ : ∃ B, B = w.heap.size + 1 := ⟨_, rfl⟩
  rw [← hB]
  have HB := hide hB
  clear hB
  go_loopw [5] (fun iv wr => ∃ (k : Nat) (t : Int × Int), iv = .int .i64 (k : Int) ∧ k ≤ L.length ∧ In t.1 ∧ In t.2 ∧ Hid (sm t (L.drop k) = (X, Y, Z)) ∧ Ft w wr B t.1 t.2) (fun iv _ => L.length - (intOf iv).toNat)
  case atStart =>
    refine ⟨0, (0, 1), rfl, by omega, by unfold In; omega, by unfold In; omega, HS, ?_⟩
    have hB := unhide HB
    subst hB
    refine ⟨by repeat (first | apply keep_ext | apply Keep.alloc | exact Keep.refl _), ?_, ?_, ?_, ?_, ?_, ?_, ?_, ?_, ?_, ?_, ?_⟩ <;> simp [go_sem]
  case round =>
    obtain ⟨k, t, rfl, hk, ht1, ht2, HI, hft⟩ := hrel
    by_cases hlt : k < L.length
    · have hq := (hF.keep hft.1) k hlt
      have CK : ∀ w', Keep wr w' → (w'.cell? ⟨B, 0, none⟩ = some (.int .i64 t.1) ∧ w'.cell? ⟨B, 1, none⟩ = some (.int .i64 t.2) ∧ w'.cell? (ad.add (k * 2)) = some (.int .i64 (L.getD k (0, 0)).1) ∧ w'.cell? ⟨(ad.add (k * 2)).block, (ad.add (k * 2)).off + 1, none⟩ = some (.int .i64 (L.getD k (0, 0)).2)) := by
        intro w' hk'
        have f := hft.keep hk'
        have g := (hF.keep (hft.1.trans hk')) k hlt
        exact ⟨f.2.2.2.2.1, f.2.2.2.2.2.1, g.2.2.2.1, g.2.2.2.2⟩
      have ADk := hide (unhide AD t (L.getD k (0, 0)) ht1 ht2 hq.2.1 hq.2.2.1)
      have sy := sm_yes (t := t) hlt
      have sn := sm_no (t := t) hlt
      have xi : In (adX t (L.getD k (0, 0))) := pN_in _ _
      have yi : In (adY t (L.getD k (0, 0))) := pD_in _ _
      clear hq
      generalize adX t (L.getD k (0, 0)) = ax at *
      generalize adY t (L.getD k (0, 0)) = ay at *
      generalize adE t (L.getD k (0, 0)) = ae at *
      generalize (L.getD k (0, 0)).1 = fx at *
      generalize (L.getD k (0, 0)).2 = fy at *
      obtain ⟨tx, ty⟩ := t
      simp only at *
      have CKH := hide CK
      have SY := hide sy
      have SN := hide sn
      have HFT := hide hft
      have hlc : ((k : Int) < (L.length : Int)) := by omega
      have hlz : ((0 : Int) ≤ (k : Int)) := by omega
      clear CK sy sn hft ht1 ht2
      go_upto_region 5 with fail
      go_cut [6, 7] (fun s6 s7 wc => ∃ T, s6 = .pointer (some ⟨T, 0, none⟩) ∧ s7 = .int .i64 ae ∧ T < wc.heap.size ∧ wr.heap.size ≤ T ∧ wc.cell? ⟨T, 0, none⟩ = some (.int .i64 ax) ∧ wc.cell? ⟨T, 1, none⟩ = some (.int .i64 ay) ∧ Keep wr wc)
      case first =>
        refine wp_region_held_drew (S := (fun w' => w'.cell? ⟨B, 0, none⟩ = some (.int .i64 tx) ∧ w'.cell? ⟨B, 1, none⟩ = some (.int .i64 ty) ∧ w'.cell? (ad.add (k * 2)) = some (.int .i64 fx) ∧ w'.cell? ⟨(ad.add (k * 2)).block, (ad.add (k * 2)).off + 1, none⟩ = some (.int .i64 fy))) (by kernel_rfl) (by exact unhide CKH _ ((Keep.refl _).drew)) (fun hHeld => ?_)
        refine wpAnyH_take (i := 0) (v := ?_) rfl (by kernel_rfl) (by kernel_rfl) (by kernel_rfl) (fun _ _ _ h => h) (Or.inl ⟨by rfl, ?_⟩) hHeld ?_
        rotate_left
        · intro w hSw
          try dsimp only at hSw
          go_simp
          try with_reducible rfl
        show wpAnyH _ _ _ _ _ _ _ (Act.put _ (some 16) _) _
        try simp only [Act.put, List.setIfInBounds_toArray, List.set_cons_zero, List.set_cons_succ]
        refine wpAnyH_take (i := 1) (v := ?_) rfl (by kernel_rfl) (by kernel_rfl) (by kernel_rfl) (fun _ _ _ h => h) (Or.inl ⟨by rfl, ?_⟩) hHeld ?_
        rotate_left
        · intro w hSw
          try dsimp only at hSw
          go_simp
          try with_reducible rfl
        show wpAnyH _ _ _ _ _ _ _ (Act.put _ (some 17) _) _
        try simp only [Act.put, List.setIfInBounds_toArray, List.set_cons_zero, List.set_cons_succ]
        refine wpAnyH_take (i := 2) (v := ?_) rfl (by kernel_rfl) (by kernel_rfl) (by kernel_rfl) (fun _ _ _ h => h) (Or.inl ⟨by rfl, ?_⟩) hHeld ?_
        rotate_left
        · intro w hSw
          try dsimp only at hSw
          go_simp
          try with_reducible rfl
        show wpAnyH _ _ _ _ _ _ _ (Act.put _ (some 18) _) _
        try simp only [Act.put, List.setIfInBounds_toArray, List.set_cons_zero, List.set_cons_succ]
        refine wpAnyH_take (i := 3) (v := ?_) rfl (by kernel_rfl) (by kernel_rfl) (by kernel_rfl) (fun _ _ _ h => h) (Or.inl ⟨by rfl, ?_⟩) hHeld ?_
        rotate_left
        · intro w hSw
          try dsimp only at hSw
          go_simp
          try with_reducible rfl
        show wpAnyH _ _ _ _ _ _ _ (Act.put _ (some 19) _) _
        try simp only [Act.put, List.setIfInBounds_toArray, List.set_cons_zero, List.set_cons_succ]
        refine wpAnyH_take (i := 4) (v := ?_) rfl (by kernel_rfl) (by kernel_rfl) (by kernel_rfl) (fun _ _ _ h => h) (Or.inl ⟨by rfl, ?_⟩) hHeld ?_
        rotate_left
        · intro w hSw
          try dsimp only at hSw
          go_simp
          try with_reducible rfl
        show wpAnyH _ _ _ _ _ _ _ (Act.put _ (some 20) _) _
        try simp only [Act.put, List.setIfInBounds_toArray, List.set_cons_zero, List.set_cons_succ]
        refine wpAnyH_ready (rs := [5, 9]) (by kernel_rfl) (by simp) ?_
        refine AllReadyH.cons rfl (fun K hK => ?_) (AllReadyH.cons rfl (fun K hK => ?_) AllReadyH.nil)
        · skip
          go_simp
          clear hHeld
          (refine ((unhide ADk) _).mono ?_; rintro e w2 ⟨rfl, hk2⟩; obtain ⟨o2, k2, rfl⟩ := hk2.ext; clear hk2)
          try go_wp2_with fail
          refine hK.out _ _ ?_ (fun hHeld => ?_)
          · exact unhide CKH _ (by repeat (first | apply keep_ext | apply Keep.alloc | apply Keep.drew | exact Keep.refl _))
          clear hK K
          try simp only [Act.put, List.setIfInBounds_toArray, List.set_cons_zero, List.set_cons_succ]
          refine wpAnyH_take (i := 6) (v := ?_) rfl (by kernel_rfl) (by kernel_rfl) (by kernel_rfl) (fun _ _ _ h => h) (Or.inl ⟨by rfl, ?_⟩) hHeld ?_
          rotate_left
          · intro w hSw
            try dsimp only at hSw
            go_simp
            try with_reducible rfl
          show wpAnyH _ _ _ _ _ _ _ (Act.put _ (some 15) _) _
          try simp only [Act.put, List.setIfInBounds_toArray, List.set_cons_zero, List.set_cons_succ]
          refine wpAnyH_take (i := 7) (v := ?_) rfl (by kernel_rfl) (by kernel_rfl) (by kernel_rfl) (fun _ _ _ h => h) (Or.inl ⟨by rfl, ?_⟩) hHeld ?_
          rotate_left
          · intro w hSw
            try dsimp only at hSw
            go_simp
            try with_reducible rfl
          show wpAnyH _ _ _ _ _ _ _ (Act.put _ (some 22) _) _
          try simp only [Act.put, List.setIfInBounds_toArray, List.set_cons_zero, List.set_cons_succ]
          refine wpAnyH_take (i := 8) (v := ?_) rfl (by kernel_rfl) (by kernel_rfl) (by kernel_rfl) (fun _ _ _ h => h) (Or.inl ⟨by rfl, ?_⟩) hHeld ?_
          rotate_left
          · intro w hSw
            try dsimp only at hSw
            go_simp
            try with_reducible rfl
          show wpAnyH _ _ _ _ _ _ _ (Act.put _ (some 23) _) _
          try simp only [Act.put, List.setIfInBounds_toArray, List.set_cons_zero, List.set_cons_succ]
          refine wpAnyH_ready (rs := [9]) (by kernel_rfl) (by simp) ?_
          refine AllReadyH.cons rfl (fun K hK => ?_) AllReadyH.nil
          go_simp
          clear hHeld
          refine hK.out _ _ ?_ (fun hHeld => ?_)
          · exact unhide CKH _ (by repeat (first | apply keep_ext | apply Keep.alloc | apply Keep.drew | exact Keep.refl _))
          clear hK K
          try simp only [Act.put, List.setIfInBounds_toArray, List.set_cons_zero, List.set_cons_succ]
          refine wpAnyH_ready (rs := [10]) (by kernel_rfl) (by simp) ?_
          refine AllReadyH.cons rfl (fun K hK => ?_) AllReadyH.nil
          go_simp
          clear hHeld
          refine hK.out _ _ ?_ (fun hHeld => ?_)
          · exact unhide CKH _ (by repeat (first | apply keep_ext | apply Keep.alloc | apply Keep.drew | exact Keep.refl _))
          clear hK K
          try simp only [Act.put, List.setIfInBounds_toArray, List.set_cons_zero, List.set_cons_succ]
          refine wpAnyH_take (i := 11) (v := ?_) rfl (by kernel_rfl) (by kernel_rfl) (by kernel_rfl) (fun _ _ _ h => h) (Or.inl ⟨by rfl, ?_⟩) hHeld ?_
          rotate_left
          · intro w hSw
            try dsimp only at hSw
            go_simp
            try with_reducible rfl
          show wpAnyH _ _ _ _ _ _ _ (Act.put _ (some 7) _) _
          try simp only [Act.put, List.setIfInBounds_toArray, List.set_cons_zero, List.set_cons_succ]
          refine wpAnyH_done (by kernel_rfl) ?_ _
          clear hHeld
          go_wp2_with fail
          go_meet
          exact ⟨_, rfl, rfl, by simp <;> omega, by simp <;> omega, by simp [go_sem], by simp [go_sem], by repeat (first | apply keep_ext | apply Keep.alloc | apply Keep.drew | exact Keep.refl _)⟩
        · skip
          go_simp
          clear hHeld
          refine hK.out _ _ ?_ (fun hHeld => ?_)
          · exact unhide CKH _ (by repeat (first | apply keep_ext | apply Keep.alloc | apply Keep.drew | exact Keep.refl _))
          clear hK K
          try simp only [Act.put, List.setIfInBounds_toArray, List.set_cons_zero, List.set_cons_succ]
          refine wpAnyH_ready (rs := [5]) (by kernel_rfl) (by simp) ?_
          refine AllReadyH.cons rfl (fun K hK => ?_) AllReadyH.nil
          go_simp
          clear hHeld
          (refine ((unhide ADk) _).mono ?_; rintro e w2 ⟨rfl, hk2⟩; obtain ⟨o2, k2, rfl⟩ := hk2.ext; clear hk2)
          try go_wp2_with fail
          refine hK.out _ _ ?_ (fun hHeld => ?_)
          · exact unhide CKH _ (by repeat (first | apply keep_ext | apply Keep.alloc | apply Keep.drew | exact Keep.refl _))
          clear hK K
          try simp only [Act.put, List.setIfInBounds_toArray, List.set_cons_zero, List.set_cons_succ]
          refine wpAnyH_take (i := 6) (v := ?_) rfl (by kernel_rfl) (by kernel_rfl) (by kernel_rfl) (fun _ _ _ h => h) (Or.inl ⟨by rfl, ?_⟩) hHeld ?_
          rotate_left
          · intro w hSw
            try dsimp only at hSw
            go_simp
            try with_reducible rfl
          show wpAnyH _ _ _ _ _ _ _ (Act.put _ (some 15) _) _
          try simp only [Act.put, List.setIfInBounds_toArray, List.set_cons_zero, List.set_cons_succ]
          refine wpAnyH_take (i := 7) (v := ?_) rfl (by kernel_rfl) (by kernel_rfl) (by kernel_rfl) (fun _ _ _ h => h) (Or.inl ⟨by rfl, ?_⟩) hHeld ?_
          rotate_left
          · intro w hSw
            try dsimp only at hSw
            go_simp
            try with_reducible rfl
          show wpAnyH _ _ _ _ _ _ _ (Act.put _ (some 22) _) _
          try simp only [Act.put, List.setIfInBounds_toArray, List.set_cons_zero, List.set_cons_succ]
          refine wpAnyH_take (i := 8) (v := ?_) rfl (by kernel_rfl) (by kernel_rfl) (by kernel_rfl) (fun _ _ _ h => h) (Or.inl ⟨by rfl, ?_⟩) hHeld ?_
          rotate_left
          · intro w hSw
            try dsimp only at hSw
            go_simp
            try with_reducible rfl
          show wpAnyH _ _ _ _ _ _ _ (Act.put _ (some 23) _) _
          try simp only [Act.put, List.setIfInBounds_toArray, List.set_cons_zero, List.set_cons_succ]
          refine wpAnyH_ready (rs := [10]) (by kernel_rfl) (by simp) ?_
          refine AllReadyH.cons rfl (fun K hK => ?_) AllReadyH.nil
          go_simp
          clear hHeld
          refine hK.out _ _ ?_ (fun hHeld => ?_)
          · exact unhide CKH _ (by repeat (first | apply keep_ext | apply Keep.alloc | apply Keep.drew | exact Keep.refl _))
          clear hK K
          try simp only [Act.put, List.setIfInBounds_toArray, List.set_cons_zero, List.set_cons_succ]
          refine wpAnyH_take (i := 11) (v := ?_) rfl (by kernel_rfl) (by kernel_rfl) (by kernel_rfl) (fun _ _ _ h => h) (Or.inl ⟨by rfl, ?_⟩) hHeld ?_
          rotate_left
          · intro w hSw
            try dsimp only at hSw
            go_simp
            try with_reducible rfl
          show wpAnyH _ _ _ _ _ _ _ (Act.put _ (some 7) _) _
          try simp only [Act.put, List.setIfInBounds_toArray, List.set_cons_zero, List.set_cons_succ]
          refine wpAnyH_done (by kernel_rfl) ?_ _
          clear hHeld
          go_wp2_with fail
          go_meet
          exact ⟨_, rfl, rfl, by simp <;> omega, by simp <;> omega, by simp [go_sem], by simp [go_sem], by repeat (first | apply keep_ext | apply Keep.alloc | apply Keep.drew | exact Keep.refl _)⟩
      case rest =>
        obtain ⟨T, hs6, hs7, hT1, hT2, m0, m1, hkc⟩ := hcut
        subst hs6 hs7
        have hfc := (unhide HFT).keep hkc
        have HFC := hide hfc
        obtain ⟨h1, h2, h3, h4, c0, c1, z0, z1, r0, r1, y0, y1⟩ := hfc
        have h1' := hide h1
        clear hkc h1
        by_cases he : ae = 0
        · subst he
          have HN : Hid (sm (ax, ay) (L.drop (k + 1)) = (X, Y, Z)) := by rw [← unhide SY rfl]; exact HI
          have HFN := hide ((unhide HFC).set ax ay)
          clear SY SN HI
          go_wp2_with fail
          go_roundw
          case rel => exact ⟨k + 1, (ax, ay), by go_num, by omega, xi, yi, HN, unhide HFN⟩
          case measure => simp [intOf]; omega
        · have hz := unhide SN he
          rw [unhide HI] at hz
          simp only [Prod.mk.injEq] at hz
          obtain ⟨rfl, rfl, rfl⟩ := hz
          have heb : (Z == 0) = false := by simpa using he
          have hec : (Z != 0) = true := by simpa using he
          clear SY SN HI
          go_wp2_with fail
          exact bodyPost_ret (v := .tuple #[.agg #[.int .i64 0, .int .i64 0], .int .i64 Z]) (by simp [results, Tryd.results32, go_sem, r0, r1, h2]) rfl ⟨rfl, by repeat (first | exact unhide h1' | apply keep_ext | apply Keep.alloc | apply Keep.drew | (refine keep_set0 _ _ ?_))⟩
    · have hz := sm_end (t := t) (show L.length ≤ k by omega)
      rw [unhide HI] at hz
      simp only [Prod.mk.injEq] at hz
      obtain ⟨rfl, rfl, rfl⟩ := hz
      obtain ⟨h1, h2, h3, h4, c0, c1, z0, z1, r0, r1, y0, y1⟩ := hft
      obtain ⟨tx, ty⟩ := t
      simp only at *
      have hlc : ¬ ((k : Int) < (L.length : Int)) := by omega
      have h1' := hide h1
      clear HI h1
      go_wp2_with fail
      exact bodyPost_ret (v := .tuple #[.agg #[.int .i64 tx, .int .i64 ty], .int .i64 0]) (by simp [results, Tryd.results32, go_sem, r0, r1, h2]) rfl ⟨rfl, by repeat (first | exact unhide h1' | apply keep_ext | apply Keep.alloc | apply Keep.drew | (refine keep_set0 _ _ ?_))⟩
end Go.Proofs.YtnfhkgdgkfanhaaDoor
