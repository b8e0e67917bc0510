/- Package circle: the iterator over the ticks that two rows of pieces share. -/
import Derived.Test.YtilafaljlhgbmaaCVal
namespace Go.Proofs.Ytilafaljlhgbmaa
open Go.RowKit Go.Shelf
attribute [local go_sem] Oper.semAt_some
attribute [local go_sem ↓] Go.wp_at_zero Go.wp_at_succ
set_option linter.unusedVariables false
set_option linter.unusedSimpArgs false
theorem drop_getD {L : List Pr} {k : Nat} (h : k < L.length) : L.drop k = L.getD k (0, 0) :: L.drop (k + 1) := by
  rw [List.drop_eq_getElem_cons h, List.getD_eq_getElem?_getD, List.getElem?_eq_getElem h]
  rfl
set_option maxRecDepth 100000 in
set_option maxHeartbeats 4000000 in
theorem common1_in (n : Nat) (l Bl Bm n₀ : Nat) (vl vm : Value) (A B : List Pr) (hA : Pcs A) (hB : Pcs B) (J Jx : List Pc → World → Prop)
    (W : World) (hJ : AbidesFrom W.heap.size J)
    (hY : ∀ pre x W1, J pre W1 → pre.length < (cmn A B).length → YieldAt Fence.wide (n - 1) Try.prog l (ev x) W1 fun e W' =>
      (e = .returned (.bool true) ∧ J (pre ++ [x]) W' ∧ Below n₀ W1 W') ∨ (e = .returned (.bool false) ∧ Jx (pre ++ [x]) W'))
    (hn : n₀ ≤ W.heap.size) (hbl : Bl < n₀) (hbm : Bm < n₀) (hBl : W.cell? ⟨Bl, 0, none⟩ = some vl) (hBm : W.cell? ⟨Bm, 0, none⟩ = some vm) (hRa : Rb n₀ W vl A) (hRb : Rb n₀ W vm B) (hla : A.length ≤ 100000) (hlb : B.length ≤ 100000) (h0 : J [] W) :
    CallsIn Fence.wide n Try.prog 50 #[.func (.yield l) #[] #[], .pointer (some ⟨Bl, 0, none⟩), .pointer (some ⟨Bm, 0, none⟩)] W fun e W' => (∃ v, e = .returned v) ∧
      ((∃ ys, vals ys = cmn A B ∧ J ys W') ∨ (∃ pre, True ∧ Jx pre W')) := by
  obtain ⟨a, cap, rfl, hcap, hc⟩ := hRa
  obtain ⟨a', cap', rfl, hcap', hc'⟩ := hRb
  have HC := hide hc
  have HC' := hide hc'
  clear hc hc'
  refine callsIn_of_wp Try.func50 rfl trivial ?_ rfl
  simp only [Try.ntmps50, List.size_toArray, List.length_cons, List.length_nil, Nat.reduceAdd, Nat.reduceSub, Array.replicate_succ, Array.replicate_zero, List.push_toArray, List.append_toArray, List.nil_append, List.cons_append]
  gi_wp2
  gi_loopw [4, 5] (fun vi vj wr => ∃ (i j : Nat) (pre : List Pc), i ≤ A.length ∧ j ≤ B.length ∧ vi = .int .i64 i ∧ vj = .int .i64 j ∧ Hid (vals pre ++ cmn (A.drop i) (B.drop j) = cmn A B) ∧ J pre wr ∧ Below n₀ W wr ∧ W.heap.size ≤ wr.heap.size)
    (fun vi vj _ => (A.length - (intOf vi).toNat) + (B.length - (intOf vj).toNat))
  case atStart => exact ⟨0, 0, [], Nat.zero_le _, Nat.zero_le _, rfl, rfl, hide (by simp [vals]), h0, Below.refl _ _, Nat.le_refl _⟩
  case round =>
    obtain ⟨i, j, pre, hi, hj, rfl, rfl, HV, hJs, hnx, hsz⟩ := hrel
    have cl : wr.cell? ⟨Bl, 0, none⟩ = some (.slice a A.length cap) := (Below.cell (p := ⟨Bl, 0, none⟩) hnx hbl).trans hBl
    have cm : wr.cell? ⟨Bm, 0, none⟩ = some (.slice a' B.length cap') := (Below.cell (p := ⟨Bm, 0, none⟩) hnx hbm).trans hBm
    by_cases hlt : i < A.length
    · by_cases hlt' : j < B.length
      · obtain ⟨ad, rfl, hb, hin, c0, c1⟩ := (unhide HC) i hlt
        obtain ⟨ad', rfl, hb', hin', c0', c1'⟩ := (unhide HC') j hlt'
        rw [← Below.cell hnx (by rw [add_block]; exact hb)] at c0
        rw [← Below.cell (p := ⟨(ad.add (i * 2)).block, (ad.add (i * 2)).off + 1, none⟩) hnx (by show (ad.add (i * 2)).block < _; rw [add_block]; exact hb)] at c1
        rw [← Below.cell hnx (by rw [add_block]; exact hb')] at c0'
        rw [← Below.cell (p := ⟨(ad'.add (j * 2)).block, (ad'.add (j * 2)).off + 1, none⟩) hnx (by show (ad'.add (j * 2)).block < _; rw [add_block]; exact hb')] at c1'
        have hx := hA _ (getD_mem hlt)
        have hx' := hB _ (getD_mem hlt')
        have ht := drop_getD hlt
        have ht' := drop_getD hlt'
        generalize A.getD i (0, 0) = p at *
        generalize B.getD j (0, 0) = p' at *
        obtain ⟨x, y⟩ := p
        obtain ⟨x', y'⟩ := p'
        simp only at *
        have HS : Hid (∀ W', Below n₀ wr W' → W'.cell? ⟨Bl, 0, none⟩ = some (.slice (some ad) A.length cap) ∧ W'.cell? ⟨Bm, 0, none⟩ = some (.slice (some ad') B.length cap') ∧ W'.cell? (ad.add (i * 2)) = some (.int .i64 x) ∧ W'.cell? ⟨(ad.add (i * 2)).block, (ad.add (i * 2)).off + 1, none⟩ = some (.int .i64 y) ∧ W'.cell? (ad'.add (j * 2)) = some (.int .i64 x') ∧ W'.cell? ⟨(ad'.add (j * 2)).block, (ad'.add (j * 2)).off + 1, none⟩ = some (.int .i64 y')) := by
          intro W' hk
          refine ⟨?_, ?_, ?_, ?_, ?_, ?_⟩
          · rw [Below.cell (p := ⟨Bl, 0, none⟩) hk hbl]; exact cl
          · rw [Below.cell (p := ⟨Bm, 0, none⟩) hk hbm]; exact cm
          · rw [Below.cell hk (by rw [add_block]; assumption)]; exact c0
          · rw [Below.cell (p := ⟨(ad.add (i * 2)).block, (ad.add (i * 2)).off + 1, none⟩) hk (by show (ad.add (i * 2)).block < _; rw [add_block]; assumption)]; exact c1
          · rw [Below.cell hk (by rw [add_block]; assumption)]; exact c0'
          · rw [Below.cell (p := ⟨(ad'.add (j * 2)).block, (ad'.add (j * 2)).off + 1, none⟩) hk (by show (ad'.add (j * 2)).block < _; rw [add_block]; assumption)]; exact c1'
        have hnw : n₀ ≤ wr.heap.size := by omega
        have li : (i : Int) < (A.length : Int) := by omega
        have lj : (j : Int) < (B.length : Int) := by omega
        gi_wp2_with fail
        refine wpIn_drawn ?_
        refine wp_region_held_drew (S := fun W' => W'.cell? ⟨Bl, 0, none⟩ = some (.slice (some ad) A.length cap) ∧ W'.cell? ⟨Bm, 0, none⟩ = some (.slice (some ad') B.length cap') ∧ W'.cell? (ad.add (i * 2)) = some (.int .i64 x) ∧ W'.cell? ⟨(ad.add (i * 2)).block, (ad.add (i * 2)).off + 1, none⟩ = some (.int .i64 y) ∧ W'.cell? (ad'.add (j * 2)) = some (.int .i64 x') ∧ W'.cell? ⟨(ad'.add (j * 2)).block, (ad'.add (j * 2)).off + 1, none⟩ = some (.int .i64 y')) (by kernel_rfl) (by exact (unhide HS) _ (Below.drew (Below.refl _ _))) (fun hHeld => ?_)
        refine wpAnyH_take (i := 0) (v := ?_) rfl (by kernel_rfl) (by kernel_rfl) (by kernel_rfl) (fun _ _ _ h => h) (Or.inl ⟨by rfl, ?_⟩) hHeld ?_
        rotate_left
        · intro w hSw
          try dsimp only at hSw
          go_simp
          try with_reducible rfl
        show wpAnyH _ _ _ _ _ _ _ (Act.put _ (some 17) _) _
        try simp only [Act.put, List.setIfInBounds_toArray, List.set_cons_zero, List.set_cons_succ]
        refine wpAnyH_take (i := 1) (v := ?_) rfl (by kernel_rfl) (by kernel_rfl) (by kernel_rfl) (fun _ _ _ h => h) (Or.inl ⟨by rfl, ?_⟩) hHeld ?_
        rotate_left
        · intro w hSw
          try dsimp only at hSw
          go_simp
          try with_reducible rfl
        show wpAnyH _ _ _ _ _ _ _ (Act.put _ (some 18) _) _
        try simp only [Act.put, List.setIfInBounds_toArray, List.set_cons_zero, List.set_cons_succ]
        refine wpAnyH_take (i := 2) (v := ?_) rfl (by kernel_rfl) (by kernel_rfl) (by kernel_rfl) (fun _ _ _ h => h) (Or.inl ⟨by rfl, ?_⟩) hHeld ?_
        rotate_left
        · intro w hSw
          try dsimp only at hSw
          go_simp
          try with_reducible rfl
        show wpAnyH _ _ _ _ _ _ _ (Act.put _ (some 19) _) _
        try simp only [Act.put, List.setIfInBounds_toArray, List.set_cons_zero, List.set_cons_succ]
        refine wpAnyH_take (i := 3) (v := ?_) rfl (by kernel_rfl) (by kernel_rfl) (by kernel_rfl) (fun _ _ _ h => h) (Or.inl ⟨by rfl, ?_⟩) hHeld ?_
        rotate_left
        · intro w hSw
          try dsimp only at hSw
          go_simp
          try with_reducible rfl
        show wpAnyH _ _ _ _ _ _ _ (Act.put _ (some 20) _) _
        try simp only [Act.put, List.setIfInBounds_toArray, List.set_cons_zero, List.set_cons_succ]
        refine wpAnyH_take (i := 4) (v := ?_) rfl (by kernel_rfl) (by kernel_rfl) (by kernel_rfl) (fun _ _ _ h => h) (Or.inl ⟨by rfl, ?_⟩) hHeld ?_
        rotate_left
        · intro w hSw
          try dsimp only at hSw
          go_simp
          try with_reducible rfl
        show wpAnyH _ _ _ _ _ _ _ (Act.put _ (some 21) _) _
        try simp only [Act.put, List.setIfInBounds_toArray, List.set_cons_zero, List.set_cons_succ]
        refine wpAnyH_take (i := 5) (v := ?_) rfl (by kernel_rfl) (by kernel_rfl) (by kernel_rfl) (fun _ _ _ h => h) (Or.inl ⟨by rfl, ?_⟩) hHeld ?_
        rotate_left
        · intro w hSw
          try dsimp only at hSw
          go_simp
          try with_reducible rfl
        show wpAnyH _ _ _ _ _ _ _ (Act.put _ (some 22) _) _
        try simp only [Act.put, List.setIfInBounds_toArray, List.set_cons_zero, List.set_cons_succ]
        refine wpAnyH_take (i := 6) (v := ?_) rfl (by kernel_rfl) (by kernel_rfl) (by kernel_rfl) (fun _ _ _ h => h) (Or.inl ⟨by rfl, ?_⟩) hHeld ?_
        rotate_left
        · intro w hSw
          try dsimp only at hSw
          go_simp
          try with_reducible rfl
        show wpAnyH _ _ _ _ _ _ _ (Act.put _ (some 23) _) _
        try simp only [Act.put, List.setIfInBounds_toArray, List.set_cons_zero, List.set_cons_succ]
        refine wpAnyH_take (i := 7) (v := ?_) rfl (by kernel_rfl) (by kernel_rfl) (by kernel_rfl) (fun _ _ _ h => h) (Or.inl ⟨by rfl, ?_⟩) hHeld ?_
        rotate_left
        · intro w hSw
          try dsimp only at hSw
          go_simp
          try with_reducible rfl
        show wpAnyH _ _ _ _ _ _ _ (Act.put _ (some 24) _) _
        try simp only [Act.put, List.setIfInBounds_toArray, List.set_cons_zero, List.set_cons_succ]
        refine wpAnyH_take (i := 8) (v := ?_) rfl (by kernel_rfl) (by kernel_rfl) (by kernel_rfl) (fun _ _ _ h => h) (Or.inl ⟨by rfl, ?_⟩) hHeld ?_
        rotate_left
        · intro w hSw
          try dsimp only at hSw
          go_simp
          try with_reducible rfl
        show wpAnyH _ _ _ _ _ _ _ (Act.put _ (some 25) _) _
        try simp only [Act.put, List.setIfInBounds_toArray, List.set_cons_zero, List.set_cons_succ]
        refine wpAnyH_take (i := 9) (v := ?_) rfl (by kernel_rfl) (by kernel_rfl) (by kernel_rfl) (fun _ _ _ h => h) (Or.inl ⟨by rfl, ?_⟩) hHeld ?_
        rotate_left
        · intro w hSw
          try dsimp only at hSw
          go_simp
          try with_reducible rfl
        show wpAnyH _ _ _ _ _ _ _ (Act.put _ (some 26) _) _
        try simp only [Act.put, List.setIfInBounds_toArray, List.set_cons_zero, List.set_cons_succ]
        refine wpAnyH_take (i := 10) (v := ?_) rfl (by kernel_rfl) (by kernel_rfl) (by kernel_rfl) (fun _ _ _ h => h) (Or.inl ⟨by rfl, ?_⟩) hHeld ?_
        rotate_left
        · intro w hSw
          try dsimp only at hSw
          go_simp
          try with_reducible rfl
        show wpAnyH _ _ _ _ _ _ _ (Act.put _ (some 27) _) _
        try simp only [Act.put, List.setIfInBounds_toArray, List.set_cons_zero, List.set_cons_succ]
        refine wpAnyH_take (i := 11) (v := ?_) rfl (by kernel_rfl) (by kernel_rfl) (by kernel_rfl) (fun _ _ _ h => h) (Or.inl ⟨by rfl, ?_⟩) hHeld ?_
        rotate_left
        · intro w hSw
          try dsimp only at hSw
          go_simp
          try with_reducible rfl
        show wpAnyH _ _ _ _ _ _ _ (Act.put _ (some 28) _) _
        try simp only [Act.put, List.setIfInBounds_toArray, List.set_cons_zero, List.set_cons_succ]
        refine wpAnyH_take (i := 12) (v := ?_) rfl (by kernel_rfl) (by kernel_rfl) (by kernel_rfl) (fun _ _ _ h => h) (Or.inl ⟨by rfl, ?_⟩) hHeld ?_
        rotate_left
        · intro w hSw
          try dsimp only at hSw
          go_simp
          try with_reducible rfl
        show wpAnyH _ _ _ _ _ _ _ (Act.put _ (some 29) _) _
        try simp only [Act.put, List.setIfInBounds_toArray, List.set_cons_zero, List.set_cons_succ]
        refine wpAnyH_take (i := 13) (v := ?_) rfl (by kernel_rfl) (by kernel_rfl) (by kernel_rfl) (fun _ _ _ h => h) (Or.inl ⟨by rfl, ?_⟩) hHeld ?_
        rotate_left
        · intro w hSw
          try dsimp only at hSw
          go_simp
          try with_reducible rfl
        show wpAnyH _ _ _ _ _ _ _ (Act.put _ (some 30) _) _
        try simp only [Act.put, List.setIfInBounds_toArray, List.set_cons_zero, List.set_cons_succ]
        refine wpAnyH_take (i := 14) (v := ?_) rfl (by kernel_rfl) (by kernel_rfl) (by kernel_rfl) (fun _ _ _ h => h) (Or.inl ⟨by rfl, ?_⟩) hHeld ?_
        rotate_left
        · intro w hSw
          try dsimp only at hSw
          go_simp
          try with_reducible rfl
        show wpAnyH _ _ _ _ _ _ _ (Act.put _ (some 31) _) _
        try simp only [Act.put, List.setIfInBounds_toArray, List.set_cons_zero, List.set_cons_succ]
        refine wpAnyH_take (i := 15) (v := ?_) rfl (by kernel_rfl) (by kernel_rfl) (by kernel_rfl) (fun _ _ _ h => h) (Or.inl ⟨by rfl, ?_⟩) hHeld ?_
        rotate_left
        · intro w hSw
          try dsimp only at hSw
          go_simp
          try with_reducible rfl
        show wpAnyH _ _ _ _ _ _ _ (Act.put _ (some 32) _) _
        try simp only [Act.put, List.setIfInBounds_toArray, List.set_cons_zero, List.set_cons_succ]
        refine wpAnyH_take (i := 16) (v := ?_) rfl (by kernel_rfl) (by kernel_rfl) (by kernel_rfl) (fun _ _ _ h => h) (Or.inl ⟨by rfl, ?_⟩) hHeld ?_
        rotate_left
        · intro w hSw
          try dsimp only at hSw
          go_simp
          try with_reducible rfl
        show wpAnyH _ _ _ _ _ _ _ (Act.put _ (some 33) _) _
        try simp only [Act.put, List.setIfInBounds_toArray, List.set_cons_zero, List.set_cons_succ]
        refine wpAnyH_take (i := 17) (v := ?_) rfl (by kernel_rfl) (by kernel_rfl) (by kernel_rfl) (fun _ _ _ h => h) (Or.inl ⟨by rfl, ?_⟩) hHeld ?_
        rotate_left
        · intro w hSw
          try dsimp only at hSw
          go_simp
          try with_reducible rfl
        show wpAnyH _ _ _ _ _ _ _ (Act.put _ (some 34) _) _
        try simp only [Act.put, List.setIfInBounds_toArray, List.set_cons_zero, List.set_cons_succ]
        refine wpAnyH_take (i := 18) (v := ?_) rfl (by kernel_rfl) (by kernel_rfl) (by kernel_rfl) (fun _ _ _ h => h) (Or.inl ⟨by rfl, ?_⟩) hHeld ?_
        rotate_left
        · intro w hSw
          try dsimp only at hSw
          go_simp
          try with_reducible rfl
        show wpAnyH _ _ _ _ _ _ _ (Act.put _ (some 35) _) _
        try simp only [Act.put, List.setIfInBounds_toArray, List.set_cons_zero, List.set_cons_succ]
        refine wpAnyH_take (i := 19) (v := ?_) rfl (by kernel_rfl) (by kernel_rfl) (by kernel_rfl) (fun _ _ _ h => h) (Or.inl ⟨by rfl, ?_⟩) hHeld ?_
        rotate_left
        · intro w hSw
          try dsimp only at hSw
          go_simp
          try with_reducible rfl
        show wpAnyH _ _ _ _ _ _ _ (Act.put _ (some 36) _) _
        try simp only [Act.put, List.setIfInBounds_toArray, List.set_cons_zero, List.set_cons_succ]
        refine wpAnyH_take (i := 20) (v := ?_) rfl (by kernel_rfl) (by kernel_rfl) (by kernel_rfl) (fun _ _ _ h => h) (Or.inl ⟨by rfl, ?_⟩) hHeld ?_
        rotate_left
        · intro w hSw
          try dsimp only at hSw
          go_simp
          try with_reducible rfl
        show wpAnyH _ _ _ _ _ _ _ (Act.put _ (some 37) _) _
        try simp only [Act.put, List.setIfInBounds_toArray, List.set_cons_zero, List.set_cons_succ]
        refine wpAnyH_take (i := 21) (v := ?_) rfl (by kernel_rfl) (by kernel_rfl) (by kernel_rfl) (fun _ _ _ h => h) (Or.inl ⟨by rfl, ?_⟩) hHeld ?_
        rotate_left
        · intro w hSw
          try dsimp only at hSw
          go_simp
          try with_reducible rfl
        show wpAnyH _ _ _ _ _ _ _ (Act.put _ (some 38) _) _
        try simp only [Act.put, List.setIfInBounds_toArray, List.set_cons_zero, List.set_cons_succ]
        refine wpAnyH_take (i := 22) (v := ?_) rfl (by kernel_rfl) (by kernel_rfl) (by kernel_rfl) (fun _ _ _ h => h) (Or.inl ⟨by rfl, ?_⟩) hHeld ?_
        rotate_left
        · intro w hSw
          try dsimp only at hSw
          go_simp
          try with_reducible rfl
        show wpAnyH _ _ _ _ _ _ _ (Act.put _ (some 39) _) _
        try simp only [Act.put, List.setIfInBounds_toArray, List.set_cons_zero, List.set_cons_succ]
        refine wpAnyH_ready (rs := [23]) (by kernel_rfl) (by simp) ?_
        refine AllReadyH.cons rfl (fun K hK => ?_) AllReadyH.nil
        go_simp
        clear hHeld
        refine hK.out _ _ ?_ (fun hHeld => ?_)
        · exact (unhide HS) _ (Below.mono (show Keep wr _ by repeat (first | apply Keep.alloc | apply Keep.drew | exact Keep.refl _)) hnw)
        clear hK K
        try simp only [Act.put, List.setIfInBounds_toArray, List.set_cons_zero, List.set_cons_succ]
        refine wpAnyH_ready (rs := [24]) (by kernel_rfl) (by simp) ?_
        refine AllReadyH.cons rfl (fun K hK => ?_) AllReadyH.nil
        go_simp
        clear hHeld
        refine hK.out _ _ ?_ (fun hHeld => ?_)
        · exact (unhide HS) _ (Below.mono (show Keep wr _ by repeat (first | apply Keep.alloc | apply Keep.drew | exact Keep.refl _)) hnw)
        clear hK K
        try simp only [Act.put, List.setIfInBounds_toArray, List.set_cons_zero, List.set_cons_succ]
        refine wpAnyH_done (by kernel_rfl) ?_ _
        clear hHeld
        dsimp only [OnlyN]
        have hM1 : (if x < x' then x' else x) = max x x' := by split <;> omega
        have hM2 : (if y' < y then y' else y) = min y y' := by split <;> omega
        rw [hM1, hM2]
        have hV := unhide HV
        rw [ht, ht', cmn_cons] at hV
        simp only at hV
        rw [← ht, ← ht'] at hV
        have b1 : 0 ≤ max x x' ∧ min y y' ≤ 9223372036854775807 := by omega
        generalize max x x' = M1 at *
        generalize min y y' = M2 at *
        have hwa : Below n₀ wr (wr.alloc (.cells #[.int .i64 M1, .int .i64 M2] 53)).drew := Below.drew ((Below.refl _ _).alloc hnw _)
        have hJa : J pre (wr.alloc (.cells #[.int .i64 M1, .int .i64 M2] 53)).drew := hJ pre wr _ none hJs (by have h := World.grownBy_alloc wr (.cells #[.int .i64 M1, .int .i64 M2] 53) none; exact ⟨h.1, h.2, h.3, h.4, h.5⟩) (fun r e => by cases e)
        have hwz : W.heap.size ≤ (wr.alloc (.cells #[.int .i64 M1, .int .i64 M2] 53)).drew.heap.size := by
          show W.heap.size ≤ (wr.alloc _).heap.size
          simp; omega
        have HW := hide (⟨hwa, hJa, hwz⟩ : _ ∧ _ ∧ _)
        clear ht ht' hM1 hM2 hx hx' hin hin' HV hwz
        by_cases hmm : M1 < M2
        · rw [if_pos hmm] at hV
          have hvy : y < y' → vals (pre ++ [⟨(M1, M2), ⟨b1.1, hmm, b1.2⟩⟩]) ++ cmn (A.drop (i + 1)) (B.drop j) = cmn A B := by
            intro h
            rw [if_pos h] at hV
            rw [vals_snoc, List.append_assoc]
            exact hV
          have hvn : y' ≤ y → vals (pre ++ [⟨(M1, M2), ⟨b1.1, hmm, b1.2⟩⟩]) ++ cmn (A.drop i) (B.drop (j + 1)) = cmn A B := by
            intro h
            rw [if_neg (show ¬ y < y' by omega)] at hV
            rw [vals_snoc, List.append_assoc]
            exact hV
          have hpl : pre.length < (cmn A B).length := by
            rw [← hV]
            simp [vals]
          obtain ⟨fn, tmps, assign, body, hy, hRo⟩ := hY pre ⟨(M1, M2), ⟨b1.1, hmm, b1.2⟩⟩ _ hJa hpl
          dsimp only [ev] at hy
          have HVY := hide hvy
          have HVN := hide hvn
          have dm : decide (M1 < M2) = true := by simpa using hmm
          clear hV hvy hvn hpl hJa hwa
          gi_wp2
          refine ⟨fun h => (by simp [Fence.wide] at h), hRo.mono ?_⟩
          rintro e W3 (⟨rfl, hJ3, hk3⟩ | ⟨rfl, hJx3⟩)
          · have hb3 : Below n₀ wr W3 := (unhide HW).1.trans hk3
            obtain ⟨cl3, cm3, c03, c13, c03', c13'⟩ := (unhide HS) W3 hb3
            have HB3 := hide (⟨hb3, hk3⟩ : _ ∧ _)
            clear hb3 hk3 hy hRo cl cm c0 c1 c0' c1'
            gi_wp2_with fail
            refine wpIn_drawn ?_
            refine wp_region_held_drew (S := fun W' => W'.cell? ⟨Bl, 0, none⟩ = some (.slice (some ad) A.length cap) ∧ W'.cell? ⟨Bm, 0, none⟩ = some (.slice (some ad') B.length cap') ∧ W'.cell? (ad.add (i * 2)) = some (.int .i64 x) ∧ W'.cell? ⟨(ad.add (i * 2)).block, (ad.add (i * 2)).off + 1, none⟩ = some (.int .i64 y) ∧ W'.cell? (ad'.add (j * 2)) = some (.int .i64 x') ∧ W'.cell? ⟨(ad'.add (j * 2)).block, (ad'.add (j * 2)).off + 1, none⟩ = some (.int .i64 y')) (by kernel_rfl) (by exact (unhide HS) _ (Below.drew (unhide HB3).1)) (fun hHeld => ?_)
            refine wpAnyH_take (i := 0) (v := ?_) rfl (by kernel_rfl) (by kernel_rfl) (by kernel_rfl) (fun _ _ _ h => h) (Or.inl ⟨by rfl, ?_⟩) hHeld ?_
            rotate_left
            · intro w hSw
              try dsimp only at hSw
              go_simp
              try with_reducible rfl
            show wpAnyH _ _ _ _ _ _ _ (Act.put _ (some 51) _) _
            try simp only [Act.put, List.setIfInBounds_toArray, List.set_cons_zero, List.set_cons_succ]
            refine wpAnyH_take (i := 1) (v := ?_) rfl (by kernel_rfl) (by kernel_rfl) (by kernel_rfl) (fun _ _ _ h => h) (Or.inl ⟨by rfl, ?_⟩) hHeld ?_
            rotate_left
            · intro w hSw
              try dsimp only at hSw
              go_simp
              try with_reducible rfl
            show wpAnyH _ _ _ _ _ _ _ (Act.put _ (some 52) _) _
            try simp only [Act.put, List.setIfInBounds_toArray, List.set_cons_zero, List.set_cons_succ]
            refine wpAnyH_take (i := 2) (v := ?_) rfl (by kernel_rfl) (by kernel_rfl) (by kernel_rfl) (fun _ _ _ h => h) (Or.inl ⟨by rfl, ?_⟩) hHeld ?_
            rotate_left
            · intro w hSw
              try dsimp only at hSw
              go_simp
              try with_reducible rfl
            show wpAnyH _ _ _ _ _ _ _ (Act.put _ (some 53) _) _
            try simp only [Act.put, List.setIfInBounds_toArray, List.set_cons_zero, List.set_cons_succ]
            refine wpAnyH_take (i := 3) (v := ?_) rfl (by kernel_rfl) (by kernel_rfl) (by kernel_rfl) (fun _ _ _ h => h) (Or.inl ⟨by rfl, ?_⟩) hHeld ?_
            rotate_left
            · intro w hSw
              try dsimp only at hSw
              go_simp
              try with_reducible rfl
            show wpAnyH _ _ _ _ _ _ _ (Act.put _ (some 54) _) _
            try simp only [Act.put, List.setIfInBounds_toArray, List.set_cons_zero, List.set_cons_succ]
            refine wpAnyH_take (i := 4) (v := ?_) rfl (by kernel_rfl) (by kernel_rfl) (by kernel_rfl) (fun _ _ _ h => h) (Or.inl ⟨by rfl, ?_⟩) hHeld ?_
            rotate_left
            · intro w hSw
              try dsimp only at hSw
              go_simp
              try with_reducible rfl
            show wpAnyH _ _ _ _ _ _ _ (Act.put _ (some 55) _) _
            try simp only [Act.put, List.setIfInBounds_toArray, List.set_cons_zero, List.set_cons_succ]
            refine wpAnyH_take (i := 5) (v := ?_) rfl (by kernel_rfl) (by kernel_rfl) (by kernel_rfl) (fun _ _ _ h => h) (Or.inl ⟨by rfl, ?_⟩) hHeld ?_
            rotate_left
            · intro w hSw
              try dsimp only at hSw
              go_simp
              try with_reducible rfl
            show wpAnyH _ _ _ _ _ _ _ (Act.put _ (some 56) _) _
            try simp only [Act.put, List.setIfInBounds_toArray, List.set_cons_zero, List.set_cons_succ]
            refine wpAnyH_take (i := 6) (v := ?_) rfl (by kernel_rfl) (by kernel_rfl) (by kernel_rfl) (fun _ _ _ h => h) (Or.inl ⟨by rfl, ?_⟩) hHeld ?_
            rotate_left
            · intro w hSw
              try dsimp only at hSw
              go_simp
              try with_reducible rfl
            show wpAnyH _ _ _ _ _ _ _ (Act.put _ (some 57) _) _
            try simp only [Act.put, List.setIfInBounds_toArray, List.set_cons_zero, List.set_cons_succ]
            refine wpAnyH_take (i := 7) (v := ?_) rfl (by kernel_rfl) (by kernel_rfl) (by kernel_rfl) (fun _ _ _ h => h) (Or.inl ⟨by rfl, ?_⟩) hHeld ?_
            rotate_left
            · intro w hSw
              try dsimp only at hSw
              go_simp
              try with_reducible rfl
            show wpAnyH _ _ _ _ _ _ _ (Act.put _ (some 58) _) _
            try simp only [Act.put, List.setIfInBounds_toArray, List.set_cons_zero, List.set_cons_succ]
            refine wpAnyH_take (i := 8) (v := ?_) rfl (by kernel_rfl) (by kernel_rfl) (by kernel_rfl) (fun _ _ _ h => h) (Or.inl ⟨by rfl, ?_⟩) hHeld ?_
            rotate_left
            · intro w hSw
              try dsimp only at hSw
              go_simp
              try with_reducible rfl
            show wpAnyH _ _ _ _ _ _ _ (Act.put _ (some 59) _) _
            try simp only [Act.put, List.setIfInBounds_toArray, List.set_cons_zero, List.set_cons_succ]
            refine wpAnyH_take (i := 9) (v := ?_) rfl (by kernel_rfl) (by kernel_rfl) (by kernel_rfl) (fun _ _ _ h => h) (Or.inl ⟨by rfl, ?_⟩) hHeld ?_
            rotate_left
            · intro w hSw
              try dsimp only at hSw
              go_simp
              try with_reducible rfl
            show wpAnyH _ _ _ _ _ _ _ (Act.put _ (some 60) _) _
            try simp only [Act.put, List.setIfInBounds_toArray, List.set_cons_zero, List.set_cons_succ]
            refine wpAnyH_take (i := 10) (v := ?_) rfl (by kernel_rfl) (by kernel_rfl) (by kernel_rfl) (fun _ _ _ h => h) (Or.inl ⟨by rfl, ?_⟩) hHeld ?_
            rotate_left
            · intro w hSw
              try dsimp only at hSw
              go_simp
              try with_reducible rfl
            show wpAnyH _ _ _ _ _ _ _ (Act.put _ (some 61) _) _
            try simp only [Act.put, List.setIfInBounds_toArray, List.set_cons_zero, List.set_cons_succ]
            refine wpAnyH_done (by kernel_rfl) ?_ _
            clear hHeld
            dsimp only [OnlyN]
            by_cases hyy : y < y'
            · have d1 : decide (y < y') = true := by simpa using hyy
              have HN := hide ((unhide HVY) hyy)
              gi_wp2
              go_roundw
              case rel => exact ⟨i + 1, j, _, by omega, by omega, by go_num, rfl, HN, hJ _ W3 W3.drew none hJ3 ⟨rfl, rfl, rfl, Nat.le_refl _, fun _ _ _ => rfl⟩ (fun r e => by cases e), hnx.trans (Below.drew (unhide HB3).1), by have := (unhide HW).2.2; have := (unhide HB3).2.size; show W.heap.size ≤ W3.heap.size; omega⟩
              case measure => simp [intOf]; omega
            · have d1 : decide (y < y') = false := by simpa using hyy
              have HN := hide ((unhide HVN) (by omega))
              gi_wp2
              go_roundw
              case rel => exact ⟨i, j + 1, _, by omega, by omega, rfl, by go_num, HN, hJ _ W3 W3.drew none hJ3 ⟨rfl, rfl, rfl, Nat.le_refl _, fun _ _ _ => rfl⟩ (fun r e => by cases e), hnx.trans (Below.drew (unhide HB3).1), by have := (unhide HW).2.2; have := (unhide HB3).2.size; show W.heap.size ≤ W3.heap.size; omega⟩
              case measure => simp [intOf]; omega
          · gi_wp2
            refine bodyPost_ret (results_none rfl _ _ _) rfl ?_
            exact ⟨⟨_, rfl⟩, .inr ⟨_, trivial, hJx3⟩⟩
        · rw [if_neg hmm, List.nil_append] at hV
          have hvy : y < y' → vals pre ++ cmn (A.drop (i + 1)) (B.drop j) = cmn A B := by
            intro h
            rw [if_pos h] at hV
            exact hV
          have hvn : y' ≤ y → vals pre ++ cmn (A.drop i) (B.drop (j + 1)) = cmn A B := by
            intro h
            rw [if_neg (show ¬ y < y' by omega)] at hV
            exact hV
          have HVY := hide hvy
          have HVN := hide hvn
          have dm : decide (M1 < M2) = false := by simpa using hmm
          obtain ⟨cl3, cm3, c03, c13, c03', c13'⟩ := (unhide HS) _ hwa
          clear hV hvy hvn hJa hwa cl cm c0 c1 c0' c1'
          gi_wp2_with fail
          refine ⟨fun _ h => (by cases h), ?_⟩
          gi_wp2_with fail
          refine wpIn_drawn ?_
          refine wp_region_held_drew (S := fun W' => W'.cell? ⟨Bl, 0, none⟩ = some (.slice (some ad) A.length cap) ∧ W'.cell? ⟨Bm, 0, none⟩ = some (.slice (some ad') B.length cap') ∧ W'.cell? (ad.add (i * 2)) = some (.int .i64 x) ∧ W'.cell? ⟨(ad.add (i * 2)).block, (ad.add (i * 2)).off + 1, none⟩ = some (.int .i64 y) ∧ W'.cell? (ad'.add (j * 2)) = some (.int .i64 x') ∧ W'.cell? ⟨(ad'.add (j * 2)).block, (ad'.add (j * 2)).off + 1, none⟩ = some (.int .i64 y')) (by kernel_rfl) (by exact (unhide HS) _ (Below.drew (unhide HW).1)) (fun hHeld => ?_)
          refine wpAnyH_take (i := 0) (v := ?_) rfl (by kernel_rfl) (by kernel_rfl) (by kernel_rfl) (fun _ _ _ h => h) (Or.inl ⟨by rfl, ?_⟩) hHeld ?_
          rotate_left
          · intro w hSw
            try dsimp only at hSw
            go_simp
            try with_reducible rfl
          show wpAnyH _ _ _ _ _ _ _ (Act.put _ (some 51) _) _
          try simp only [Act.put, List.setIfInBounds_toArray, List.set_cons_zero, List.set_cons_succ]
          refine wpAnyH_take (i := 1) (v := ?_) rfl (by kernel_rfl) (by kernel_rfl) (by kernel_rfl) (fun _ _ _ h => h) (Or.inl ⟨by rfl, ?_⟩) hHeld ?_
          rotate_left
          · intro w hSw
            try dsimp only at hSw
            go_simp
            try with_reducible rfl
          show wpAnyH _ _ _ _ _ _ _ (Act.put _ (some 52) _) _
          try simp only [Act.put, List.setIfInBounds_toArray, List.set_cons_zero, List.set_cons_succ]
          refine wpAnyH_take (i := 2) (v := ?_) rfl (by kernel_rfl) (by kernel_rfl) (by kernel_rfl) (fun _ _ _ h => h) (Or.inl ⟨by rfl, ?_⟩) hHeld ?_
          rotate_left
          · intro w hSw
            try dsimp only at hSw
            go_simp
            try with_reducible rfl
          show wpAnyH _ _ _ _ _ _ _ (Act.put _ (some 53) _) _
          try simp only [Act.put, List.setIfInBounds_toArray, List.set_cons_zero, List.set_cons_succ]
          refine wpAnyH_take (i := 3) (v := ?_) rfl (by kernel_rfl) (by kernel_rfl) (by kernel_rfl) (fun _ _ _ h => h) (Or.inl ⟨by rfl, ?_⟩) hHeld ?_
          rotate_left
          · intro w hSw
            try dsimp only at hSw
            go_simp
            try with_reducible rfl
          show wpAnyH _ _ _ _ _ _ _ (Act.put _ (some 54) _) _
          try simp only [Act.put, List.setIfInBounds_toArray, List.set_cons_zero, List.set_cons_succ]
          refine wpAnyH_take (i := 4) (v := ?_) rfl (by kernel_rfl) (by kernel_rfl) (by kernel_rfl) (fun _ _ _ h => h) (Or.inl ⟨by rfl, ?_⟩) hHeld ?_
          rotate_left
          · intro w hSw
            try dsimp only at hSw
            go_simp
            try with_reducible rfl
          show wpAnyH _ _ _ _ _ _ _ (Act.put _ (some 55) _) _
          try simp only [Act.put, List.setIfInBounds_toArray, List.set_cons_zero, List.set_cons_succ]
          refine wpAnyH_take (i := 5) (v := ?_) rfl (by kernel_rfl) (by kernel_rfl) (by kernel_rfl) (fun _ _ _ h => h) (Or.inl ⟨by rfl, ?_⟩) hHeld ?_
          rotate_left
          · intro w hSw
            try dsimp only at hSw
            go_simp
            try with_reducible rfl
          show wpAnyH _ _ _ _ _ _ _ (Act.put _ (some 56) _) _
          try simp only [Act.put, List.setIfInBounds_toArray, List.set_cons_zero, List.set_cons_succ]
          refine wpAnyH_take (i := 6) (v := ?_) rfl (by kernel_rfl) (by kernel_rfl) (by kernel_rfl) (fun _ _ _ h => h) (Or.inl ⟨by rfl, ?_⟩) hHeld ?_
          rotate_left
          · intro w hSw
            try dsimp only at hSw
            go_simp
            try with_reducible rfl
          show wpAnyH _ _ _ _ _ _ _ (Act.put _ (some 57) _) _
          try simp only [Act.put, List.setIfInBounds_toArray, List.set_cons_zero, List.set_cons_succ]
          refine wpAnyH_take (i := 7) (v := ?_) rfl (by kernel_rfl) (by kernel_rfl) (by kernel_rfl) (fun _ _ _ h => h) (Or.inl ⟨by rfl, ?_⟩) hHeld ?_
          rotate_left
          · intro w hSw
            try dsimp only at hSw
            go_simp
            try with_reducible rfl
          show wpAnyH _ _ _ _ _ _ _ (Act.put _ (some 58) _) _
          try simp only [Act.put, List.setIfInBounds_toArray, List.set_cons_zero, List.set_cons_succ]
          refine wpAnyH_take (i := 8) (v := ?_) rfl (by kernel_rfl) (by kernel_rfl) (by kernel_rfl) (fun _ _ _ h => h) (Or.inl ⟨by rfl, ?_⟩) hHeld ?_
          rotate_left
          · intro w hSw
            try dsimp only at hSw
            go_simp
            try with_reducible rfl
          show wpAnyH _ _ _ _ _ _ _ (Act.put _ (some 59) _) _
          try simp only [Act.put, List.setIfInBounds_toArray, List.set_cons_zero, List.set_cons_succ]
          refine wpAnyH_take (i := 9) (v := ?_) rfl (by kernel_rfl) (by kernel_rfl) (by kernel_rfl) (fun _ _ _ h => h) (Or.inl ⟨by rfl, ?_⟩) hHeld ?_
          rotate_left
          · intro w hSw
            try dsimp only at hSw
            go_simp
            try with_reducible rfl
          show wpAnyH _ _ _ _ _ _ _ (Act.put _ (some 60) _) _
          try simp only [Act.put, List.setIfInBounds_toArray, List.set_cons_zero, List.set_cons_succ]
          refine wpAnyH_take (i := 10) (v := ?_) rfl (by kernel_rfl) (by kernel_rfl) (by kernel_rfl) (fun _ _ _ h => h) (Or.inl ⟨by rfl, ?_⟩) hHeld ?_
          rotate_left
          · intro w hSw
            try dsimp only at hSw
            go_simp
            try with_reducible rfl
          show wpAnyH _ _ _ _ _ _ _ (Act.put _ (some 61) _) _
          try simp only [Act.put, List.setIfInBounds_toArray, List.set_cons_zero, List.set_cons_succ]
          refine wpAnyH_done (by kernel_rfl) ?_ _
          clear hHeld
          dsimp only [OnlyN]
          by_cases hyy : y < y'
          · have d1 : decide (y < y') = true := by simpa using hyy
            have HN := hide ((unhide HVY) hyy)
            gi_wp2
            go_roundw
            case rel => exact ⟨i + 1, j, pre, by omega, by omega, by go_num, rfl, HN, hJ _ _ _ none (unhide HW).2.1 ⟨rfl, rfl, rfl, Nat.le_refl _, fun _ _ _ => rfl⟩ (fun r e => by cases e), hnx.trans (Below.drew (unhide HW).1), (unhide HW).2.2⟩
            case measure => simp [intOf]; omega
          · have d1 : decide (y < y') = false := by simpa using hyy
            have HN := hide ((unhide HVN) (by omega))
            gi_wp2
            go_roundw
            case rel => exact ⟨i, j + 1, pre, by omega, by omega, rfl, by go_num, HN, hJ _ _ _ none (unhide HW).2.1 ⟨rfl, rfl, rfl, Nat.le_refl _, fun _ _ _ => rfl⟩ (fun r e => by cases e), hnx.trans (Below.drew (unhide HW).1), (unhide HW).2.2⟩
            case measure => simp [intOf]; omega
      · have lj : ¬ (j : Int) < (B.length : Int) := by omega
        have li : (i : Int) < (A.length : Int) := by omega
        have HE := hide (by have h := unhide HV; rw [List.drop_of_length_le (show B.length ≤ j by omega), cmn_nil', List.append_nil] at h; exact h)
        gi_wp2
        go_end0
        exact ⟨⟨_, rfl⟩, .inl ⟨pre, unhide HE, hJs⟩⟩
    · have li : ¬ (i : Int) < (A.length : Int) := by omega
      have HE := hide (by have h := unhide HV; rw [List.drop_of_length_le (show A.length ≤ i by omega), cmn_nil, List.append_nil] at h; exact h)
      gi_wp2
      go_end0
      exact ⟨⟨_, rfl⟩, .inl ⟨pre, unhide HE, hJs⟩⟩
set_option maxHeartbeats 1000000 in
theorem common_new (a a' : Option Addr) (m cap m' cap' : Nat) (w : World) :
    Calls Try.prog 42 #[.slice a m cap, .slice a' m' cap'] w fun e w' => e = .returned (.func (.func 50) #[] #[.pointer (some ⟨w.heap.size, 0, none⟩), .pointer (some ⟨w.heap.size + 1, 0, none⟩)]) ∧ w' = (w.alloc (.cells #[.slice a m cap] 51)).alloc (.cells #[.slice a' m' cap'] 51) := by
  go_enter Try.func42, Try.ntmps42
  go_wp2
  go_ret
  exact ⟨rfl, rfl⟩
theorem common_any (vl vm : Value) (A B : List Pr) (w : World) (ha : Rs w vl A) (hb : Rs w vm B) (hA : Pcs A) (hB : Pcs B) (hla : A.length ≤ 100000) (hlb : B.length ≤ 100000) :
    Calls Try.prog 42 #[vl, vm] w fun e w' => ∃ fv, e = .returned fv ∧ Sq w' fv (cmn A B) ∧ Keep w w' := by
  obtain ⟨a, cap, hv⟩ : ∃ a cap, vl = .slice a A.length cap := by obtain ⟨a, cap, h, _⟩ := ha; exact ⟨a, cap, h⟩
  obtain ⟨a', cap', hv'⟩ : ∃ a cap, vm = .slice a B.length cap := by obtain ⟨a, cap, h, _⟩ := hb; exact ⟨a, cap, h⟩
  subst hv hv'
  refine (common_new a a' _ cap _ cap' w).mono ?_
  rintro e w' ⟨rfl, hw'⟩
  have b1 := (Boxed.new w 51 (.slice a A.length cap)).alloc (.cells #[.slice a' B.length cap'] 51)
  have b2 := Boxed.new (w.alloc (.cells #[.slice a A.length cap] 51)) 51 (.slice a' B.length cap')
  rw [World.size_alloc] at b2
  have hk : Keep w w' := by rw [hw']; exact ((Keep.refl w).alloc _).alloc _
  have ha' := ha.keep hk
  have hb' := hb.keep hk
  rw [← hw'] at b1 b2
  have hs : w'.heap.size = w.heap.size + 2 := by rw [hw']; simp
  refine ⟨_, rfl, ⟨_, _, rfl, enters_of Try.func50 (by kernel_rfl) rfl, fun n l J Jx W hW hJ hJx hY h0 => ?_⟩, hk⟩
  exact common1_in n l w.heap.size (w.heap.size + 1) _ _ _ A B hA hB J Jx W hJ hY hW.size (by omega) (by omega) ((hW.cell (p := ⟨w.heap.size, 0, none⟩) (by show w.heap.size < _; omega)).trans b1.cell) ((hW.cell (p := ⟨w.heap.size + 1, 0, none⟩) (by show w.heap.size + 1 < _; omega)).trans b2.cell) (Rb.below ha' hW (Nat.le_refl _)) (Rb.below hb' hW (Nat.le_refl _)) hla hlb h0
end Go.Proofs.Ytilafaljlhgbmaa
