/- The document's answer for arcs: the widest one. -/
import Derived.Test.YtilafaljlhgbmaaCRefC
namespace Go.Proofs.Ytilafaljlhgbmaa
open Go.RowKit Go.Shelf
attribute [local go_sem ↓] Go.wp_at_zero Go.wp_at_succ
set_option linter.unusedVariables false
set_option linter.unusedSimpArgs false
set_option maxRecDepth 10000
set_option maxHeartbeats 1000000 in
theorem rwidest_any (c : Int) (hf : Few c) (v0 : Value) (L : List Pr) (w : World) (hl : L.length ≤ 50000) (hR : Rs w v0 L) :
    Calls Try.prog 16 #[.int .i64 c, v0] w fun e w' => ∃ M, Fo c (Ta c L) M ∧ e = .returned (.agg #[.int .i64 (wd M).1, .int .i64 (wd M).2]) ∧ Keep w w' := by
  have T : Hid (∀ w', Keep w w' → Calls Try.prog 12 #[.int .i64 c, v0] w' fun e w'' => ∃ v, e = .returned v ∧ Fr w' c (Ta c L) w'' v) := hide fun w' hk => rset_any c hf v0 L w' hl (hR.keep hk)
  obtain ⟨a, cap, hv⟩ := rs_slice hR
  subst hv
  clear hR
  go_enter Try.func16, Try.ntmps16
  go_wp2_with fail
  refine (unhide T _ ((Keep.refl w).alloc _)).mono ?_
  rintro e w1 ⟨v, rfl, M, hrs, hfo, hlb, hk1⟩
  have hml := fo_len hfo
  have HF := hide hfo
  have b4 : Two w1 w.heap.size 29 (0, 0) := (Two.new w 29 (0, 0)).keep hk1
  have hk0 : Keep w w1 := ((Keep.refl w).alloc _).trans hk1
  have hz1 := Below.size hk0
  have hrl : M.length ≤ 6000 := hml
  obtain ⟨a1, cap1, rfl, _, hcell⟩ := hrs
  have HC := hide hcell
  have HLB := hide hlb
  have hw1s : w.heap.size < w1.heap.size := b4.lt
  clear hcell hfo T hk1 hlb
  go_wp2_with fail
  go_loopw [7] (fun vi wr => ∃ (k : Nat) (b : Pr), k ≤ M.length ∧ vi = .int .i64 k ∧ Hid (b = wd (M.take k)) ∧ Two wr w.heap.size 29 (0, 0) ∧ Two wr w1.heap.size 29 b ∧ Below w.heap.size w wr ∧ Hid (∀ b, b < w1.heap.size → wr.heap[b]? = w1.heap[b]?) ∧ w1.heap.size ≤ wr.heap.size) (fun vi _ => M.length - (intOf vi).toNat)
  case atStart => exact ⟨0, (0, 0), Nat.zero_le _, rfl, hide rfl, b4.alloc _, Two.new w1 _ (0, 0), hk0.alloc _, hide fun b hb => Below.heap_alloc _ _ b hb, by simp⟩
  case round =>
    obtain ⟨k, b, hk, rfl, HB, t4, t5, hB, HO, hsz⟩ := hrel
    obtain ⟨bx, bY⟩ := b
    have d0 := t5.c0
    have d1 := t5.c1
    have f0 := t5.f0
    have f1 := t5.f1
    have r0 := t4.f0
    have r1 := t4.f1
    have s0 := t4.c0
    have s1 := t4.c1
    have z4 := t4.lt
    have z5 := t5.lt
    simp only at d0 d1 s0 s1
    have T4 := hide t4
    have T5 := hide t5
    have HBB := hide hB
    clear t4 t5 hB
    have ne5 : ¬ w1.heap.size = w.heap.size := by omega
    have ne5' : ¬ w.heap.size = w1.heap.size := by omega
    by_cases hlt : k < M.length
    · obtain ⟨ad, rfl, hb, hin, c0, c1⟩ := (unhide HC) k hlt
      have hcl2 : wr.cell? (ad.add (k * 2)) = w1.cell? (ad.add (k * 2)) := World.cell?_of_block ((unhide HO) (ad.add (k * 2)).block (by rw [add_block]; exact hb))
      have hcl3 : wr.cell? ⟨(ad.add (k * 2)).block, (ad.add (k * 2)).off + 1, none⟩ = w1.cell? ⟨(ad.add (k * 2)).block, (ad.add (k * 2)).off + 1, none⟩ := World.cell?_of_block (a := ⟨(ad.add (k * 2)).block, (ad.add (k * 2)).off + 1, none⟩) ((unhide HO) (ad.add (k * 2)).block (by rw [add_block]; exact hb))
      rw [← hcl2] at c0
      rw [← hcl3] at c1
      clear hcl2 hcl3
      have hst := wd_snoc hlt
      rw [← unhide HB] at hst
      generalize M.getD k (0, 0) = p at *
      obtain ⟨x, y⟩ := p
      simp only at c0 c1 hst
      have li : (k : Int) < (M.length : Int) := by omega
      by_cases hy : bY < y
      · rw [if_pos hy] at hst
        have HN := hide hst.symm
        have dy : decide (bY < y) = true := by simpa using hy
        clear hst
        go_wp2_with fail
        refine wp_region_held_drew (S := fun w' => w'.cell? ⟨(ad.add (k * 2)).block, (ad.add (k * 2)).off + 1, none⟩ = some (.int .i64 y) ∧ w'.cell? ⟨w1.heap.size, 1, none⟩ = some (.int .i64 bY)) (by kernel_rfl) (by exact ⟨c1, d1⟩) (fun hHeld => ?_)
        refine wpAnyH_take (i := 0) (v := ?_) rfl (by kernel_rfl) (by kernel_rfl) (by kernel_rfl) (fun _ _ _ h => h) (Or.inl ⟨by rfl, ?_⟩) hHeld ?_
        rotate_left
        · intro w hSw
          try dsimp only at hSw
          go_simp
          try with_reducible rfl
        show wpAnyH _ _ _ _ _ _ _ (Act.put _ (some 18) _) _
        try simp only [Act.put, List.setIfInBounds_toArray, List.set_cons_zero, List.set_cons_succ]
        refine wpAnyH_take (i := 1) (v := ?_) rfl (by kernel_rfl) (by kernel_rfl) (by kernel_rfl) (fun _ _ _ h => h) (Or.inl ⟨by rfl, ?_⟩) hHeld ?_
        rotate_left
        · intro w hSw
          try dsimp only at hSw
          go_simp
          try with_reducible rfl
        show wpAnyH _ _ _ _ _ _ _ (Act.put _ (some 19) _) _
        try simp only [Act.put, List.setIfInBounds_toArray, List.set_cons_zero, List.set_cons_succ]
        refine wpAnyH_take (i := 2) (v := ?_) rfl (by kernel_rfl) (by kernel_rfl) (by kernel_rfl) (fun _ _ _ h => h) (Or.inl ⟨by rfl, ?_⟩) hHeld ?_
        rotate_left
        · intro w hSw
          try dsimp only at hSw
          go_simp
          try with_reducible rfl
        show wpAnyH _ _ _ _ _ _ _ (Act.put _ (some 20) _) _
        try simp only [Act.put, List.setIfInBounds_toArray, List.set_cons_zero, List.set_cons_succ]
        refine wpAnyH_take (i := 3) (v := ?_) rfl (by kernel_rfl) (by kernel_rfl) (by kernel_rfl) (fun _ _ _ h => h) (Or.inl ⟨by rfl, ?_⟩) hHeld ?_
        rotate_left
        · intro w hSw
          try dsimp only at hSw
          go_simp
          try with_reducible rfl
        show wpAnyH _ _ _ _ _ _ _ (Act.put _ (some 21) _) _
        try simp only [Act.put, List.setIfInBounds_toArray, List.set_cons_zero, List.set_cons_succ]
        refine wpAnyH_take (i := 4) (v := ?_) rfl (by kernel_rfl) (by kernel_rfl) (by kernel_rfl) (fun _ _ _ h => h) (Or.inl ⟨by rfl, ?_⟩) hHeld ?_
        rotate_left
        · intro w hSw
          try dsimp only at hSw
          go_simp
          try with_reducible rfl
        show wpAnyH _ _ _ _ _ _ _ (Act.put _ (some 22) _) _
        try simp only [Act.put, List.setIfInBounds_toArray, List.set_cons_zero, List.set_cons_succ]
        refine wpAnyH_take (i := 5) (v := ?_) rfl (by kernel_rfl) (by kernel_rfl) (by kernel_rfl) (fun _ _ _ h => h) (Or.inl ⟨by rfl, ?_⟩) hHeld ?_
        rotate_left
        · intro w hSw
          try dsimp only at hSw
          go_simp
          try with_reducible rfl
        show wpAnyH _ _ _ _ _ _ _ (Act.put _ (some 23) _) _
        try simp only [Act.put, List.setIfInBounds_toArray, List.set_cons_zero, List.set_cons_succ]
        refine wpAnyH_take (i := 6) (v := ?_) rfl (by kernel_rfl) (by kernel_rfl) (by kernel_rfl) (fun _ _ _ h => h) (Or.inl ⟨by rfl, ?_⟩) hHeld ?_
        rotate_left
        · intro w hSw
          try dsimp only at hSw
          go_simp
          try with_reducible rfl
        show wpAnyH _ _ _ _ _ _ _ (Act.put _ (some 24) _) _
        try simp only [Act.put, List.setIfInBounds_toArray, List.set_cons_zero, List.set_cons_succ]
        refine wpAnyH_take (i := 7) (v := ?_) rfl (by kernel_rfl) (by kernel_rfl) (by kernel_rfl) (fun _ _ _ h => h) (Or.inl ⟨by rfl, ?_⟩) hHeld ?_
        rotate_left
        · intro w hSw
          try dsimp only at hSw
          go_simp
          try with_reducible rfl
        show wpAnyH _ _ _ _ _ _ _ (Act.put _ (some 25) _) _
        try simp only [Act.put, List.setIfInBounds_toArray, List.set_cons_zero, List.set_cons_succ]
        refine wpAnyH_done (by kernel_rfl) ?_ _
        clear hHeld
        go_wp2_with fail
        go_roundw
        case rel =>
          refine ⟨k + 1, (x, y), by omega, by go_num, HN, ?_, ?_, ?_, ?_, ?_⟩
          · exact ((unhide T4).other (by omega) _).other (by omega) _
          · exact ((unhide T5).set0 x).set1 y
          · exact Below.drew (((unhide HBB).setCell (p := ⟨w1.heap.size, 0, none⟩) (by show w.heap.size ≤ w1.heap.size; omega) (.int .i64 x)).setCell (p := ⟨w1.heap.size, 1, none⟩) (by show w.heap.size ≤ w1.heap.size; omega) (.int .i64 y))
          · refine hide fun b hb => ?_
            show (World.setCell (World.setCell wr _ _) _ _).heap[b]? = _
            rw [Below.heap_setCell _ _ _ b (show ¬ b = w1.heap.size by omega), Below.heap_setCell _ _ _ b (show ¬ b = w1.heap.size by omega)]
            exact (unhide HO) b hb
          · show w1.heap.size ≤ (World.setCell (World.setCell wr _ _) _ _).heap.size
            simp [World.setCell]; omega
        case measure => simp [intOf]; omega
      · rw [if_neg hy] at hst
        have HN := hide hst.symm
        have dy : decide (bY < y) = false := by simpa using hy
        clear hst
        go_wp2_with fail
        refine wp_region_held_drew (S := fun w' => w'.cell? ⟨(ad.add (k * 2)).block, (ad.add (k * 2)).off + 1, none⟩ = some (.int .i64 y) ∧ w'.cell? ⟨w1.heap.size, 1, none⟩ = some (.int .i64 bY)) (by kernel_rfl) (by exact ⟨c1, d1⟩) (fun hHeld => ?_)
        refine wpAnyH_take (i := 0) (v := ?_) rfl (by kernel_rfl) (by kernel_rfl) (by kernel_rfl) (fun _ _ _ h => h) (Or.inl ⟨by rfl, ?_⟩) hHeld ?_
        rotate_left
        · intro w hSw
          try dsimp only at hSw
          go_simp
          try with_reducible rfl
        show wpAnyH _ _ _ _ _ _ _ (Act.put _ (some 18) _) _
        try simp only [Act.put, List.setIfInBounds_toArray, List.set_cons_zero, List.set_cons_succ]
        refine wpAnyH_take (i := 1) (v := ?_) rfl (by kernel_rfl) (by kernel_rfl) (by kernel_rfl) (fun _ _ _ h => h) (Or.inl ⟨by rfl, ?_⟩) hHeld ?_
        rotate_left
        · intro w hSw
          try dsimp only at hSw
          go_simp
          try with_reducible rfl
        show wpAnyH _ _ _ _ _ _ _ (Act.put _ (some 19) _) _
        try simp only [Act.put, List.setIfInBounds_toArray, List.set_cons_zero, List.set_cons_succ]
        refine wpAnyH_take (i := 2) (v := ?_) rfl (by kernel_rfl) (by kernel_rfl) (by kernel_rfl) (fun _ _ _ h => h) (Or.inl ⟨by rfl, ?_⟩) hHeld ?_
        rotate_left
        · intro w hSw
          try dsimp only at hSw
          go_simp
          try with_reducible rfl
        show wpAnyH _ _ _ _ _ _ _ (Act.put _ (some 20) _) _
        try simp only [Act.put, List.setIfInBounds_toArray, List.set_cons_zero, List.set_cons_succ]
        refine wpAnyH_take (i := 3) (v := ?_) rfl (by kernel_rfl) (by kernel_rfl) (by kernel_rfl) (fun _ _ _ h => h) (Or.inl ⟨by rfl, ?_⟩) hHeld ?_
        rotate_left
        · intro w hSw
          try dsimp only at hSw
          go_simp
          try with_reducible rfl
        show wpAnyH _ _ _ _ _ _ _ (Act.put _ (some 21) _) _
        try simp only [Act.put, List.setIfInBounds_toArray, List.set_cons_zero, List.set_cons_succ]
        refine wpAnyH_take (i := 4) (v := ?_) rfl (by kernel_rfl) (by kernel_rfl) (by kernel_rfl) (fun _ _ _ h => h) (Or.inl ⟨by rfl, ?_⟩) hHeld ?_
        rotate_left
        · intro w hSw
          try dsimp only at hSw
          go_simp
          try with_reducible rfl
        show wpAnyH _ _ _ _ _ _ _ (Act.put _ (some 22) _) _
        try simp only [Act.put, List.setIfInBounds_toArray, List.set_cons_zero, List.set_cons_succ]
        refine wpAnyH_take (i := 5) (v := ?_) rfl (by kernel_rfl) (by kernel_rfl) (by kernel_rfl) (fun _ _ _ h => h) (Or.inl ⟨by rfl, ?_⟩) hHeld ?_
        rotate_left
        · intro w hSw
          try dsimp only at hSw
          go_simp
          try with_reducible rfl
        show wpAnyH _ _ _ _ _ _ _ (Act.put _ (some 23) _) _
        try simp only [Act.put, List.setIfInBounds_toArray, List.set_cons_zero, List.set_cons_succ]
        refine wpAnyH_take (i := 6) (v := ?_) rfl (by kernel_rfl) (by kernel_rfl) (by kernel_rfl) (fun _ _ _ h => h) (Or.inl ⟨by rfl, ?_⟩) hHeld ?_
        rotate_left
        · intro w hSw
          try dsimp only at hSw
          go_simp
          try with_reducible rfl
        show wpAnyH _ _ _ _ _ _ _ (Act.put _ (some 24) _) _
        try simp only [Act.put, List.setIfInBounds_toArray, List.set_cons_zero, List.set_cons_succ]
        refine wpAnyH_take (i := 7) (v := ?_) rfl (by kernel_rfl) (by kernel_rfl) (by kernel_rfl) (fun _ _ _ h => h) (Or.inl ⟨by rfl, ?_⟩) hHeld ?_
        rotate_left
        · intro w hSw
          try dsimp only at hSw
          go_simp
          try with_reducible rfl
        show wpAnyH _ _ _ _ _ _ _ (Act.put _ (some 25) _) _
        try simp only [Act.put, List.setIfInBounds_toArray, List.set_cons_zero, List.set_cons_succ]
        refine wpAnyH_done (by kernel_rfl) ?_ _
        clear hHeld
        go_wp2_with fail
        go_roundw
        case rel => exact ⟨k + 1, (bx, bY), by omega, by go_num, HN, unhide T4, unhide T5, Below.drew (unhide HBB), HO, hsz⟩
        case measure => simp [intOf]; omega
    · have hkl : k = M.length := by omega
      have he : wd M = (bx, bY) := by rw [unhide HB, hkl, List.take_length]
      have HE := hide (⟨M, unhide HF, he⟩ : ∃ M, Fo c (Ta c L) M ∧ wd M = (bx, bY))
      have li : ¬ (k : Int) < (M.length : Int) := by omega
      clear he HF
      go_wp2_with fail
      have t6 := ((unhide T4).set0 bx).set1 bY
      have e0 := t6.c0
      have e1 := t6.c1
      refine bodyPost_ret (v := .agg #[.int .i64 bx, .int .i64 bY]) (by simp [results, Try.results16, go_sem, e0, e1]) rfl ?_
      obtain ⟨M, h1, h2⟩ := unhide HE
      refine ⟨M, h1, by rw [h2], ?_⟩
      exact ((unhide HBB).setCell (p := ⟨w.heap.size, 0, none⟩) (Nat.le_refl _) _).setCell (p := ⟨w.heap.size, 1, none⟩) (Nat.le_refl _) _
end Go.Proofs.Ytilafaljlhgbmaa
