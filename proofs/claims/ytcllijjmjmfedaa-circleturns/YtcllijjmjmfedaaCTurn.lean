/- Package circle: arcs turned. -/
import Derived.Test.YtcllijjmjmfedaaCApp
namespace Go.Proofs.Ytcllijjmjmfedaa
open Go.RowKit Go.Shelf
attribute [local go_sem ↓] Go.wp_at_zero Go.wp_at_succ
set_option linter.unusedVariables false
set_option linter.unusedSimpArgs false
set_option maxRecDepth 10000
/-- an arc, turned -/
def tn1 (c b : Int) (p : Pr) : Pr := (IntKind.i64.wrap (moA p.1 c + moA b c), p.2)
theorem wrap_inn (x : Int) : In (IntKind.i64.wrap x) := by unfold In; rw [IntKind.wrap_i64]; omega
set_option maxHeartbeats 2000000 in
theorem turn_core (c b mb : Int) (v0 : Value) (L : List Pr) (tn : Pr → Pr) (w : World) (R : World → Value → Prop) (hl : L.length ≤ 50000) (hR : Rs w v0 L)
    (HTN : Hid (∀ p, InP p → tn p = (IntKind.i64.wrap (moA p.1 c + mb), p.2)))
    (T1 : Hid (∀ w, Calls Try.prog 16 #[.int .i64 c, .int .i64 b] w fun e w' => e = .returned (.int .i64 mb) ∧ w' = w))
    (T2 : Hid (∀ t, In t → ∀ w, Calls Try.prog 16 #[.int .i64 c, .int .i64 t] w fun e w' => e = .returned (.int .i64 (moA t c)) ∧ w' = w))
    (T3 : Hid (∀ w' v, Keep w w' → Rs w' v (L.map tn) → Calls Try.prog 14 #[.int .i64 c, v] w' fun e w'' => ∃ v, e = .returned v ∧ R w'' v)) :
    Calls Try.prog 6 #[.int .i64 c, v0, .int .i64 b] w fun e w' => ∃ v, e = .returned v ∧ R w' v := by
  obtain ⟨i0, hi, hz0, hz1, hz2⟩ := info_parts infoA
  obtain ⟨a, cap, hv, hcap, hcell⟩ := id hR
  subst hv
  have HC := hide hcell
  have HI : Hid (∀ p, p ∈ L → InP p) := by
    intro p hp
    obtain ⟨k, hk, e⟩ := List.getElem_of_mem hp
    obtain ⟨ad, _, _, h, _⟩ := hcell k hk
    rw [List.getD_eq_getElem?_getD, List.getElem?_eq_getElem hk, Option.getD_some, e] at h
    exact h
  clear hR hcell
  obtain ⟨Z, hZ, hmk⟩ : ∃ Z : Array Value, Z.size = L.length * 2 ∧ ∀ w, (Instr.makeSlice 22 (.int .i64 0) (.int .i64 (L.length : Int))).run Try.prog w = .ok (.slice (some ⟨w.heap.size, 0, none⟩) 0 L.length) (w.alloc (.cells Z 33)) := by
    refine ⟨madeCells (Value.agg #[.int .i64 0, .int .i64 0]).cells (L.length * 2), by simp [size_madeCells], fun w => ?_⟩
    have h := run_make (P := Try.prog) w 22 33 i0 _ Try.underlying22 hi hz0 .i64 .i64 0 (L.length : Int) (by omega) (by omega) (by rw [hz2]; omega) (by omega)
    rw [hz1] at h
    simpa using h
  have hrow0 := hide (World.ownsRow_made (base := w.heap.size) (e := 33) (size := 2) w Z L.length (Nat.le_refl _) (by unfold maxLen; omega) hZ)
  go_enter Try.func6, Try.ntmps6
  go_wp2_with fail
  (refine ((unhide T1) _).mono ?_; rintro e w ⟨rfl, rfl⟩)
  go_wp2_with fail
  go_loopw [7, 18] (fun vs vi wr => ∃ k : Nat, k ≤ L.length ∧ vi = .int .i64 (k : Int) ∧ Hid (wr.ownsRow w.heap.size 33 2 vs k (cl ((L.take k).map tn))) ∧ Hid (Keep w wr)) (fun vs vi _ => L.length - (intOf vi).toNat)
  case atStart => exact ⟨0, Nat.zero_le _, rfl, hrow0, hide ((Keep.refl w).alloc _)⟩
  case round =>
    obtain ⟨k, hk, rfl, HROW, HK⟩ := hrel
    by_cases hlt : k < L.length
    · have li : (k : Int) < (L.length : Int) := by omega
      obtain ⟨ad, rfl, hb, hin, c0, c1⟩ := (unhide HC) k hlt
      replace c0 : wr.cell? (ad.add (k * 2)) = some (.int .i64 (L.getD k (0, 0)).1) := by rw [Below.cell (unhide HK) (by rw [add_block]; exact hb)]; exact c0
      replace c1 : wr.cell? ⟨(ad.add (k * 2)).block, (ad.add (k * 2)).off + 1, none⟩ = some (.int .i64 (L.getD k (0, 0)).2) := by rw [Below.cell (p := ⟨(ad.add (k * 2)).block, (ad.add (k * 2)).off + 1, none⟩) (unhide HK) (by show (ad.add (k * 2)).block < _; rw [add_block]; exact hb)]; exact c1
      have HS : Hid ((L.take (k + 1)).map tn = (L.take k).map tn ++ [tn (L.getD k (0, 0))]) := by unfold Hid; rw [take_snoc hlt, List.map_append]; rfl
      have htn := (unhide HTN) _ hin
      generalize L.getD k (0, 0) = p at *
      obtain ⟨x, y⟩ := p
      simp only at c0 c1 htn hin
      have T2x := hide ((unhide T2) x hin.1)
      generalize moA x c = m at *
      obtain ⟨z, hz⟩ : ∃ z, IntKind.i64.wrap (m + mb) = z := ⟨_, rfl⟩
      rw [hz] at htn
      have HT := hide htn
      clear htn hin
      have hsz := Below.size (unhide HK)
      go_wp2_with fail
      refine wp_region_held_drew (S := fun w' => w'.cell? ⟨wr.heap.size, 0, none⟩ = some (.int .i64 x) ∧ w'.cell? ⟨wr.heap.size, 1, none⟩ = some (.int .i64 y)) (by kernel_rfl) (by constructor <;> simp [go_sem]) (fun hHeld => ?_)
      refine wpAnyH_take (i := 0) (v := ?_) rfl (by kernel_rfl) (by kernel_rfl) (by kernel_rfl) (fun _ _ _ h => h) (Or.inl ⟨by rfl, ?_⟩) hHeld ?_
      rotate_left
      · intro w hSw
        try dsimp only at hSw
        go_simp
        try with_reducible rfl
      show wpAnyH _ _ _ _ _ _ _ (Act.put _ (some 22) _) _
      try simp only [Act.put, List.setIfInBounds_toArray, List.set_cons_zero, List.set_cons_succ]
      refine wpAnyH_take (i := 1) (v := ?_) rfl (by kernel_rfl) (by kernel_rfl) (by kernel_rfl) (fun _ _ _ h => h) (Or.inl ⟨by rfl, ?_⟩) hHeld ?_
      rotate_left
      · intro w hSw
        try dsimp only at hSw
        go_simp
        try with_reducible rfl
      show wpAnyH _ _ _ _ _ _ _ (Act.put _ (some 23) _) _
      try simp only [Act.put, List.setIfInBounds_toArray, List.set_cons_zero, List.set_cons_succ]
      refine wpAnyH_take (i := 2) (v := ?_) rfl (by kernel_rfl) (by kernel_rfl) (by kernel_rfl) (fun _ _ _ h => h) (Or.inl ⟨by rfl, ?_⟩) hHeld ?_
      rotate_left
      · intro w hSw
        try dsimp only at hSw
        go_simp
        try with_reducible rfl
      show wpAnyH _ _ _ _ _ _ _ (Act.put _ (some 24) _) _
      try simp only [Act.put, List.setIfInBounds_toArray, List.set_cons_zero, List.set_cons_succ]
      refine wpAnyH_take (i := 3) (v := ?_) rfl (by kernel_rfl) (by kernel_rfl) (by kernel_rfl) (fun _ _ _ h => h) (Or.inl ⟨by rfl, ?_⟩) hHeld ?_
      rotate_left
      · intro w hSw
        try dsimp only at hSw
        go_simp
        try with_reducible rfl
      show wpAnyH _ _ _ _ _ _ _ (Act.put _ (some 25) _) _
      try simp only [Act.put, List.setIfInBounds_toArray, List.set_cons_zero, List.set_cons_succ]
      refine wpAnyH_take (i := 5) (v := ?_) rfl (by kernel_rfl) (by kernel_rfl) (by kernel_rfl) (fun _ _ _ h => h) (Or.inl ⟨by rfl, ?_⟩) hHeld ?_
      rotate_left
      · intro w hSw
        try dsimp only at hSw
        go_simp
        try with_reducible rfl
      show wpAnyH _ _ _ _ _ _ _ (Act.put _ (some 27) _) _
      try simp only [Act.put, List.setIfInBounds_toArray, List.set_cons_zero, List.set_cons_succ]
      refine wpAnyH_take (i := 7) (v := ?_) rfl (by kernel_rfl) (by kernel_rfl) (by kernel_rfl) (fun _ _ _ h => h) (Or.inl ⟨by rfl, ?_⟩) hHeld ?_
      rotate_left
      · intro w hSw
        try dsimp only at hSw
        go_simp
        try with_reducible rfl
      show wpAnyH _ _ _ _ _ _ _ (Act.put _ (some 29) _) _
      try simp only [Act.put, List.setIfInBounds_toArray, List.set_cons_zero, List.set_cons_succ]
      refine wpAnyH_take (i := 8) (v := ?_) rfl (by kernel_rfl) (by kernel_rfl) (by kernel_rfl) (fun _ _ _ h => h) (Or.inl ⟨by rfl, ?_⟩) hHeld ?_
      rotate_left
      · intro w hSw
        try dsimp only at hSw
        go_simp
        try with_reducible rfl
      show wpAnyH _ _ _ _ _ _ _ (Act.put _ (some 30) _) _
      try simp only [Act.put, List.setIfInBounds_toArray, List.set_cons_zero, List.set_cons_succ]
      refine wpAnyH_ready (rs := [4]) (by kernel_rfl) (by simp) ?_
      refine AllReadyH.cons rfl (fun K hK => ?_) AllReadyH.nil
      go_simp
      clear hHeld
      (refine ((unhide T2x) _).mono ?_; rintro e w3 ⟨rfl, rfl⟩)
      try go_wp2_with fail
      refine hK.out _ _ ?_ (fun hHeld => ?_)
      · exact ⟨by simp [go_sem], by simp [go_sem]⟩
      clear hK K
      try simp only [Act.put, List.setIfInBounds_toArray, List.set_cons_zero, List.set_cons_succ]
      refine wpAnyH_take (i := 6) (v := ?_) rfl (by kernel_rfl) (by kernel_rfl) (by kernel_rfl) (fun _ _ _ h => h) (Or.inl ⟨by rfl, ?_⟩) hHeld ?_
      rotate_left
      · intro w hSw
        try dsimp only at hSw
        go_simp
        try with_reducible rfl
      show wpAnyH _ _ _ _ _ _ _ (Act.put _ (some 28) _) _
      try simp only [Act.put, List.setIfInBounds_toArray, List.set_cons_zero, List.set_cons_succ]
      refine wpAnyH_take (i := 9) (v := ?_) rfl (by kernel_rfl) (by kernel_rfl) (by kernel_rfl) (fun _ _ _ h => h) (Or.inl ⟨by rfl, ?_⟩) hHeld ?_
      rotate_left
      · intro w hSw
        try dsimp only at hSw
        go_simp
        try with_reducible rfl
      show wpAnyH _ _ _ _ _ _ _ (Act.put _ (some 31) _) _
      try simp only [Act.put, List.setIfInBounds_toArray, List.set_cons_zero, List.set_cons_succ]
      refine wpAnyH_ready (rs := [10]) (by kernel_rfl) (by simp) ?_
      refine AllReadyH.cons rfl (fun K hK => ?_) AllReadyH.nil
      go_simp
      clear hHeld
      refine hK.out _ _ ?_ (fun hHeld => ?_)
      · exact ⟨by simp [go_sem], by simp [go_sem]⟩
      clear hK K
      try simp only [Act.put, List.setIfInBounds_toArray, List.set_cons_zero, List.set_cons_succ]
      refine wpAnyH_ready (rs := [11]) (by kernel_rfl) (by simp) ?_
      refine AllReadyH.cons rfl (fun K hK => ?_) AllReadyH.nil
      refine wp_append_own _ _ _ 22 rfl w.heap.size 33 i0 _ 2 16 Try.underlying22 hi hz0 hz1 hz2 rfl (by decide) _ _ _ rfl (((unhide HROW).alloc (.cells #[.int .i64 x, .int .i64 y] 33)).alloc (.cells #[.int .i64 z, .int .i64 y] 33)) ⟨wr.heap.size + 1, 0, none⟩ 1 1 [.int .i64 z, .int .i64 y] rfl rfl (two_new1 wr _ z y _) (by simp [Value.oneCell']) (by unfold maxLen; omega) (by omega) (by show _ ≤ ((wr.alloc _).alloc _).heap.size; rw [World.size_alloc, World.size_alloc]; omega) ?_
      intro v' w4 hown hgrow hnil
      have HOWN := hide hown
      have HK4 : Hid (Keep w w4) := hide (Below.grown ((((unhide HK).alloc _).alloc _).drew) hgrow (by show _ ≤ ((wr.alloc _).alloc _).heap.size; rw [World.size_alloc, World.size_alloc]; omega) (fun j ej => ((unhide HROW).lt j ej).1))
      clear hown hnil hHeld
      refine hK.out _ _ ?_ (fun hHeld => ?_)
      · refine ⟨hgrow.cell ?_ ?_, hgrow.cell ?_ ?_⟩
        all_goals first
          | (simp [go_sem]; done)
          | (intro e; have := ((unhide HROW).lt wr.heap.size e.symm).2; omega)
      clear hK K hgrow
      try simp only [Act.put, List.setIfInBounds_toArray, List.set_cons_zero, List.set_cons_succ]
      refine wpAnyH_take (i := 12) (v := ?_) rfl (by kernel_rfl) (by kernel_rfl) (by kernel_rfl) (fun _ _ _ h => h) (Or.inl ⟨by rfl, ?_⟩) hHeld ?_
      rotate_left
      · intro w hSw
        try dsimp only at hSw
        go_simp
        try with_reducible rfl
      show wpAnyH _ _ _ _ _ _ _ (Act.put _ (some 7) _) _
      try simp only [Act.put, List.setIfInBounds_toArray, List.set_cons_zero, List.set_cons_succ]
      refine wpAnyH_done (by kernel_rfl) ?_ _
      clear hHeld
      go_wp2_with fail
      go_roundw
      case rel =>
        refine ⟨k + 1, hlt, by go_num, ?_, HK4⟩
        rw [unhide HS, cl_append, unhide HT]
        exact HOWN
      case measure => simp [intOf]; omega
    · have e : k = L.length := by omega
      subst e
      rw [List.take_length] at HROW
      have hinn : ∀ p, p ∈ L.map tn → InP p := by
        intro p hp
        obtain ⟨q, hq, rfl⟩ := List.mem_map.1 hp
        have hq2 := (unhide HI) q hq
        rw [(unhide HTN) q hq2]
        exact ⟨wrap_inn _, hq2.2⟩
      obtain ⟨av, cv, hv⟩ := own_slice (unhide HROW)
      subst hv
      have HRS := hide (rs_own hinn (by rw [List.length_map]; exact unhide HROW))
      clear hinn
      go_wp2_with fail
      (refine ((unhide T3) _ _ (unhide HK) (unhide HRS)).mono ?_; rintro e w5 ⟨v5, rfl, h5⟩; have H5 := hide h5; clear h5)
      go_wp2_with fail
      go_ret
      exact ⟨v5, rfl, unhide H5⟩
/-- arcs, turned -/
def tn (c b : Int) (L : List Pr) : List Pr := L.map (tn1 c b)
theorem turn_any (c b : Int) (hc : In c) (hb : In b) (v0 : Value) (L : List Pr) (w : World) (hl : L.length ≤ 50000) (hR : Rs w v0 L) :
    Calls Try.prog 6 #[.int .i64 c, v0, .int .i64 b] w fun e w' => ∃ v, e = .returned v ∧ Fr w c (Ta c (tn c b L)) w' v := by
  refine turn_core c b (moA b c) v0 L (tn1 c b) w (Fr w c (Ta c (tn c b L))) hl hR (hide fun p _ => rfl) (hide fun w => tick_any c b hc hb w) (hide fun t ht w => tick_any c t hc ht w) (hide fun w' v hk hv => ?_)
  refine (set_any c hc v _ w' (by rw [List.length_map]; exact hl) hv).mono ?_
  rintro e w'' ⟨v, he, M, h1, h2, h3, h4⟩
  exact ⟨v, he, M, h1, h2, lob_mono h3 (Below.size hk), hk.trans h4⟩
theorem moA_cyc {c : Int} (hc : Cyc c) (t : Int) : moA t c = t % c := by unfold moA; rw [if_neg (by have := hc.1; omega)]
theorem ta_tn {c : Int} (hc : Cyc c) (b : Int) (L : List Pr) (t : Int) : Ta c (tn c b L) t ↔ Ta c L (t - b) := by
  have key : ∀ p : Pr, Ia c (tn1 c b p) t ↔ Ia c p (t - b) := by
    intro p
    have h1 := em_bd hc.1 p.1
    have h2 := em_bd hc.1 b
    have hw : IntKind.i64.wrap (moA p.1 c + moA b c) = p.1 % c + b % c := by
      rw [moA_cyc hc, moA_cyc hc, IntKind.wrap_i64]
      have := hc.2
      omega
    unfold Ia tn1
    rw [hw]
    have e : (t - (p.1 % c + b % c)) % c = (t - b - p.1) % c := by
      rw [show t - (p.1 % c + b % c) = (t - b % c) - p.1 % c by omega, em_sub, show t - b % c - p.1 = (t - p.1) - b % c by omega, em_sub, show t - p.1 - b = t - b - p.1 by omega]
    simp only [e]
  unfold Ta tn
  constructor
  · rintro ⟨a, ha, hi⟩
    obtain ⟨p, hp, rfl⟩ := List.mem_map.1 ha
    exact ⟨p, hp, (key p).1 hi⟩
  · rintro ⟨p, hp, hi⟩
    exact ⟨_, List.mem_map_of_mem hp, (key p).2 hi⟩
end Go.Proofs.Ytcllijjmjmfedaa
