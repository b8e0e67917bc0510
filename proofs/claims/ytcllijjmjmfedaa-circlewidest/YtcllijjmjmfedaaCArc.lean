/- Package circle, one arc: the rest by the cycle, an arc in form, whether a tick is one of its, how many ticks lie between two. -/
import Derived.Test.YtcllijjmjmfedaaCMod
namespace Go.Proofs.Ytcllijjmjmfedaa
open Go.RowKit
attribute [local go_sem ↓] Go.wp_at_zero Go.wp_at_succ
set_option linter.unusedVariables false
set_option linter.unusedSimpArgs false
set_option maxRecDepth 10000
set_option maxHeartbeats 1000000 in
theorem cyc_yes (c : Int) (h : Cyc c) (w : World) : Calls Try.prog 24 #[.int .i64 c] w fun e w' => e = .returned (.bool true) ∧ w' = w := by
  obtain ⟨h1, h2⟩ := h
  go_enter Try.func24, Try.ntmps24
  go_wp2
  go_ret
  exact ⟨rfl, rfl⟩
set_option maxHeartbeats 1000000 in
theorem cyc_no (c : Int) (h : ¬ Cyc c) (w : World) : Calls Try.prog 24 #[.int .i64 c] w fun e w' => e = .returned (.bool false) ∧ w' = w := by
  by_cases h1 : 1 ≤ c
  · have h2 : ¬ c ≤ 6000 := fun k => h ⟨h1, k⟩
    clear h
    go_enter Try.func24, Try.ntmps24
    go_wp2
    go_ret
    exact ⟨rfl, rfl⟩
  · clear h
    go_enter Try.func24, Try.ntmps24
    go_wp2
    go_ret
    exact ⟨rfl, rfl⟩
set_option maxHeartbeats 1000000 in
theorem tick_core (c t r x : Int) (w : World) (T : Hid (∀ w, Calls Try.prog 25 #[.int .i64 t, .int .i64 c] w fun e w' => e = .returned (.tuple #[.int .i64 r, .int .i64 x]) ∧ w' = w)) :
    Calls Try.prog 16 #[.int .i64 c, .int .i64 t] w fun e w' => e = .returned (.int .i64 r) ∧ w' = w := by
  go_enter Try.func16, Try.ntmps16
  go_wp2_with fail
  (refine ((unhide T) _).mono ?_; rintro e w ⟨rfl, rfl⟩)
  go_wp2_with fail
  go_ret
  exact ⟨rfl, rfl⟩
theorem tick_any (c t : Int) (hc : In c) (ht : In t) (w : World) :
    Calls Try.prog 16 #[.int .i64 c, .int .i64 t] w fun e w' => e = .returned (.int .i64 (moA t c)) ∧ w' = w :=
  tick_core c t _ _ w (hide fun w => mod_any t c w ht.1 ht.2 hc.1 hc.2)
theorem tick_cyc (c t : Int) (hc : Cyc c) (ht : In t) (w : World) :
    Calls Try.prog 16 #[.int .i64 c, .int .i64 t] w fun e w' => e = .returned (.int .i64 (t % c)) ∧ w' = w := by
  have h := tick_any c t (by unfold In; have := hc.1; have := hc.2; omega) ht w
  unfold moA at h
  rw [if_neg (by have := hc.1; omega)] at h
  exact h
set_option maxHeartbeats 1000000 in
theorem norm_core1 (c a n : Int) (w : World) (T : Hid (∀ w, Calls Try.prog 24 #[.int .i64 c] w fun e w' => e = .returned (.bool false) ∧ w' = w)) :
    Calls Try.prog 15 #[.int .i64 c, .agg #[.int .i64 a, .int .i64 n]] w fun e w' => e = .returned (.agg #[.int .i64 0, .int .i64 0]) ∧ Keep w w' := by
  go_enter Try.func15, Try.ntmps15
  go_wp2_with fail
  (refine ((unhide T) _).mono ?_; rintro e w2 ⟨rfl, rfl⟩)
  go_wp2_with fail
  exact bodyPost_ret (v := .agg #[.int .i64 0, .int .i64 0]) (by simp [results, Try.results15, go_sem]) rfl ⟨rfl, by repeat (first | apply keep_ext | apply Keep.alloc | apply Keep.drew | exact Keep.refl _)⟩
set_option maxHeartbeats 1000000 in
theorem norm_core2 (c a n : Int) (w : World) (hn : n < 1) (T : Hid (∀ w, Calls Try.prog 24 #[.int .i64 c] w fun e w' => e = .returned (.bool true) ∧ w' = w)) :
    Calls Try.prog 15 #[.int .i64 c, .agg #[.int .i64 a, .int .i64 n]] w fun e w' => e = .returned (.agg #[.int .i64 0, .int .i64 0]) ∧ Keep w w' := by
  go_enter Try.func15, Try.ntmps15
  go_wp2_with fail
  (refine ((unhide T) _).mono ?_; rintro e w2 ⟨rfl, rfl⟩)
  go_wp2_with fail
  exact bodyPost_ret (v := .agg #[.int .i64 0, .int .i64 0]) (by simp [results, Try.results15, go_sem]) rfl ⟨rfl, by repeat (first | apply keep_ext | apply Keep.alloc | apply Keep.drew | exact Keep.refl _)⟩
set_option maxHeartbeats 1000000 in
theorem norm_core3 (c a n : Int) (w : World) (hn : 1 ≤ n) (hc : c ≤ n) (T : Hid (∀ w, Calls Try.prog 24 #[.int .i64 c] w fun e w' => e = .returned (.bool true) ∧ w' = w)) :
    Calls Try.prog 15 #[.int .i64 c, .agg #[.int .i64 a, .int .i64 n]] w fun e w' => e = .returned (.agg #[.int .i64 0, .int .i64 c]) ∧ Keep w w' := by
  go_enter Try.func15, Try.ntmps15
  go_wp2_with fail
  (refine ((unhide T) _).mono ?_; rintro e w2 ⟨rfl, rfl⟩)
  go_wp2_with fail
  exact bodyPost_ret (v := .agg #[.int .i64 0, .int .i64 c]) (by simp [results, Try.results15, go_sem]) rfl ⟨rfl, by repeat (first | apply keep_ext | apply Keep.alloc | apply Keep.drew | exact Keep.refl _)⟩
set_option maxHeartbeats 1000000 in
theorem norm_core4 (c a n r : Int) (w : World) (hn : 1 ≤ n) (hc : n < c) (T : Hid (∀ w, Calls Try.prog 24 #[.int .i64 c] w fun e w' => e = .returned (.bool true) ∧ w' = w))
    (T2 : Hid (∀ w, Calls Try.prog 16 #[.int .i64 c, .int .i64 a] w fun e w' => e = .returned (.int .i64 r) ∧ w' = w)) :
    Calls Try.prog 15 #[.int .i64 c, .agg #[.int .i64 a, .int .i64 n]] w fun e w' => e = .returned (.agg #[.int .i64 r, .int .i64 n]) ∧ Keep w w' := by
  go_enter Try.func15, Try.ntmps15
  go_wp2_with fail
  (refine ((unhide T) _).mono ?_; rintro e w2 ⟨rfl, rfl⟩)
  go_wp2_with fail
  refine wp_region_held_drew (S := fun w' => w'.cell? ⟨w.heap.size, 0, none⟩ = some (.int .i64 a) ∧ w'.cell? ⟨w.heap.size, 1, none⟩ = some (.int .i64 n)) (by kernel_rfl) (by constructor <;> simp [go_sem]) (fun hHeld => ?_)
  refine wpAnyH_take (i := 0) (v := ?_) rfl (by kernel_rfl) (by kernel_rfl) (by kernel_rfl) (fun _ _ _ h => h) (Or.inl ⟨by rfl, ?_⟩) hHeld ?_
  rotate_left
  · intro w hSw
    try dsimp only at hSw
    go_simp
    try with_reducible rfl
  show wpAnyH _ _ _ _ _ _ _ (Act.put _ (some 20) _) _
  try simp only [Act.put, List.setIfInBounds_toArray, List.set_cons_zero, List.set_cons_succ]
  refine wpAnyH_take (i := 1) (v := ?_) rfl (by kernel_rfl) (by kernel_rfl) (by kernel_rfl) (fun _ _ _ h => h) (Or.inl ⟨by rfl, ?_⟩) hHeld ?_
  rotate_left
  · intro w hSw
    try dsimp only at hSw
    go_simp
    try with_reducible rfl
  show wpAnyH _ _ _ _ _ _ _ (Act.put _ (some 21) _) _
  try simp only [Act.put, List.setIfInBounds_toArray, List.set_cons_zero, List.set_cons_succ]
  refine wpAnyH_take (i := 2) (v := ?_) rfl (by kernel_rfl) (by kernel_rfl) (by kernel_rfl) (fun _ _ _ h => h) (Or.inl ⟨by rfl, ?_⟩) hHeld ?_
  rotate_left
  · intro w hSw
    try dsimp only at hSw
    go_simp
    try with_reducible rfl
  show wpAnyH _ _ _ _ _ _ _ (Act.put _ (some 22) _) _
  try simp only [Act.put, List.setIfInBounds_toArray, List.set_cons_zero, List.set_cons_succ]
  refine wpAnyH_take (i := 4) (v := ?_) rfl (by kernel_rfl) (by kernel_rfl) (by kernel_rfl) (fun _ _ _ h => h) (Or.inl ⟨by rfl, ?_⟩) hHeld ?_
  rotate_left
  · intro w hSw
    try dsimp only at hSw
    go_simp
    try with_reducible rfl
  show wpAnyH _ _ _ _ _ _ _ (Act.put _ (some 24) _) _
  try simp only [Act.put, List.setIfInBounds_toArray, List.set_cons_zero, List.set_cons_succ]
  refine wpAnyH_take (i := 5) (v := ?_) rfl (by kernel_rfl) (by kernel_rfl) (by kernel_rfl) (fun _ _ _ h => h) (Or.inl ⟨by rfl, ?_⟩) hHeld ?_
  rotate_left
  · intro w hSw
    try dsimp only at hSw
    go_simp
    try with_reducible rfl
  show wpAnyH _ _ _ _ _ _ _ (Act.put _ (some 25) _) _
  try simp only [Act.put, List.setIfInBounds_toArray, List.set_cons_zero, List.set_cons_succ]
  refine wpAnyH_ready (rs := [3]) (by kernel_rfl) (by simp) ?_
  refine AllReadyH.cons rfl (fun K hK => ?_) AllReadyH.nil
  go_simp
  clear hHeld
  (refine ((unhide T2) _).mono ?_; rintro e w3 ⟨rfl, rfl⟩)
  try go_wp2_with fail
  refine hK.out _ _ ?_ (fun hHeld => ?_)
  · exact ⟨by simp [go_sem], by simp [go_sem]⟩
  clear hK K
  try simp only [Act.put, List.setIfInBounds_toArray, List.set_cons_zero, List.set_cons_succ]
  refine wpAnyH_take (i := 6) (v := ?_) rfl (by kernel_rfl) (by kernel_rfl) (by kernel_rfl) (fun _ _ _ h => h) (Or.inl ⟨by rfl, ?_⟩) hHeld ?_
  rotate_left
  · intro w hSw
    try dsimp only at hSw
    go_simp
    try with_reducible rfl
  show wpAnyH _ _ _ _ _ _ _ (Act.put _ (some 26) _) _
  try simp only [Act.put, List.setIfInBounds_toArray, List.set_cons_zero, List.set_cons_succ]
  refine wpAnyH_ready (rs := [7]) (by kernel_rfl) (by simp) ?_
  refine AllReadyH.cons rfl (fun K hK => ?_) AllReadyH.nil
  go_simp
  clear hHeld
  refine hK.out _ _ ?_ (fun hHeld => ?_)
  · exact ⟨by simp [go_sem], by simp [go_sem]⟩
  clear hK K
  try simp only [Act.put, List.setIfInBounds_toArray, List.set_cons_zero, List.set_cons_succ]
  refine wpAnyH_done (by kernel_rfl) ?_ _
  clear hHeld
  go_wp2_with fail
  exact bodyPost_ret (v := .agg #[.int .i64 r, .int .i64 n]) (by simp [results, Try.results15, go_sem]) rfl ⟨rfl, by repeat (first | apply keep_ext | apply Keep.alloc | apply Keep.drew | exact Keep.refl _)⟩
theorem norm_any (c : Int) (a : Pr) (ha : InP a) (w : World) :
    Calls Try.prog 15 #[.int .i64 c, .agg #[.int .i64 a.1, .int .i64 a.2]] w fun e w' => e = .returned (.agg #[.int .i64 (nm c a).1, .int .i64 (nm c a).2]) ∧ Keep w w' := by
  unfold nm
  by_cases hc : Cyc c
  · by_cases hn : a.2 < 1
    · rw [if_pos (.inr hn)]
      exact norm_core2 c _ _ w hn (hide (cyc_yes c hc))
    · rw [if_neg (fun h => h.elim (fun k => k hc) hn)]
      by_cases h2 : c ≤ a.2
      · rw [if_pos h2]
        exact norm_core3 c _ _ w (by omega) h2 (hide (cyc_yes c hc))
      · rw [if_neg h2]
        exact norm_core4 c _ _ _ w (by omega) (by omega) (hide (cyc_yes c hc)) (hide (tick_cyc c a.1 hc ha.1))
  · rw [if_pos (.inl hc)]
    exact norm_core1 c _ _ w (hide (cyc_no c hc))
theorem nm_in {c : Int} (hc : In c) {a : Pr} (ha : InP a) : InP (nm c a) := by
  rcases nm_bd c a with ⟨h1, h2⟩ | ⟨h0, h1, h2, h3, h4⟩
  · unfold InP In; rw [h1, h2]; omega
  · have := h0.2
    unfold InP In; omega
theorem moA_nn (t c : Int) : 0 ≤ moA t c := by
  unfold moA
  split
  · omega
  · exact Int.emod_nonneg _ (by omega)
theorem moA_in {c : Int} (hc : In c) (t : Int) : 0 ≤ moA t c ∧ moA t c ≤ 9223372036854775807 := by
  refine ⟨moA_nn t c, ?_⟩
  have := hc.2
  unfold moA
  split
  · omega
  · have := Int.emod_lt_of_pos t (show 0 < c by omega)
    omega
end Go.Proofs.Ytcllijjmjmfedaa
