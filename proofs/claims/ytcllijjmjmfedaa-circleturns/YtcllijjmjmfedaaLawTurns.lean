/- Proved: for every cycle of at most 300 ticks, or of none that there is, at most 30 arcs and any two numbers: arcs turned by the first are the document's, and have as many ticks; turned by the second again they are what they are turned by both at once (more is let by). -/
import Derived.Test.YtcllijjmjmfedaaRows
import Derived.Test.YtcllijjmjmfedaaCAwk
import Derived.Test.YtcllijjmjmfedaaCTurn
import Derived.Test.YtcllijjmjmfedaaCRefT
import Derived.Test.YtcllijjmjmfedaaCOpa
namespace Go.Proofs.Ytcllijjmjmfedaa.turns
open Go.ChangeShapes Go.WideShapes Go.ChangeAt Go.RowKit Go.Joins
attribute [local go_sem ↓] Go.wp_at_zero Go.wp_at_succ
set_option linter.unusedVariables false
set_option linter.unusedSimpArgs false
set_option maxRecDepth 10000
set_option maxHeartbeats 1000000 in
theorem walk0 (c b0 b1 : Int) (a : Option Addr) (n cap : Nat) (w : World) (T0 : Hid (∀ w g, w.cell? ⟨g, 0, none⟩ = some (.slice a n cap) → Calls Try.prog 5 #[.int .i64 c, .slice (some ⟨g, 0, none⟩) 1 1] w fun e w' => e = .returned (.bool false) ∧ w' = w)) :
    Calls Try.prog 3 #[.int .i64 c, .slice a n cap, .agg #[.int .i64 b0, .int .i64 b1]] w fun e w' => e = .returned (.bool true) ∧ Below w.heap.size w w' := by
  go_enter Try.func3, Try.ntmps3
  go_wp2_with fail
  (refine ((unhide T0) _ _ (by simp [go_sem])).mono ?_; rintro e w2 ⟨rfl, rfl⟩)
  go_wp2_with fail
  go_ret
  exact ⟨rfl, ((Keep.refl w).alloc _).alloc _⟩
set_option maxHeartbeats 2000000 in
theorem walk1 (c b0 b1 X m0 m1 s : Int) (a : Option Addr) (n cap : Nat) (M1 M2 : List Pr) (cy : Bool) (w : World)
    (hz : (c == 0) = false ∨ cy = false) (hm : 0 ≤ m0 ∧ m0 ≤ 6000 ∧ 0 ≤ m1 ∧ m1 ≤ 6000) (hs : (m0 + m1).tmod c = s) (hM : cy = false → M1 = [])
    (T0 : Hid (∀ w g, w.cell? ⟨g, 0, none⟩ = some (.slice a n cap) → Calls Try.prog 5 #[.int .i64 c, .slice (some ⟨g, 0, none⟩) 1 1] w fun e w' => e = .returned (.bool true) ∧ w' = w))
    (T1 : Hid (∀ w', Keep w w' → Calls Try.prog 6 #[.int .i64 c, .slice a n cap, .int .i64 b0] w' fun e w'' => ∃ v, e = .returned v ∧ Rs w'' v M1 ∧ Keep w' w''))
    (T2 : Hid (∀ w', Keep w w' → Calls Try.prog 8 #[.int .i64 c, .slice a n cap, .int .i64 b0] w' fun e w'' => ∃ v, e = .returned v ∧ Rs w'' v M1 ∧ Keep w' w''))
    (T3 : Hid (∀ w' u v, Rs w' u M1 → Rs w' v M1 → Calls Try.prog 7 #[u, v] w' fun e w'' => e = .returned (.bool true) ∧ Keep w' w''))
    (T4 : Hid (∀ w' u, Rs w' u M1 → Calls Try.prog 9 #[.int .i64 c, u] w' fun e w'' => e = .returned (.int .i64 X) ∧ Keep w' w''))
    (T5 : Hid (∀ w', Keep w w' → Calls Try.prog 9 #[.int .i64 c, .slice a n cap] w' fun e w'' => e = .returned (.int .i64 X) ∧ Keep w' w''))
    (T6 : Hid (∀ w', Calls Try.prog 10 #[.int .i64 c] w' fun e w'' => e = .returned (.bool cy) ∧ w'' = w'))
    (T7 : Hid (cy = true → ∀ w', Calls Try.prog 12 #[.int .i64 b0, .int .i64 c] w' fun e w'' => e = .returned (.int .i64 m0) ∧ w'' = w'))
    (T9 : Hid (cy = true → ∀ w', Calls Try.prog 12 #[.int .i64 b1, .int .i64 c] w' fun e w'' => e = .returned (.int .i64 m1) ∧ w'' = w'))
    (TA : Hid (cy = true → ∀ w' u, Rs w' u M1 → Calls Try.prog 6 #[.int .i64 c, u, .int .i64 b1] w' fun e w'' => ∃ v, e = .returned v ∧ Rs w'' v M2 ∧ Keep w' w''))
    (TB : Hid (cy = true → ∀ w', Keep w w' → Calls Try.prog 6 #[.int .i64 c, .slice a n cap, .int .i64 s] w' fun e w'' => ∃ v, e = .returned v ∧ Rs w'' v M2 ∧ Keep w' w''))
    (TC : Hid (∀ w' u v, Rs w' u M2 → Rs w' v M2 → Calls Try.prog 7 #[u, v] w' fun e w'' => e = .returned (.bool true) ∧ Keep w' w''))
    (T8 : Hid (∀ w', Calls Try.prog 11 #[] w' fun e w'' => e = .returned (.bool true) ∧ Keep w' w'')) :
    Calls Try.prog 3 #[.int .i64 c, .slice a n cap, .agg #[.int .i64 b0, .int .i64 b1]] w fun e w' => e = .returned (.bool true) ∧ Below w.heap.size w w' := by
  have CB : Hid (∀ W, Keep (w.alloc (.cells #[.int .i64 b0, .int .i64 b1] 23)) W → W.cell? ⟨w.heap.size, 0, none⟩ = some (.int .i64 b0) ∧ W.cell? ⟨w.heap.size, 1, none⟩ = some (.int .i64 b1)) := by
    intro W hk
    have e : ∀ i, W.cell? ⟨w.heap.size, i, none⟩ = (w.alloc (.cells #[.int .i64 b0, .int .i64 b1] 23)).cell? ⟨w.heap.size, i, none⟩ := fun i => Below.cell (p := ⟨w.heap.size, i, none⟩) hk (by show w.heap.size < _; rw [World.size_alloc]; omega)
    rw [e, e]
    exact ⟨by simp [go_sem], by simp [go_sem]⟩
  have kw := hide ((Keep.refl w).alloc (.cells #[.int .i64 b0, .int .i64 b1] 23))
  have HM := hide hM
  have HSs := hide hs
  clear hM hs
  go_enter Try.func3, Try.ntmps3
  go_wp2_with fail
  (refine ((unhide T0) _ _ (by simp [go_sem])).mono ?_; rintro e w0 ⟨rfl, rfl⟩)
  have k0 := hide ((Keep.refl (w.alloc (.cells #[.int .i64 b0, .int .i64 b1] 23))).alloc (.cells #[.slice a n cap] 22))
  go_wp2_with fail
  (refine ((unhide T1) _ ((unhide kw).trans (unhide k0))).mono ?_; rintro e w1 ⟨v1, rfl, h1, hk⟩; have k1 := hide ((unhide k0).trans hk); have H1 := hide h1; clear hk h1)
  obtain ⟨c0, c1⟩ := (unhide CB) _ (unhide k1)
  obtain ⟨av, cv, hv1⟩ := rs_slice (unhide H1)
  subst hv1
  go_wp2_with fail
  (refine ((unhide T2) _ ((unhide kw).trans (unhide k1))).mono ?_; rintro e w2 ⟨v2, rfl, h2, hk⟩; have k2 := hide ((unhide k1).trans hk); have H2 := hide h2; replace H1 := hide ((unhide H1).keep hk); clear hk h2 c0 c1)
  go_wp2_with fail
  (refine ((unhide T3) _ _ _ (unhide H1) (unhide H2)).mono ?_; rintro e w3 ⟨rfl, hk⟩; have k3 := hide ((unhide k2).trans hk); replace H1 := hide ((unhide H1).keep hk); clear hk H2)
  go_wp2_with fail
  (refine ((unhide T4) _ _ (unhide H1)).mono ?_; rintro e w4 ⟨rfl, hk⟩; have k4 := hide ((unhide k3).trans hk); replace H1 := hide ((unhide H1).keep hk); clear hk)
  go_wp2_with fail
  (refine ((unhide T5) _ ((unhide kw).trans (unhide k4))).mono ?_; rintro e w5 ⟨rfl, hk⟩; have k5 := hide ((unhide k4).trans hk); replace H1 := hide ((unhide H1).keep hk); clear hk)
  go_wp2_with fail
  (refine ((unhide T6) _).mono ?_; rintro e w6 ⟨rfl, rfl⟩)
  cases cy with
  | false =>
    have e0 := (unhide HM) rfl
    subst e0
    go_wp2_with fail
    (refine ((unhide T8) _).mono ?_; rintro e w7 ⟨rfl, hk⟩; have k7 := hide ((unhide k5).trans hk); clear hk)
    go_wp2_with fail
    go_ret
    exact ⟨rfl, (unhide kw).trans (unhide k7)⟩
  | true =>
    have hz' : (c == 0) = false := hz.resolve_right (by decide)
    clear hz
    have T7' := hide ((unhide T7) rfl)
    have T9' := hide ((unhide T9) rfl)
    have TA' := hide ((unhide TA) rfl)
    have TB' := hide ((unhide TB) rfl)
    obtain ⟨c0, c1⟩ := (unhide CB) _ (unhide k5)
    go_wp2_with fail
    have hw : IntKind.i64.wrap (m0 + m1) = m0 + m1 := by rw [IntKind.wrap_i64]; omega
    have hs' := unhide HSs
    have hc0 : ¬ c = 0 := by simpa using hz'
    refine wp_region_held_drew (S := fun w' => w'.cell? ⟨w.heap.size, 0, none⟩ = some (.int .i64 b0) ∧ w'.cell? ⟨w.heap.size, 1, none⟩ = some (.int .i64 b1)) (by kernel_rfl) (by exact ⟨c0, c1⟩) (fun hHeld => ?_)
    refine wpAnyH_take (i := 0) (v := ?_) rfl (by kernel_rfl) (by kernel_rfl) (by kernel_rfl) (fun _ _ _ h => h) (Or.inl ⟨by rfl, ?_⟩) hHeld ?_
    rotate_left
    · intro w hSw
      try dsimp only at hSw
      go_simp
      try with_reducible rfl
    show wpAnyH _ _ _ _ _ _ _ (Act.put _ (some 45) _) _
    try simp only [Act.put, List.setIfInBounds_toArray, List.set_cons_zero, List.set_cons_succ]
    refine wpAnyH_take (i := 1) (v := ?_) rfl (by kernel_rfl) (by kernel_rfl) (by kernel_rfl) (fun _ _ _ h => h) (Or.inl ⟨by rfl, ?_⟩) hHeld ?_
    rotate_left
    · intro w hSw
      try dsimp only at hSw
      go_simp
      try with_reducible rfl
    show wpAnyH _ _ _ _ _ _ _ (Act.put _ (some 46) _) _
    try simp only [Act.put, List.setIfInBounds_toArray, List.set_cons_zero, List.set_cons_succ]
    refine wpAnyH_take (i := 2) (v := ?_) rfl (by kernel_rfl) (by kernel_rfl) (by kernel_rfl) (fun _ _ _ h => h) (Or.inl ⟨by rfl, ?_⟩) hHeld ?_
    rotate_left
    · intro w hSw
      try dsimp only at hSw
      go_simp
      try with_reducible rfl
    show wpAnyH _ _ _ _ _ _ _ (Act.put _ (some 47) _) _
    try simp only [Act.put, List.setIfInBounds_toArray, List.set_cons_zero, List.set_cons_succ]
    refine wpAnyH_take (i := 4) (v := ?_) rfl (by kernel_rfl) (by kernel_rfl) (by kernel_rfl) (fun _ _ _ h => h) (Or.inl ⟨by rfl, ?_⟩) hHeld ?_
    rotate_left
    · intro w hSw
      try dsimp only at hSw
      go_simp
      try with_reducible rfl
    show wpAnyH _ _ _ _ _ _ _ (Act.put _ (some 49) _) _
    try simp only [Act.put, List.setIfInBounds_toArray, List.set_cons_zero, List.set_cons_succ]
    refine wpAnyH_take (i := 5) (v := ?_) rfl (by kernel_rfl) (by kernel_rfl) (by kernel_rfl) (fun _ _ _ h => h) (Or.inl ⟨by rfl, ?_⟩) hHeld ?_
    rotate_left
    · intro w hSw
      try dsimp only at hSw
      go_simp
      try with_reducible rfl
    show wpAnyH _ _ _ _ _ _ _ (Act.put _ (some 50) _) _
    try simp only [Act.put, List.setIfInBounds_toArray, List.set_cons_zero, List.set_cons_succ]
    refine wpAnyH_take (i := 6) (v := ?_) rfl (by kernel_rfl) (by kernel_rfl) (by kernel_rfl) (fun _ _ _ h => h) (Or.inl ⟨by rfl, ?_⟩) hHeld ?_
    rotate_left
    · intro w hSw
      try dsimp only at hSw
      go_simp
      try with_reducible rfl
    show wpAnyH _ _ _ _ _ _ _ (Act.put _ (some 51) _) _
    try simp only [Act.put, List.setIfInBounds_toArray, List.set_cons_zero, List.set_cons_succ]
    refine wpAnyH_take (i := 9) (v := ?_) rfl (by kernel_rfl) (by kernel_rfl) (by kernel_rfl) (fun _ _ _ h => h) (Or.inl ⟨by rfl, ?_⟩) hHeld ?_
    rotate_left
    · intro w hSw
      try dsimp only at hSw
      go_simp
      try with_reducible rfl
    show wpAnyH _ _ _ _ _ _ _ (Act.put _ (some 54) _) _
    try simp only [Act.put, List.setIfInBounds_toArray, List.set_cons_zero, List.set_cons_succ]
    refine wpAnyH_ready (rs := [3]) (by kernel_rfl) (by simp) ?_
    refine AllReadyH.cons rfl (fun K hK => ?_) AllReadyH.nil
    go_simp
    clear hHeld
    (refine ((unhide T7') _).mono ?_; rintro e w7 ⟨rfl, rfl⟩)
    try go_wp2_with fail
    refine hK.out _ _ ?_ (fun hHeld => ?_)
    · exact ⟨c0, c1⟩
    clear hK K
    try simp only [Act.put, List.setIfInBounds_toArray, List.set_cons_zero, List.set_cons_succ]
    refine wpAnyH_ready (rs := [7]) (by kernel_rfl) (by simp) ?_
    refine AllReadyH.cons rfl (fun K hK => ?_) AllReadyH.nil
    go_simp
    clear hHeld
    (refine ((unhide T9') _).mono ?_; rintro e w7 ⟨rfl, rfl⟩)
    try go_wp2_with fail
    refine hK.out _ _ ?_ (fun hHeld => ?_)
    · exact ⟨c0, c1⟩
    clear hK K
    try simp only [Act.put, List.setIfInBounds_toArray, List.set_cons_zero, List.set_cons_succ]
    refine wpAnyH_take (i := 8) (v := ?_) rfl (by kernel_rfl) (by kernel_rfl) (by kernel_rfl) (fun _ _ _ h => h) (Or.inl ⟨by rfl, ?_⟩) hHeld ?_
    rotate_left
    · intro w hSw
      try dsimp only at hSw
      go_simp
      try with_reducible rfl
    show wpAnyH _ _ _ _ _ _ _ (Act.put _ (some 53) _) _
    try simp only [Act.put, List.setIfInBounds_toArray, List.set_cons_zero, List.set_cons_succ]
    refine wpAnyH_take (i := 10) (v := ?_) rfl (by kernel_rfl) (by kernel_rfl) (by kernel_rfl) (fun _ _ _ h => h) (Or.inl ⟨by rfl, ?_⟩) hHeld ?_
    rotate_left
    · intro w hSw
      try dsimp only at hSw
      go_simp
      try with_reducible rfl
    show wpAnyH _ _ _ _ _ _ _ (Act.put _ (some 55) _) _
    try simp only [Act.put, List.setIfInBounds_toArray, List.set_cons_zero, List.set_cons_succ]
    refine wpAnyH_take (i := 11) (v := ?_) rfl (by kernel_rfl) (by kernel_rfl) (by kernel_rfl) (fun _ _ _ h => h) (Or.inl ⟨by rfl, ?_⟩) hHeld ?_
    rotate_left
    · intro w hSw
      try dsimp only at hSw
      go_simp
      try with_reducible rfl
    show wpAnyH _ _ _ _ _ _ _ (Act.put _ (some 8) _) _
    try simp only [Act.put, List.setIfInBounds_toArray, List.set_cons_zero, List.set_cons_succ]
    refine wpAnyH_done (by kernel_rfl) ?_ _
    clear hHeld
    clear hs' hw hc0
    go_wp2_with fail
    have k7 := hide ((unhide k5).drew)
    replace H1 := hide ((unhide H1).keep (Keep.refl _).drew)
    (refine ((unhide TA') _ _ (unhide H1)).mono ?_; rintro e w8 ⟨v8, rfl, h8, hk⟩; have k8 := hide ((unhide k7).trans hk); have H8 := hide h8; clear hk h8)
    go_wp2_with fail
    (refine ((unhide TB') _ ((unhide kw).trans (unhide k8))).mono ?_; rintro e w9 ⟨v9, rfl, h9, hk⟩; have k9 := hide ((unhide k8).trans hk); have H9 := hide h9; replace H8 := hide ((unhide H8).keep hk); clear hk h9)
    go_wp2_with fail
    (refine ((unhide TC) _ _ _ (unhide H8) (unhide H9)).mono ?_; rintro e w10 ⟨rfl, hk⟩; have k10 := hide ((unhide k9).trans hk); clear hk)
    go_wp2_with fail
    (refine ((unhide T8) _).mono ?_; rintro e w11 ⟨rfl, hk⟩; have k11 := hide ((unhide k10).trans hk); clear hk)
    go_wp2_with fail
    go_ret
    exact ⟨rfl, (unhide kw).trans (unhide k11)⟩
theorem tk_turn {c : Int} (hc : Cyc c) (b : Int) {L M : List Pr} (h : ∀ t, Ta c M t ↔ Ta c L (t - b)) : tk c M = tk c L := by
  unfold tk
  rw [if_pos hc, if_pos hc]
  have hb := em_bd hc.1 b
  rw [← cnt_turn (ta_per c L) hc.1 (b % c).toNat]
  refine cnt_congr _ fun t _ _ => ?_
  rw [h t, ← per_em (ta_per c L) (t - b), ← per_em (ta_per c L) (t - ((b % c).toNat : Nat)), show (((b % c).toNat : Nat) : Int) = b % c by omega, em_sub]
theorem walk (c : Int) (v0 : Value) (L : List Pr) (b0 b1 : Int) (w : World) (w0 : (Lit.int .i64 c).wf = true) (hR : Rs w v0 L) (wb0 : (Lit.int .i64 b0).wf = true) (wb1 : (Lit.int .i64 b1).wf = true) :
    Calls Try.prog 3 #[.int .i64 c, v0, .agg #[.int .i64 b0, .int .i64 b1]] w fun e w' => e = .returned (.bool true) ∧ Below w.heap.size w w' := by
  have hc : In c := bounds_i64 w0
  have hb0 : In b0 := bounds_i64 wb0
  have hb1 : In b1 := bounds_i64 wb1
  obtain ⟨a, cap, hv⟩ := rs_slice hR
  subst hv
  by_cases hf : L.length ≤ 30 ∧ Few c
  · have hp1 := per_sub (ta_per c L) b0
    obtain ⟨M1, hM1⟩ := fo_ex c (fun t => Ta c L (t - b0)) hp1
    have hp2 := per_sub (ta_per c M1) b1
    obtain ⟨M2, hM2⟩ := fo_ex c (fun t => Ta c M1 (t - b1)) hp2
    have l1 := fo_len hM1
    have l2 := fo_len hM2
    have turn : ∀ (b : Int), In b → ∀ (K M : List Pr), K.length ≤ 50000 → Fo c (fun t => Ta c K (t - b)) M → ∀ w' v, Rs w' v K → Calls Try.prog 6 #[.int .i64 c, v, .int .i64 b] w' fun e w'' => ∃ v, e = .returned v ∧ Rs w'' v M ∧ Keep w' w'' := fun b hb K M hl hM w' v hv => (turn_any c b hc hb v K w' hl hv).mono (by
      rintro e w'' ⟨v, he, N, h1, h2, _, h4⟩
      have : N = M := fo_one (ta_per c _) (per_sub (ta_per c K) b) h2 hM (fun hcy t _ _ => ta_tn hcy b K t)
      subst this
      exact ⟨v, he, h1, h4⟩)
    have ref : ∀ w', Keep w w' → Calls Try.prog 8 #[.int .i64 c, .slice a L.length cap, .int .i64 b0] w' fun e w'' => ∃ v, e = .returned v ∧ Rs w'' v M1 ∧ Keep w' w'' := fun w' hk => (rturn_any c b0 hf.2 _ L w' (by omega) (hR.keep hk)).mono (by
      rintro e w'' ⟨v, he, N, h1, h2, _, h4⟩
      have : N = M1 := fo_one hp1 hp1 h2 hM1 (fun _ _ _ _ => Iff.rfl)
      subst this
      exact ⟨v, he, h1, h4⟩)
    by_cases hcy : Cyc c
    · have hm0 := em_bd hcy.1 b0
      have hm1 := em_bd hcy.1 b1
      have hc2 := hcy.2
      have hc1 := hcy.1
      have hsum : (b0 % c + b1 % c).tmod c = (b0 + b1) % c := by
        rw [Int.tmod_eq_emod_of_nonneg (by omega), em_add, Int.add_comm, em_add, Int.add_comm]
      have hsb := em_bd hcy.1 (b0 + b1)
      have ht1 : ∀ t, Ta c M1 t ↔ Ta c L (t - b0) := fun t => fo_ta hp1 hM1 hcy t
      have hM2' : Fo c (fun t => Ta c L (t - (b0 + b1) % c)) M2 := fo_congr hp2 (per_sub (ta_per c L) _) hM2 (fun _ t _ _ => by
        show Ta c M1 (t - b1) ↔ Ta c L (t - (b0 + b1) % c)
        rw [ht1, ← per_em (ta_per c L) (t - b1 - b0), ← per_em (ta_per c L) (t - (b0 + b1) % c), em_sub, show t - (b0 + b1) = t - b1 - b0 by omega])
      refine walk1 c b0 b1 (tk c L) (b0 % c) (b1 % c) ((b0 + b1) % c) a L.length cap M1 M2 true w (.inl (by simp; omega)) ⟨hm0.1, by omega, hm1.1, by omega⟩ hsum (fun h => by cases h) (hide fun w' g h => few_yes1 c g _ cap a w' h hf.1 hf.2)
        (hide fun w' hk => turn b0 hb0 L M1 (by omega) hM1 w' _ (hR.keep hk)) (hide ref) (hide fun w' u v hu hv => same_yes u v M1 w' (by omega) hu hv) (hide fun w' u hu => ?_) (hide fun w' hk => total_any c _ L w' (by omega) (hR.keep hk)) (hide fun w' => rcyc_yes c hcy w')
        (hide fun _ w' => rmod_any b0 c hcy w') (hide fun _ w' => rmod_any b1 c hcy w') (hide fun _ w' u hu => turn b1 hb1 M1 M2 (by omega) hM2 w' u hu) (hide fun _ w' hk => turn _ (by unfold In; omega) L M2 (by omega) hM2' w' _ (hR.keep hk)) (hide fun w' u v hu hv => same_yes u v M2 w' (by omega) hu hv) (hide awake_any)
      have := total_any c u M1 w' (by omega) hu
      rw [tk_turn hcy b0 ht1] at this
      exact this
    · have e1 : M1 = [] := by
        rcases hM1 with ⟨_, h⟩ | ⟨h, _⟩
        · exact h
        · exact absurd h hcy
      have e0 : ∀ K, tk c K = 0 := fun K => by unfold tk; rw [if_neg hcy]
      refine walk1 c b0 b1 0 0 0 ((0 + 0 : Int).tmod c) a L.length cap M1 M2 false w (.inr rfl) (by omega) rfl (fun _ => e1) (hide fun w' g h => few_yes1 c g _ cap a w' h hf.1 hf.2)
        (hide fun w' hk => turn b0 hb0 L M1 (by omega) hM1 w' _ (hR.keep hk)) (hide ref) (hide fun w' u v hu hv => same_yes u v M1 w' (by omega) hu hv) (hide fun w' u hu => ?_) (hide fun w' hk => ?_) (hide fun w' => rcyc_no c hcy w')
        (hide fun h => by cases h) (hide fun h => by cases h) (hide fun h => by cases h) (hide fun h => by cases h) (hide fun w' u v hu hv => same_yes u v M2 w' (by omega) hu hv) (hide awake_any)
      · have := total_any c u M1 w' (by omega) hu
        rw [e0] at this
        exact this
      · have := total_any c _ L w' (by omega) (hR.keep hk)
        rw [e0] at this
        exact this
  · exact walk0 c b0 b1 a L.length cap w (hide fun w' g h => few_no1 c g _ cap a w' h hf)
theorem laidOut : laidOutB Try.prog = true := by kernel_rfl
theorem own : ownKnob Try.prog.godebug = none := by kernel_rfl
set_option maxHeartbeats 400000 in
set_option maxRecDepth 100000 in
theorem lifted (os : Os) (started : os.Started) (H : Type) (enc : TypeId × Value → H) :
    ReturnsInHanded {} Try.checked os 3 .any (Rows.circleTurnsSpec.pre6 enc Try.prog Try.f3 Rows.circleTurnsRow.domain false) (Rows.circleTurnsSpec.post enc Try.prog Try.f3 false true false false) := by
  refine returnsInHanded_of_change (C := Try.checked) own started (by kernel_rfl) Try.func3
    (ChangeSpec.witness6 (enc := enc) (C := Try.checked) false ⟨#[], #[.int .i64 0, .slice none 0 0, .agg #[.int .i64 0, .int .i64 0]], []⟩ 8 (by kernel_rfl) (by kernel_rfl) (by kernel_rfl) (by kernel_rfl)) ?_
  intro W base args ds gs before hval0 hW hcnd _
  have hval : ∀ (j : Nat) t v, Try.f3.params[j]? = some t → args[j]? = some v → Value.okWide Try.prog W .any base t v := hval0
  have hW' := hW
  obtain ⟨p, q, hA0, hV, rfl, hfz, hnd⟩ := hW
  have hA : DataW.TrodAll enc Try.prog W 0 (fun _ => true) true Try.f3.params.toList args.toList ds p := hA0
  rw [Try.params3] at hA hval
  obtain ⟨v0, vs0, d0, ds0, p0, q0, hargs, rfl, rfl, h0, r0⟩ := trodAll_cons hA
  obtain ⟨v1, vs1, d1, ds1, p1, q1, rfl, rfl, rfl, h1, r1⟩ := trodAll_cons r0
  obtain ⟨v2, vs2, d2, ds2, p2, q2, rfl, rfl, rfl, h2, r2⟩ := trodAll_cons r1
  obtain ⟨rfl, rfl, rfl⟩ := trodAll_nil r2
  obtain rfl : args = #[v0, v1, v2] := by cases args; simp_all
  obtain ⟨rfl, rfl⟩ := trodVars_none hV
  obtain ⟨a0, rfl, rfl, rfl, w0⟩ := open_int Try.underlying2 (hval 0 2 v0 rfl rfl) h0
  have k1 := h1
  have lt1 : ∀ x ∈ p1, x.block < W.heap.size := by obtain ⟨m, hm⟩ := k1; exact DataW.trod_lt m _ _ _ hm
  obtain ⟨L1, w1⟩ := open_arcs Try.underlying22 Try.underlying33 (by kernel_rfl) (by kernel_rfl) Try.underlying2 Try.underlying2 (hval 1 22 v1 rfl rfl) h1
  clear h1
  have k2 := h2
  have lt2 : ∀ x ∈ p2, x.block < W.heap.size := by obtain ⟨m, hm⟩ := k2; exact DataW.trod_lt m _ _ _ hm
  obtain ⟨a20, a21, rfl, w20, w21⟩ := open_num2 Try.underlying23 Try.underlying2 (by kernel_rfl) (by kernel_rfl) (hval 2 23 v2 rfl rfl) h2
  clear h2
  clear hA0 hval0
  refine (walk a0 v1 L1 a20 a21 W w0 w1 w20 w21).mono fun e W' ⟨he, bel⟩ => ?_
  subst he
  exact ⟨_, rfl, _, _, _, [], _, [], hW', trodAll_mk1 (shut_bool Try.underlying4 _), (trodAll_cons_mk (shut_int Try.underlying2 w0) (trodAll_cons_mk (Below.trod laidOut (by kernel_rfl) (of_decide_eq_true (by kernel_rfl)) k1 bel lt1) (trodAll_cons_mk (Below.trod laidOut (by kernel_rfl) (of_decide_eq_true (by kernel_rfl)) k2 bel lt2) trodAll_mk0))), rfl, bel.frame _, fun h => by cases h⟩
theorem over : Rows.circleTurnsRow.holds Try.pinned (OpenSpec.ofChange Rows.circleTurnsSpec) :=
  OpenClaim.holds_of_wide 3 Try.f3 rfl rfl rfl rfl rfl rfl rfl ⟨rfl, rfl, rfl, rfl, rfl⟩ rfl rfl rfl rfl rfl (by kernel_rfl) Try.func3 (by kernel_rfl)
    (of_decide_eq_true (by kernel_rfl)) (by unfold Func.isWrapper; first | (rw [if_pos (by decide +kernel)]; kernel_rfl) | (rw [if_neg (by decide +kernel)]; exact ⟨rfl, rfl⟩))
    (fun os started H enc _ => lifted os started H enc)

end Go.Proofs.Ytcllijjmjmfedaa.turns
namespace Go.Proofs.Ytcllijjmjmfedaa
theorem CircleTurns_holds : Rows.CircleTurnsSaid := turns.over
end Go.Proofs.Ytcllijjmjmfedaa
