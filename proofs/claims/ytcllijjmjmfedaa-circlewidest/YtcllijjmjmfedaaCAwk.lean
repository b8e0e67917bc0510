/- Few arcs, and chapter 3's examples. -/
import Derived.Test.YtcllijjmjmfedaaCRefC
namespace Go.Proofs.Ytcllijjmjmfedaa
open Go.RowKit Go.Shelf
attribute [local go_sem ↓] Go.wp_at_zero Go.wp_at_succ
set_option linter.unusedVariables false
set_option linter.unusedSimpArgs false
set_option maxRecDepth 10000
/-- what few says is so -/
def Fw (c : Int) (l : List Nat) (b : Bool) : Prop := b = true ↔ (∀ n, n ∈ l → n ≤ 30) ∧ Few c
set_option maxHeartbeats 1000000 in
theorem few_none (c : Int) (w : World) : Calls Try.prog 5 #[.int .i64 c, .slice none 0 0] w fun e w' => ∃ b, e = .returned (.bool b) ∧ Fw c [] b ∧ w' = w := by
  by_cases hf : Few c
  · refine (few_end c hf w).mono ?_
    rintro e w' ⟨rfl, rfl⟩
    exact ⟨true, rfl, ⟨fun _ => ⟨fun n h => by simp at h, hf⟩, fun _ => rfl⟩, rfl⟩
  · have h1 : ¬ c ≤ 300 := fun k => hf (.inl k)
    have h2 : ¬ 6000 < c := fun k => hf (.inr k)
    clear hf
    go_enter Try.func5, Try.ntmps5
    go_wp2_with fail
    refine wp_loop_rounds 1 ?_
    rw [rounds_succ]
    go_wp2_with fail
    go_ret
    exact ⟨_, rfl, ⟨fun h => by simp at h; omega, fun h => absurd h.2 (by unfold Few; omega)⟩, rfl⟩
set_option maxHeartbeats 1000000 in
theorem few_one (c : Int) (g n cap : Nat) (a : Option Addr) (w : World) (hc : w.cell? ⟨g, 0, none⟩ = some (.slice a n cap)) : Calls Try.prog 5 #[.int .i64 c, .slice (some ⟨g, 0, none⟩) 1 1] w fun e w' => ∃ b, e = .returned (.bool b) ∧ Fw c [n] b ∧ w' = w := by
  by_cases hn : n ≤ 30
  · have hn' : ¬ (30 : Int) < (n : Int) := by omega
    have HF : Hid (Few c → Fw c [n] true) := hide fun hf => ⟨fun _ => ⟨fun m h => by simp at h; omega, hf⟩, fun _ => rfl⟩
    by_cases h1 : c ≤ 300
    · have HT := hide ((unhide HF) (.inl h1))
      clear HF
      go_enter Try.func5, Try.ntmps5
      go_wp2_with fail
      refine wp_loop_rounds 2 ?_
      rw [rounds_succ]
      go_wp2_with fail
      rw [rounds_succ]
      go_wp2_with fail
      go_ret
      exact ⟨true, rfl, unhide HT, rfl⟩
    · by_cases h2 : 6000 < c
      · have HT := hide ((unhide HF) (.inr h2))
        clear HF
        go_enter Try.func5, Try.ntmps5
        go_wp2_with fail
        refine wp_loop_rounds 2 ?_
        rw [rounds_succ]
        go_wp2_with fail
        rw [rounds_succ]
        go_wp2_with fail
        go_ret
        exact ⟨true, rfl, unhide HT, rfl⟩
      · clear HF
        go_enter Try.func5, Try.ntmps5
        go_wp2_with fail
        refine wp_loop_rounds 2 ?_
        rw [rounds_succ]
        go_wp2_with fail
        rw [rounds_succ]
        go_wp2_with fail
        go_ret
        exact ⟨_, rfl, ⟨fun h => by simp at h; omega, fun h => absurd h.2 (by unfold Few; omega)⟩, rfl⟩
  · have hn' : (30 : Int) < (n : Int) := by omega
    go_enter Try.func5, Try.ntmps5
    go_wp2_with fail
    refine wp_loop_rounds 1 ?_
    rw [rounds_succ]
    go_wp2_with fail
    go_ret
    exact ⟨false, rfl, ⟨fun h => (by cases h), fun h => by have := h.1 n (by simp); omega⟩, rfl⟩
set_option maxHeartbeats 1000000 in
theorem few_two (c : Int) (g n cap m cap' : Nat) (a a' : Option Addr) (w : World) (hc : w.cell? ⟨g, 0, none⟩ = some (.slice a n cap)) (hc' : w.cell? ⟨g, 1, none⟩ = some (.slice a' m cap')) : Calls Try.prog 5 #[.int .i64 c, .slice (some ⟨g, 0, none⟩) 2 2] w fun e w' => ∃ b, e = .returned (.bool b) ∧ Fw c [n, m] b ∧ w' = w := by
  by_cases hn : n ≤ 30
  · have hn' : ¬ (30 : Int) < (n : Int) := by omega
    by_cases hm : m ≤ 30
    · have hm' : ¬ (30 : Int) < (m : Int) := by omega
      have HF : Hid (Few c → Fw c [n, m] true) := hide fun hf => ⟨fun _ => ⟨fun k h => by simp at h; omega, hf⟩, fun _ => rfl⟩
      by_cases h1 : c ≤ 300
      · have HT := hide ((unhide HF) (.inl h1))
        clear HF
        go_enter Try.func5, Try.ntmps5
        go_wp2_with fail
        refine wp_loop_rounds 3 ?_
        rw [rounds_succ]
        go_wp2_with fail
        rw [rounds_succ]
        go_wp2_with fail
        rw [rounds_succ]
        go_wp2_with fail
        go_ret
        exact ⟨true, rfl, unhide HT, rfl⟩
      · by_cases h2 : 6000 < c
        · have HT := hide ((unhide HF) (.inr h2))
          clear HF
          go_enter Try.func5, Try.ntmps5
          go_wp2_with fail
          refine wp_loop_rounds 3 ?_
          rw [rounds_succ]
          go_wp2_with fail
          rw [rounds_succ]
          go_wp2_with fail
          rw [rounds_succ]
          go_wp2_with fail
          go_ret
          exact ⟨true, rfl, unhide HT, rfl⟩
        · clear HF
          go_enter Try.func5, Try.ntmps5
          go_wp2_with fail
          refine wp_loop_rounds 3 ?_
          rw [rounds_succ]
          go_wp2_with fail
          rw [rounds_succ]
          go_wp2_with fail
          rw [rounds_succ]
          go_wp2_with fail
          go_ret
          exact ⟨_, rfl, ⟨fun h => by simp at h; omega, fun h => absurd h.2 (by unfold Few; omega)⟩, rfl⟩
    · have hm' : (30 : Int) < (m : Int) := by omega
      go_enter Try.func5, Try.ntmps5
      go_wp2_with fail
      refine wp_loop_rounds 2 ?_
      rw [rounds_succ]
      go_wp2_with fail
      rw [rounds_succ]
      go_wp2_with fail
      go_ret
      exact ⟨false, rfl, ⟨fun h => (by cases h), fun h => by have := h.1 m (by simp); omega⟩, rfl⟩
  · have hn' : (30 : Int) < (n : Int) := by omega
    go_enter Try.func5, Try.ntmps5
    go_wp2_with fail
    refine wp_loop_rounds 1 ?_
    rw [rounds_succ]
    go_wp2_with fail
    go_ret
    exact ⟨false, rfl, ⟨fun h => (by cases h), fun h => by have := h.1 n (by simp); omega⟩, rfl⟩
theorem fw_yes {c : Int} {l : List Nat} {b : Bool} (h : Fw c l b) (k : (∀ n, n ∈ l → n ≤ 30) ∧ Few c) : b = true := h.2 k
theorem fw_no {c : Int} {l : List Nat} {b : Bool} (h : Fw c l b) (k : ¬ ((∀ n, n ∈ l → n ≤ 30) ∧ Few c)) : b = false := by
  cases b with
  | false => rfl
  | true => exact absurd (h.1 rfl) k
theorem few_yes1 (c : Int) (g n cap : Nat) (a : Option Addr) (w : World) (hc : w.cell? ⟨g, 0, none⟩ = some (.slice a n cap)) (hn : n ≤ 30) (hf : Few c) : Calls Try.prog 5 #[.int .i64 c, .slice (some ⟨g, 0, none⟩) 1 1] w fun e w' => e = .returned (.bool true) ∧ w' = w := by
  refine (few_one c g n cap a w hc).mono ?_
  rintro e w' ⟨b, rfl, h, h2⟩
  rw [fw_yes h ⟨fun m hm => by simp at hm; omega, hf⟩]
  exact ⟨rfl, h2⟩
theorem few_no1 (c : Int) (g n cap : Nat) (a : Option Addr) (w : World) (hc : w.cell? ⟨g, 0, none⟩ = some (.slice a n cap)) (hn : ¬ (n ≤ 30 ∧ Few c)) : Calls Try.prog 5 #[.int .i64 c, .slice (some ⟨g, 0, none⟩) 1 1] w fun e w' => e = .returned (.bool false) ∧ w' = w := by
  refine (few_one c g n cap a w hc).mono ?_
  rintro e w' ⟨b, rfl, h, h2⟩
  rw [fw_no h (fun k => hn ⟨k.1 n (by simp), k.2⟩)]
  exact ⟨rfl, h2⟩
theorem few_yes2 (c : Int) (g n cap m cap' : Nat) (a a' : Option Addr) (w : World) (hc : w.cell? ⟨g, 0, none⟩ = some (.slice a n cap)) (hc' : w.cell? ⟨g, 1, none⟩ = some (.slice a' m cap')) (hn : n ≤ 30) (hm : m ≤ 30) (hf : Few c) : Calls Try.prog 5 #[.int .i64 c, .slice (some ⟨g, 0, none⟩) 2 2] w fun e w' => e = .returned (.bool true) ∧ w' = w := by
  refine (few_two c g n cap m cap' a a' w hc hc').mono ?_
  rintro e w' ⟨b, rfl, h, h2⟩
  rw [fw_yes h ⟨fun m hm => by simp at hm; omega, hf⟩]
  exact ⟨rfl, h2⟩
theorem few_no2 (c : Int) (g n cap m cap' : Nat) (a a' : Option Addr) (w : World) (hc : w.cell? ⟨g, 0, none⟩ = some (.slice a n cap)) (hc' : w.cell? ⟨g, 1, none⟩ = some (.slice a' m cap')) (hn : ¬ (n ≤ 30 ∧ m ≤ 30 ∧ Few c)) : Calls Try.prog 5 #[.int .i64 c, .slice (some ⟨g, 0, none⟩) 2 2] w fun e w' => e = .returned (.bool false) ∧ w' = w := by
  refine (few_two c g n cap m cap' a a' w hc hc').mono ?_
  rintro e w' ⟨b, rfl, h, h2⟩
  rw [fw_no h (fun k => hn ⟨k.1 n (by simp), k.1 m (by simp), k.2⟩)]
  exact ⟨rfl, h2⟩
/-! ### each set of ticks has a form -/
theorem fb_ex {n : Nat} {P : Int → Prop} (hp : Per n P) (h0 : 0 < n) (hf : ¬ Full n P) : ∀ i, i ≤ n → ∃ A, Fb n i P A
  | 0, _ => ⟨[], fb_zero n P⟩
  | i + 1, hi => by
    obtain ⟨A, hA⟩ := fb_ex hp h0 hf i (by omega)
    by_cases hn : ¬ P i ∨ P ((i : Int) - 1)
    · exact ⟨A, fb_skip hA hn⟩
    · have hpi : P i := Classical.byContradiction fun k => hn (.inl k)
      have hpq : ¬ P ((i : Int) - 1) := fun k => hn (.inr k)
      obtain ⟨a, ha, hk⟩ := arc_ex hp (by omega) hf (show (0 : Int) ≤ i by omega) (by omega) hpi
      obtain ⟨a0, a1, n1, nc, b2, b3, b4⟩ := id ha
      have e : a.1 = i := by
        apply Classical.byContradiction
        intro hne
        by_cases hs : 0 ≤ (i : Int) - a.1
        · rw [em_one hs (by omega)] at hk
          have := b2 (i - a.1 - 1) (by omega) (by omega)
          rw [show a.1 + ((i : Int) - a.1 - 1) = i - 1 by omega] at this
          exact hpq this
        · rw [em_neg (by omega) (by omega)] at hk
          have := b2 (i - a.1 + n - 1) (by omega) (by omega)
          rw [show a.1 + ((i : Int) - a.1 + n - 1) = (i - 1) + n by omega, hp] at this
          exact hpq this
      refine ⟨A ++ [((i : Int), a.2)], fb_take hA ?_⟩
      rw [← e]
      exact ha
theorem fo_ex (c : Int) (P : Int → Prop) (hp : Per c P) : ∃ M, Fo c P M := by
  by_cases hcy : Cyc c
  · by_cases hF : Full c P
    · exact ⟨_, .inr ⟨hcy, .inl ⟨hF, rfl⟩⟩⟩
    · obtain ⟨n, rfl⟩ : ∃ n : Nat, c = n := ⟨c.toNat, by have := hcy.1; omega⟩
      obtain ⟨A, hA⟩ := fb_ex hp (by have := hcy.1; omega) hF n (Nat.le_refl _)
      refine ⟨A, .inr ⟨hcy, .inr ⟨hF, hA.1, fun a => ?_⟩⟩⟩
      rw [hA.2 a]
      exact ⟨fun x => x.1, fun x => ⟨x, x.2.1⟩⟩
  · exact ⟨[], .inl ⟨hcy, rfl⟩⟩
/-! ### chapter 3's examples -/
theorem cyc10 : Cyc 10 := by unfold Cyc; omega
theorem ta_one (c : Int) (p : Pr) (t : Int) : Ta c [p] t ↔ Ia c p t := by
  unfold Ta
  constructor
  · rintro ⟨a, ha, h⟩; simp at ha; rw [ha] at h; exact h
  · intro h; exact ⟨p, by simp, h⟩
theorem ta_two (c : Int) (p q : Pr) (t : Int) : Ta c [p, q] t ↔ Ia c p t ∨ Ia c q t := by
  unfold Ta
  constructor
  · rintro ⟨a, ha, h⟩; simp at ha; rcases ha with e | e
    · rw [e] at h; exact .inl h
    · rw [e] at h; exact .inr h
  · rintro (h | h)
    · exact ⟨p, by simp, h⟩
    · exact ⟨q, by simp, h⟩
theorem awk_set : FormOf 10 (Ta 10 [(8, 4), (1, 3)]) [(8, 6)] := by
  have key : ∀ t, Ta 10 [(8, 4), (1, 3)] t ↔ ((t - 8) % 10 < 4 ∨ (t - 1) % 10 < 3) := by
    intro t
    rw [ta_two]
    unfold Ia
    constructor
    · rintro (⟨_, _, h⟩ | ⟨_, _, h⟩)
      · exact .inl h
      · exact .inr h
    · rintro (h | h)
      · exact .inl ⟨cyc10, by decide, h⟩
      · exact .inr ⟨cyc10, by decide, h⟩
  right
  refine ⟨fun h => ?_, List.pairwise_singleton _ _, fun a => ?_⟩
  · have := (key 4).1 (h 4 (by omega) (by omega))
    omega
  · unfold Arc
    simp only [key, List.mem_singleton]
    constructor
    · rintro rfl
      refine ⟨by decide, by decide, by decide, by decide, fun k k0 k1 => ?_, by simp only; omega, by simp only; omega⟩
      simp only at k1 ⊢
      omega
    · rintro ⟨h1, h2, h3, h4, h5, h6, h7⟩
      obtain ⟨x, y⟩ := a
      simp only at *
      have k0 := h5 0 (by omega) (by omega)
      have ex : x = 8 := by omega
      subst ex
      by_cases hy : 6 < y
      · have := h5 6 (by omega) hy
        omega
      · have : y = 6 := by omega
        rw [this]
theorem awk_rest : FormOf 10 (fun t => ¬ Ta 10 [(8, 6)] t) [(4, 4)] := by
  have key : ∀ t, Ta 10 [(8, 6)] t ↔ (t - 8) % 10 < 6 := by
    intro t
    rw [ta_one]
    unfold Ia
    exact ⟨fun h => h.2.2, fun h => ⟨cyc10, by decide, h⟩⟩
  right
  refine ⟨fun h => ?_, List.pairwise_singleton _ _, fun a => ?_⟩
  · exact h 8 (by omega) (by omega) ((key 8).2 (by omega))
  · unfold Arc
    simp only [key, List.mem_singleton]
    constructor
    · rintro rfl
      refine ⟨by decide, by decide, by decide, by decide, fun k k0 k1 => ?_, by simp only; omega, by simp only; omega⟩
      simp only at k1 ⊢
      omega
    · rintro ⟨h1, h2, h3, h4, h5, h6, h7⟩
      obtain ⟨x, y⟩ := a
      simp only at *
      have k0 := h5 0 (by omega) (by omega)
      have ex : x = 4 := by omega
      subst ex
      by_cases hy : 4 < y
      · have := h5 4 (by omega) hy
        omega
      · have : y = 4 := by omega
        rw [this]
theorem gp_awk : gp 10 (8, 4) (5, 1) = 3 := by decide
theorem fo_eq {c : Int} {P : Int → Prop} {M N : List Pr} (hc : Cyc c) (h : Fo c P M) (k : FormOf c P N) : M = N := by
  rcases h with ⟨h, _⟩ | ⟨_, h⟩
  · exact absurd hc h
  · exact form_one h k
theorem rs_lit2 (w : World) (x y x' y' : Int) (t : TypeId) (h1 : In x) (h2 : In y) (h3 : In x') (h4 : In y') : Rs (w.alloc (.cells #[.int .i64 x, .int .i64 y, .int .i64 x', .int .i64 y'] t)) (.slice (some ⟨w.heap.size, 0, none⟩) 2 2) [(x, y), (x', y')] := by
  refine ⟨_, 2, rfl, Nat.le_refl _, fun k hk => ⟨_, rfl, by simp, ?_, ?_, ?_⟩⟩
  all_goals (have e : k = 0 ∨ k = 1 := by simp at hk; omega)
  all_goals rcases e with rfl | rfl
  · exact ⟨h1, h2⟩
  · exact ⟨h3, h4⟩
  · rw [add_plain]; simp [go_sem]
  · rw [add_plain]; simp [go_sem]
  · rw [add_plain]; simp [go_sem]
  · rw [add_plain]; simp [go_sem]
theorem add_nought (ad : Addr) : ad.add 0 = ad := by unfold Addr.add; split <;> simp_all
set_option maxHeartbeats 1000000 in
theorem awake_any (w : World) : Calls Try.prog 11 #[] w fun e w' => e = .returned (.bool true) ∧ Keep w w' := by
  have T1 : Hid (∀ w v, Rs w v [(8, 4), (1, 3)] → Calls Try.prog 14 #[.int .i64 10, v] w fun e w' => ∃ v, e = .returned v ∧ Rs w' v [(8, 6)] ∧ Keep w w') := by
    intro w v h
    refine (set_any 10 (by unfold In; omega) v _ w (by simp) h).mono ?_
    rintro e w' ⟨v, he, M, h1, h2, _, h3⟩
    rw [fo_eq cyc10 h2 awk_set] at h1
    exact ⟨v, he, h1, h3⟩
  have T2 : Hid (∀ w v, Rs w v [(8, 6)] → Calls Try.prog 20 #[.int .i64 10, v] w fun e w' => ∃ v, e = .returned v ∧ Rs w' v [(4, 4)] ∧ Keep w w') := by
    intro w v h
    refine (rest_any 10 (by unfold In; omega) v _ w (by simp) h).mono ?_
    rintro e w' ⟨v, he, M, h1, h2, _, h3⟩
    rw [fo_eq cyc10 h2 awk_rest] at h1
    exact ⟨v, he, h1, h3⟩
  have T3 : Hid (∀ w u v, Rs w u [(4, 4)] → Rs w v [(4, 4)] → Calls Try.prog 7 #[u, v] w fun e w' => e = .returned (.bool true) ∧ Keep w w') := hide fun w u v h k => same_yes u v _ w (by simp) h k
  have T4 : Hid (∀ w, Calls Try.prog 21 #[.int .i64 10, .agg #[.int .i64 8, .int .i64 4], .agg #[.int .i64 5, .int .i64 1]] w fun e w' => e = .returned (.int .i64 3) ∧ Keep w w') := hide fun w => by
    have h := gap_any 10 (8, 4) (5, 1) (by unfold In; omega) (by unfold InP In; omega) (by unfold InP In; omega) w
    rw [gp_awk] at h
    exact h
  go_enter Try.func11, Try.ntmps11
  go_wp2_with fail
  refine ((unhide T1) _ _ (rs_lit2 w 8 4 1 3 _ (by unfold In; omega) (by unfold In; omega) (by unfold In; omega) (by unfold In; omega))).mono ?_
  rintro e w1 ⟨v, rfl, hr, hk1⟩
  have HR := hide hr
  have HK1 := hide (((Keep.refl w).alloc _).trans hk1)
  obtain ⟨a, cap, rfl, _, hcell⟩ := hr
  obtain ⟨ad, rfl, _, _, c0, c1⟩ := hcell 0 (by simp)
  simp only [List.getD_cons_zero, Nat.zero_mul, add_nought] at c0 c1
  clear hcell
  go_wp2_with fail
  refine ((unhide T2) _ _ (unhide HR)).mono ?_
  rintro e w2 ⟨v2, rfl, hr2, hk2⟩
  have HR2 := hide hr2
  have HK2 := hide ((unhide HK1).trans hk2)
  obtain ⟨a2, cap2, hv2⟩ := rs_slice hr2
  subst hv2
  clear hr2 hk1 hk2 c0 c1
  go_wp2_with fail
  refine ((unhide T3) _ _ _ ((unhide HR2).keep ((Keep.refl w2).alloc _)) (rs_lit w2 4 4 _ (by unfold In; omega) (by unfold In; omega))).mono ?_
  rintro e w3 ⟨rfl, hk3⟩
  have HK3 := hide (((unhide HK2).alloc (.cells #[.int .i64 4, .int .i64 4] 33)).trans hk3)
  clear hk3
  go_wp2_with fail
  refine ((unhide T4) _).mono ?_
  rintro e w4 ⟨rfl, hk4⟩
  go_wp2_with fail
  go_ret
  exact ⟨rfl, (unhide HK3).trans hk4⟩
end Go.Proofs.Ytcllijjmjmfedaa
