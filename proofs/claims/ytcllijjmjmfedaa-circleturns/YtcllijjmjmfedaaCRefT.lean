/- The document's Turn. -/
import Derived.Test.YtcllijjmjmfedaaCRefC
namespace Go.Proofs.Ytcllijjmjmfedaa
open Go.RowKit Go.Shelf
attribute [local go_sem ↓] Go.wp_at_zero Go.wp_at_succ
set_option linter.unusedVariables false
set_option linter.unusedSimpArgs false
set_option maxRecDepth 10000
theorem bits_put {cur : Array Value} {n : Nat} {P : Int → Prop} (h : Bits cur n P) {j : Nat} (hj : j < n) (b : Bool) (Q : Prop) (hq : b = true ↔ Q) : Bits (cur.setIfInBounds j (.bool b)) n (fun t => (t = j ∧ Q) ∨ (t ≠ j ∧ P t)) := by
  refine ⟨by rw [Array.size_setIfInBounds]; exact h.1, fun i hi => ?_⟩
  by_cases e : i = j
  · subst e
    refine ⟨b, ?_, by rw [hq]; simp⟩
    rw [Array.getElem?_setIfInBounds_self_of_lt (by rw [h.1]; exact hi)]
  · obtain ⟨b', h1, h2⟩ := h.2 i hi
    refine ⟨b', ?_, ?_⟩
    · rw [Array.getElem?_setIfInBounds_ne (fun k => e k.symm)]; exact h1
    · rw [h2]
      constructor
      · intro hp; exact .inr ⟨by omega, hp⟩
      · rintro (⟨k, _⟩ | ⟨_, hp⟩)
        · omega
        · exact hp
set_option maxHeartbeats 4000000 in
theorem rturn_core (c b mb : Int) (n : Nat) (v0 : Value) (P : Int → Prop) (J : Nat → Nat) (w : World) (R : World → Value → Prop) (Qk : Nat → Int → Prop) (hn : n ≤ 300) (hmb : 0 ≤ mb ∧ mb ≤ 6000)
    (hv0 : ∃ a m cap, v0 = .slice a m cap)
    (T1 : Hid (Calls Try.prog 17 #[.int .i64 c, v0] w fun e w' => ∃ v, e = .returned v ∧ Bs w' v n P ∧ Keep w w'))
    (T2 : Hid (0 < n → ∀ w, Calls Try.prog 12 #[.int .i64 b, .int .i64 c] w fun e w' => e = .returned (.int .i64 mb) ∧ w' = w))
    (T3 : Hid (∀ i : Nat, i < n → ∀ w, Calls Try.prog 12 #[.int .i64 ((i : Int) + mb), .int .i64 c] w fun e w' => e = .returned (.int .i64 (J i : Nat)) ∧ w' = w))
    (HJ : Hid (∀ i, i < n → J i < n))
    (H0 : Hid (∀ t, ¬ Qk 0 t))
    (HS : Hid (∀ k, k < n → ∀ t : Int, 0 ≤ t → t < n → (((t = J k ∧ P k) ∨ (t ≠ J k ∧ Qk k t)) ↔ Qk (k + 1) t)))
    (T4 : Hid (∀ w' v, Keep w w' → Bs w' v n (Qk n) → Calls Try.prog 18 #[v] w' fun e w'' => ∃ v, e = .returned v ∧ R w'' v)) :
    Calls Try.prog 8 #[.int .i64 c, v0, .int .i64 b] w fun e w' => ∃ v, e = .returned v ∧ R w' v := by
  obtain ⟨i0, hi, hz0, hz1, hz2⟩ := info_parts infoB
  obtain ⟨a0, m0, cap0, rfl⟩ := hv0
  obtain ⟨Z, hZ, hmk⟩ : ∃ Z : Array Value, Bits Z n (Qk 0) ∧ ∀ w, (Instr.makeSlice 39 (.int .i64 (n : Int)) (.int .i64 (n : Int))).run Try.prog w = .ok (.slice (some ⟨w.heap.size, 0, none⟩) n n) (w.alloc (.cells Z 4)) := by
    refine ⟨madeCells (Value.bool false).cells (n * 1), ⟨by simp [size_madeCells], fun j hj => ⟨false, ?_, ?_⟩⟩, fun w => ?_⟩
    · have hs : j < (madeCells (Value.bool false).cells (n * 1)).size := by rw [size_madeCells]; omega
      rw [Array.getElem?_eq_getElem hs]
      simp [madeCells, Value.cells, Nat.mod_one]
    · constructor
      · intro h; cases h
      · intro h; exact absurd h ((unhide H0) _)
    · have h := run_make (P := Try.prog) w 39 4 i0 _ Try.underlying39 hi hz0 .i64 .i64 (n : Int) (n : Int) (by omega) (by omega) (by rw [hz2]; omega) (by omega)
      rw [hz1] at h
      simpa using h
  have HZ := hide hZ
  clear hZ
  go_enter Try.func8, Try.ntmps8
  go_wp2_with fail
  (refine (unhide T1).mono ?_; rintro e w1 ⟨v1, rfl, hb1, hk1⟩; have HK1 := hide hk1; obtain ⟨a1, cp1, rfl, _, hcell⟩ := hb1; have HC := hide hcell; clear hk1 hcell)
  go_wp2_with fail
  go_loopw [9] (fun vi wr => ∃ (k : Nat) (cur : Array Value), k ≤ n ∧ vi = .int .i64 (k : Int) ∧ wr.heap[w1.heap.size]? = some (.cells cur 4 (0, 0)) ∧ Hid (Bits cur n (Qk k)) ∧ Hid (Below w1.heap.size w1 wr)) (fun vi _ => n - (intOf vi).toNat)
  case atStart => exact ⟨0, Z, Nat.zero_le _, rfl, World.alloc_heap_new w1 _, HZ, hide ((Below.refl _ w1).alloc (Nat.le_refl _) _)⟩
  case round =>
    obtain ⟨k, cur, hk, rfl, hrow, HB, HBL⟩ := hrel
    by_cases hlt : k < n
    · have li : (k : Int) < (n : Int) := by omega
      obtain ⟨g, rfl, hg, x, hx, hxp⟩ := (unhide HC) k hlt
      have hxw : wr.cell? ⟨g, k, none⟩ = some (.bool x) := by rw [Below.cell (p := ⟨g, k, none⟩) (unhide HBL) hg]; exact hx
      have T2k := hide ((unhide T2) (by omega))
      have T3k := hide ((unhide T3) k hlt)
      have hj := (unhide HJ) k hlt
      have HSk := hide ((unhide HS) k hlt)
      have HXP := hide hxp
      clear hx hxp
      generalize J k = j at *
      have lj : (j : Int) < (n : Int) := by omega
      obtain ⟨y, hy, _⟩ := (unhide HB).2 j hj
      have hcell : wr.cell? ⟨w1.heap.size, j, none⟩ = some (.bool y) := by simp only [World.cell?, hrow]; exact hy
      have hfz : wr.frozen? ⟨w1.heap.size, j, none⟩ = false := by simp [World.frozen?, hrow]
      have hne : ¬ w1.heap.size = g := by omega
      have hne' : ¬ g = w1.heap.size := by omega
      have HROW := hide hrow
      clear hrow hy
      go_wp2_with fail
      have hw : IntKind.i64.wrap ((k : Int) + mb) = (k : Int) + mb := by rw [IntKind.wrap_i64]; omega
      refine wp_region_held_drew (S := fun w' => w'.cell? ⟨g, k, none⟩ = some (.bool x)) (by kernel_rfl) (by exact hxw) (fun hHeld => ?_)
      refine wpAnyH_take (i := 0) (v := ?_) rfl (by kernel_rfl) (by kernel_rfl) (by kernel_rfl) (fun _ _ _ h => h) (Or.inl ⟨by rfl, ?_⟩) hHeld ?_
      rotate_left
      · intro w hSw
        try dsimp only at hSw
        go_simp
        try with_reducible rfl
      show wpAnyH _ _ _ _ _ _ _ (Act.put _ (some 22) _) _
      try simp only [Act.put, List.setIfInBounds_toArray, List.set_cons_zero, List.set_cons_succ]
      refine wpAnyH_take (i := 1) (v := ?_) rfl (by kernel_rfl) (by kernel_rfl) (by kernel_rfl) (fun _ _ _ h => h) (Or.inl ⟨by rfl, ?_⟩) hHeld ?_
      rotate_left
      · intro w hSw
        try dsimp only at hSw
        go_simp
        try with_reducible rfl
      show wpAnyH _ _ _ _ _ _ _ (Act.put _ (some 23) _) _
      try simp only [Act.put, List.setIfInBounds_toArray, List.set_cons_zero, List.set_cons_succ]
      refine wpAnyH_take (i := 2) (v := ?_) rfl (by kernel_rfl) (by kernel_rfl) (by kernel_rfl) (fun _ _ _ h => h) (Or.inl ⟨by rfl, ?_⟩) hHeld ?_
      rotate_left
      · intro w hSw
        try dsimp only at hSw
        go_simp
        try with_reducible rfl
      show wpAnyH _ _ _ _ _ _ _ (Act.put _ (some 24) _) _
      try simp only [Act.put, List.setIfInBounds_toArray, List.set_cons_zero, List.set_cons_succ]
      refine wpAnyH_take (i := 3) (v := ?_) rfl (by kernel_rfl) (by kernel_rfl) (by kernel_rfl) (fun _ _ _ h => h) (Or.inl ⟨by rfl, ?_⟩) hHeld ?_
      rotate_left
      · intro w hSw
        try dsimp only at hSw
        go_simp
        try with_reducible rfl
      show wpAnyH _ _ _ _ _ _ _ (Act.put _ (some 25) _) _
      try simp only [Act.put, List.setIfInBounds_toArray, List.set_cons_zero, List.set_cons_succ]
      refine wpAnyH_take (i := 6) (v := ?_) rfl (by kernel_rfl) (by kernel_rfl) (by kernel_rfl) (fun _ _ _ h => h) (Or.inl ⟨by rfl, ?_⟩) hHeld ?_
      rotate_left
      · intro w hSw
        try dsimp only at hSw
        go_simp
        try with_reducible rfl
      show wpAnyH _ _ _ _ _ _ _ (Act.put _ (some 28) _) _
      try simp only [Act.put, List.setIfInBounds_toArray, List.set_cons_zero, List.set_cons_succ]
      refine wpAnyH_take (i := 8) (v := ?_) rfl (by kernel_rfl) (by kernel_rfl) (by kernel_rfl) (fun _ _ _ h => h) (Or.inl ⟨by rfl, ?_⟩) hHeld ?_
      rotate_left
      · intro w hSw
        try dsimp only at hSw
        go_simp
        try with_reducible rfl
      show wpAnyH _ _ _ _ _ _ _ (Act.put _ (some 30) _) _
      try simp only [Act.put, List.setIfInBounds_toArray, List.set_cons_zero, List.set_cons_succ]
      refine wpAnyH_take (i := 9) (v := ?_) rfl (by kernel_rfl) (by kernel_rfl) (by kernel_rfl) (fun _ _ _ h => h) (Or.inl ⟨by rfl, ?_⟩) hHeld ?_
      rotate_left
      · intro w hSw
        try dsimp only at hSw
        go_simp
        try with_reducible rfl
      show wpAnyH _ _ _ _ _ _ _ (Act.put _ (some 31) _) _
      try simp only [Act.put, List.setIfInBounds_toArray, List.set_cons_zero, List.set_cons_succ]
      refine wpAnyH_take (i := 10) (v := ?_) rfl (by kernel_rfl) (by kernel_rfl) (by kernel_rfl) (fun _ _ _ h => h) (Or.inl ⟨by rfl, ?_⟩) hHeld ?_
      rotate_left
      · intro w hSw
        try dsimp only at hSw
        go_simp
        try with_reducible rfl
      show wpAnyH _ _ _ _ _ _ _ (Act.put _ (some 32) _) _
      try simp only [Act.put, List.setIfInBounds_toArray, List.set_cons_zero, List.set_cons_succ]
      refine wpAnyH_take (i := 11) (v := ?_) rfl (by kernel_rfl) (by kernel_rfl) (by kernel_rfl) (fun _ _ _ h => h) (Or.inl ⟨by rfl, ?_⟩) hHeld ?_
      rotate_left
      · intro w hSw
        try dsimp only at hSw
        go_simp
        try with_reducible rfl
      show wpAnyH _ _ _ _ _ _ _ (Act.put _ (some 33) _) _
      try simp only [Act.put, List.setIfInBounds_toArray, List.set_cons_zero, List.set_cons_succ]
      refine wpAnyH_ready (rs := [4]) (by kernel_rfl) (by simp) ?_
      refine AllReadyH.cons rfl (fun K hK => ?_) AllReadyH.nil
      go_simp
      clear hHeld
      (refine ((unhide T2k) _).mono ?_; rintro e w3 ⟨rfl, rfl⟩)
      try go_wp2_with fail
      refine hK.out _ _ ?_ (fun hHeld => ?_)
      · exact hxw
      clear hK K
      try simp only [Act.put, List.setIfInBounds_toArray, List.set_cons_zero, List.set_cons_succ]
      refine wpAnyH_take (i := 5) (v := ?_) rfl (by kernel_rfl) (by kernel_rfl) (by kernel_rfl) (fun _ _ _ h => h) (Or.inl ⟨by rfl, ?_⟩) hHeld ?_
      rotate_left
      · intro w hSw
        try dsimp only at hSw
        go_simp
        try with_reducible rfl
      show wpAnyH _ _ _ _ _ _ _ (Act.put _ (some 27) _) _
      try simp only [Act.put, List.setIfInBounds_toArray, List.set_cons_zero, List.set_cons_succ]
      refine wpAnyH_ready (rs := [7]) (by kernel_rfl) (by simp) ?_
      refine AllReadyH.cons rfl (fun K hK => ?_) AllReadyH.nil
      go_simp
      clear hHeld
      (refine ((unhide T3k) _).mono ?_; rintro e w3 ⟨rfl, rfl⟩)
      try go_wp2_with fail
      refine hK.out _ _ ?_ (fun hHeld => ?_)
      · exact hxw
      clear hK K
      try simp only [Act.put, List.setIfInBounds_toArray, List.set_cons_zero, List.set_cons_succ]
      refine wpAnyH_take (i := 12) (v := ?_) rfl (by kernel_rfl) (by kernel_rfl) (by kernel_rfl) (fun _ _ _ h => h) (Or.inl ⟨by rfl, ?_⟩) hHeld ?_
      rotate_left
      · intro w hSw
        try dsimp only at hSw
        go_simp
        try with_reducible rfl
      show wpAnyH _ _ _ _ _ _ _ (Act.put _ (some 34) _) _
      try simp only [Act.put, List.setIfInBounds_toArray, List.set_cons_zero, List.set_cons_succ]
      refine wpAnyH_ready (rs := [13]) (by kernel_rfl) (by simp) ?_
      refine AllReadyH.cons rfl (fun K hK => ?_) AllReadyH.nil
      go_simp
      clear hHeld
      refine hK.out _ _ ?_ (fun hHeld => ?_)
      · simp [go_sem, hxw, hne, hne']
      clear hK K
      try simp only [Act.put, List.setIfInBounds_toArray, List.set_cons_zero, List.set_cons_succ]
      refine wpAnyH_done (by kernel_rfl) ?_ _
      clear hHeld
      go_wp2_with fail
      go_roundw
      case rel => exact ⟨k + 1, _, hlt, by go_num, row_set (unhide HROW) j _, hide (bits_congr (bits_put (unhide HB) hj x (P k) (unhide HXP)) (unhide HSk)), hide (Below.drew ((unhide HBL).setCell (p := ⟨w1.heap.size, j, none⟩) (Nat.le_refl _) _))⟩
      case measure => simp [intOf]; omega
    · have e : k = n := by omega
      subst e
      have HBS := hide (bs_row hrow (unhide HB))
      have HKW := hide ((unhide HK1).trans (unhide HBL))
      clear hrow
      go_wp2_with fail
      (refine ((unhide T4) _ _ (unhide HKW) (unhide HBS)).mono ?_; rintro e w5 ⟨v5, rfl, h5⟩; have H5 := hide h5; clear h5)
      go_wp2_with fail
      go_ret
      exact ⟨v5, rfl, unhide H5⟩
theorem bs_congr {w : World} {v : Value} {n : Nat} {P Q : Int → Prop} (h : Bs w v n P) (e : ∀ t : Int, 0 ≤ t → t < n → (P t ↔ Q t)) : Bs w v n Q := by
  obtain ⟨a, cap, rfl, hc, h⟩ := h
  refine ⟨a, cap, rfl, hc, fun j hj => ?_⟩
  obtain ⟨g, h0, h1, b, h2, h3⟩ := h j hj
  exact ⟨g, h0, h1, b, h2, h3.trans (e j (by omega) (by omega))⟩
theorem rturn_any (c b : Int) (hf : Few c) (v0 : Value) (L : List Pr) (w : World) (hl : L.length ≤ 50000) (hR : Rs w v0 L) :
    Calls Try.prog 8 #[.int .i64 c, v0, .int .i64 b] w fun e w' => ∃ v, e = .returned v ∧ Fr w c (fun t => Ta c L (t - b)) w' v := by
  have hp := per_sub (ta_per c L) b
  have T1 := ticks_any c hf v0 L w hl hR
  have hsh : ∃ a m cap, v0 = .slice a m cap := by obtain ⟨a, cap, h⟩ := rs_slice hR; exact ⟨a, _, cap, h⟩
  by_cases hc : Cyc c
  · obtain ⟨n, hn⟩ : ∃ n : Nat, (n : Int) = c := ⟨c.toNat, by have := hc.1; omega⟩
    have hn3 : n ≤ 300 := by have := hc.2; unfold Few at hf; omega
    have hb := em_bd hc.1 b
    have hc2 := hc.2
    have back : ∀ i : Int, 0 ≤ i → i < c → ((i + b % c) % c - b) % c = i := fun i h0 h1 => by
      rw [em_sub', show i + b % c - b = (i - b) + b % c by omega, em_add, show i - b + b = i by omega, em_one h0 h1]
    have jn : ∀ i : Nat, (((((i : Int) + b % c) % c).toNat : Nat) : Int) = ((i : Int) + b % c) % c := fun i => by
      have := em_bd hc.1 ((i : Int) + b % c)
      omega
    refine rturn_core c b (b % c) n v0 (Ta c L) (fun i => (((i : Int) + b % c) % c).toNat) w (Fr w c (fun t => Ta c L (t - b))) (fun k t => ∃ i : Int, 0 ≤ i ∧ i < k ∧ Ta c L i ∧ t = (i + b % c) % c) hn3 ⟨hb.1, by omega⟩ hsh (hide (T1.mono ?_)) (hide fun _ w => rmod_any b c hc w) (hide fun i hi w => ?_) (hide fun i hi => ?_) (hide fun t h => ?_) (hide fun k hk t t0 t1 => ?_) (hide fun w' v hk hv => ?_)
    · rintro e w' ⟨v, he, m, hm, h1, h2⟩
      have : m = n := by
        rcases hm with ⟨_, h, _⟩ | ⟨h, _⟩
        · omega
        · exact absurd hc h
      subst this
      exact ⟨v, he, h1, h2⟩
    · have := rmod_any ((i : Int) + b % c) c hc w
      rw [← jn i] at this
      exact this
    · have := em_bd hc.1 ((i : Int) + b % c)
      have := jn i
      omega
    · obtain ⟨i, h0, h1, _⟩ := h
      omega
    · have hj := jn k
      constructor
      · rintro (⟨h1, h2⟩ | ⟨_, i, h0, h1, h2, h3⟩)
        · exact ⟨k, by omega, by omega, h2, by rw [h1]; exact hj⟩
        · exact ⟨i, h0, by omega, h2, h3⟩
      · rintro ⟨i, h0, h1, h2, h3⟩
        by_cases e : t = ((((k : Int) + b % c) % c).toNat : Nat)
        · left
          refine ⟨e, ?_⟩
          have e1 : (i + b % c) % c = ((k : Int) + b % c) % c := by rw [← h3, e]; exact hj
          have e2 : i = k := by
            have a1 := back i h0 (by omega)
            have a2 := back k (by omega) (by omega)
            rw [e1, a2] at a1
            exact a1.symm
          rw [← e2]
          exact h2
        · right
          refine ⟨e, i, h0, ?_, h2, h3⟩
          have : i ≠ k := by
            intro e2
            apply e
            rw [h3, e2]
            exact hj.symm
          omega
    · refine formb_any c v _ hp w w' ⟨n, .inl ⟨hc, hn, hn3⟩, bs_congr hv (fun t t0 t1 => ?_), hk⟩
      constructor
      · rintro ⟨i, h0, h1, h2, rfl⟩
        show Ta c L ((i + b % c) % c - b)
        rw [← per_em (ta_per c L), back i h0 (by omega)]
        exact h2
      · intro h
        have hb2 := em_bd hc.1 (t - b)
        refine ⟨(t - b) % c, hb2.1, by omega, (per_em (ta_per c L) _).2 h, ?_⟩
        rw [em_add, Int.add_comm, em_add, show b + (t - b) = t by omega, em_one t0 (by omega)]
  · refine rturn_core c b 0 0 v0 (Ta c L) (fun _ => 0) w (Fr w c (fun t => Ta c L (t - b))) (fun _ _ => False) (by omega) (by omega) hsh (hide (T1.mono ?_)) (hide fun h => by omega) (hide fun i hi => by omega) (hide fun i hi => by omega) (hide fun t h => h) (hide fun k hk => by omega) (hide fun w' v hk hv => ?_)
    · rintro e w' ⟨v, he, m, hm, h1, h2⟩
      have : m = 0 := by
        rcases hm with ⟨h, _⟩ | ⟨_, h⟩
        · exact absurd h hc
        · exact h
      subst this
      exact ⟨v, he, h1, h2⟩
    · exact formb_any c v _ hp w w' ⟨0, .inr ⟨hc, rfl⟩, bs_congr hv (fun t t0 t1 => by omega), hk⟩
end Go.Proofs.Ytcllijjmjmfedaa
