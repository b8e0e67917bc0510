/- The document's answer for arcs: sets in form, how many ticks; whether rows are the same; few; chapter 3's examples. -/
import Derived.Test.YtcllijjmjmfedaaCRefB
import Derived.Test.YtcllijjmjmfedaaCGap
namespace Go.Proofs.Ytcllijjmjmfedaa
open Go.RowKit Go.Shelf
attribute [local go_sem ↓] Go.wp_at_zero Go.wp_at_succ
set_option linter.unusedVariables false
set_option linter.unusedSimpArgs false
set_option maxRecDepth 10000
/-- as many bits as the cycle has ticks -/
def Nn (c : Int) (n : Nat) : Prop := (Cyc c ∧ (n : Int) = c ∧ n ≤ 300) ∨ (¬ Cyc c ∧ n = 0)
def Few (c : Int) : Prop := c ≤ 300 ∨ 6000 < c
/-- v holds the ticks P, a bit each -/
def Tb (w : World) (c : Int) (P : Int → Prop) (w' : World) (v : Value) : Prop := ∃ n, Nn c n ∧ Bs w' v n P ∧ Keep w w'
theorem ticks_any (c : Int) (hf : Few c) (v0 : Value) (L : List Pr) (w : World) (hl : L.length ≤ 50000) (hR : Rs w v0 L) :
    Calls Try.prog 17 #[.int .i64 c, v0] w fun e w' => ∃ v, e = .returned v ∧ Tb w c (Ta c L) w' v := by
  by_cases hc : Cyc c
  · obtain ⟨n, hn⟩ : ∃ n : Nat, (n : Int) = c := ⟨c.toNat, by have := hc.1; omega⟩
    have hn3 : n ≤ 300 := by have := hc.2; unfold Few at hf; omega
    have H := ticks_yes n (by rw [hn]; exact hc) hn3 v0 L w hl hR
    rw [hn] at H
    refine H.mono ?_
    rintro e w' ⟨v, he, h1, h2⟩
    exact ⟨v, he, n, .inl ⟨hc, hn, hn3⟩, h1, h2⟩
  · obtain ⟨a, cap, hv⟩ := rs_slice hR
    subst hv
    refine (ticks_no c a _ cap w (hide (rcyc_no c hc))).mono ?_
    rintro e w' ⟨rfl, rfl⟩
    exact ⟨_, rfl, 0, .inr ⟨hc, rfl⟩, bs_nil _ _, Keep.refl _⟩
theorem formb_any (c : Int) (v0 : Value) (P : Int → Prop) (hp : Per c P) (w0 w : World) (hB : Tb w0 c P w v0) :
    Calls Try.prog 18 #[v0] w fun e w' => ∃ v, e = .returned v ∧ Fr w0 c P w' v := by
  obtain ⟨n, hn, hb, hk⟩ := hB
  rcases hn with ⟨hc, hnc, hn3⟩ | ⟨hc, rfl⟩
  · refine (rform_any n hn3 v0 P (by rw [hnc]; exact hp) w hb).mono ?_
    rintro e w' ⟨v, he, M, h1, h2, h3, h4, h5⟩
    refine ⟨v, he, M, h1, .inr ⟨hc, ?_⟩, lob_mono h4 (Below.size hk), hk.trans h5⟩
    rw [← hnc]
    exact h3 (by have := hc.1; omega)
  · refine (rform_any 0 (by omega) v0 P (fun t => by show P (t + 0) ↔ _; rw [Int.add_zero]) w hb).mono ?_
    rintro e w' ⟨v, he, M, h1, h2, h3, h4, h5⟩
    exact ⟨v, he, M, h1, .inl ⟨hc, h2 rfl⟩, lob_mono h4 (Below.size hk), hk.trans h5⟩
/-! ### whether rows are the same -/
theorem rs_at {w : World} {v : Value} {L : List Pr} (h : Rs w v L) : ∃ a cap, v = .slice a L.length cap ∧ ∀ k, k < L.length → ∃ ad, a = some ad ∧ w.cell? (ad.add (k * 2)) = some (.int .i64 (L.getD k (0, 0)).1) ∧ w.cell? ⟨(ad.add (k * 2)).block, (ad.add (k * 2)).off + 1, none⟩ = some (.int .i64 (L.getD k (0, 0)).2) := by
  obtain ⟨a, cap, rfl, _, h⟩ := h
  refine ⟨a, cap, rfl, fun k hk => ?_⟩
  obtain ⟨ad, h0, _, _, h1, h2⟩ := h k hk
  exact ⟨ad, h0, h1, h2⟩
set_option maxHeartbeats 1000000 in
theorem same_yes (va vb : Value) (A : List Pr) (w : World) (hl : A.length ≤ 50000) (hA : Rs w va A) (hB : Rs w vb A) :
    Calls Try.prog 7 #[va, vb] w fun e w' => e = .returned (.bool true) ∧ Keep w w' := by
  obtain ⟨a, cap, rfl, hca⟩ := rs_at hA
  obtain ⟨b, cap', rfl, hcb⟩ := rs_at hB
  have HCA := hide hca
  have HCB := hide hcb
  clear hca hcb hA hB
  go_enter Try.func7, Try.ntmps7
  go_wp2_with fail
  go_loopw [5] (fun vi wr => ∃ k : Nat, k ≤ A.length ∧ vi = .int .i64 k ∧ Keep w wr ∧ wr.heap = w.heap) (fun vi _ => A.length - (intOf vi).toNat)
  case atStart => exact ⟨0, Nat.zero_le _, rfl, Keep.refl _, rfl⟩
  case round =>
    obtain ⟨k, hk, rfl, hkw, hh⟩ := hrel
    by_cases hlt : k < A.length
    · obtain ⟨ad, rfl, c0, c1⟩ := (unhide HCA) k hlt
      obtain ⟨ad', rfl, c0', c1'⟩ := (unhide HCB) k hlt
      have e : ∀ x, wr.cell? x = w.cell? x := fun x => by simp only [World.cell?, hh]
      rw [← e] at c0 c1 c0' c1'
      generalize A.getD k (0, 0) = p at *
      obtain ⟨x, y⟩ := p
      simp only at c0 c1 c0' c1'
      have li : (k : Int) < (A.length : Int) := by omega
      have HH := hide (⟨hkw, hh⟩ : _ ∧ _)
      clear e hh hkw
      go_wp2_with fail
      refine wp_region_held_drew (S := fun w' => w'.cell? (ad.add (k * 2)) = some (.int .i64 x) ∧ w'.cell? ⟨(ad.add (k * 2)).block, (ad.add (k * 2)).off + 1, none⟩ = some (.int .i64 y) ∧ w'.cell? (ad'.add (k * 2)) = some (.int .i64 x) ∧ w'.cell? ⟨(ad'.add (k * 2)).block, (ad'.add (k * 2)).off + 1, none⟩ = some (.int .i64 y)) (by kernel_rfl) (by exact ⟨c0, c1, c0', c1'⟩) (fun hHeld => ?_)
      refine wpAnyH_take (i := 0) (v := ?_) rfl (by kernel_rfl) (by kernel_rfl) (by kernel_rfl) (fun _ _ _ h => h) (Or.inl ⟨by rfl, ?_⟩) hHeld ?_
      rotate_left
      · intro w hSw
        try dsimp only at hSw
        go_simp
        try with_reducible rfl
      show wpAnyH _ _ _ _ _ _ _ (Act.put _ (some 17) _) _
      try simp only [Act.put, List.setIfInBounds_toArray, List.set_cons_zero, List.set_cons_succ]
      refine wpAnyH_take (i := 1) (v := ?_) rfl (by kernel_rfl) (by kernel_rfl) (by kernel_rfl) (fun _ _ _ h => h) (Or.inl ⟨by rfl, ?_⟩) hHeld ?_
      rotate_left
      · intro w hSw
        try dsimp only at hSw
        go_simp
        try with_reducible rfl
      show wpAnyH _ _ _ _ _ _ _ (Act.put _ (some 18) _) _
      try simp only [Act.put, List.setIfInBounds_toArray, List.set_cons_zero, List.set_cons_succ]
      refine wpAnyH_take (i := 2) (v := ?_) rfl (by kernel_rfl) (by kernel_rfl) (by kernel_rfl) (fun _ _ _ h => h) (Or.inl ⟨by rfl, ?_⟩) hHeld ?_
      rotate_left
      · intro w hSw
        try dsimp only at hSw
        go_simp
        try with_reducible rfl
      show wpAnyH _ _ _ _ _ _ _ (Act.put _ (some 19) _) _
      try simp only [Act.put, List.setIfInBounds_toArray, List.set_cons_zero, List.set_cons_succ]
      refine wpAnyH_take (i := 3) (v := ?_) rfl (by kernel_rfl) (by kernel_rfl) (by kernel_rfl) (fun _ _ _ h => h) (Or.inl ⟨by rfl, ?_⟩) hHeld ?_
      rotate_left
      · intro w hSw
        try dsimp only at hSw
        go_simp
        try with_reducible rfl
      show wpAnyH _ _ _ _ _ _ _ (Act.put _ (some 20) _) _
      try simp only [Act.put, List.setIfInBounds_toArray, List.set_cons_zero, List.set_cons_succ]
      refine wpAnyH_take (i := 4) (v := ?_) rfl (by kernel_rfl) (by kernel_rfl) (by kernel_rfl) (fun _ _ _ h => h) (Or.inl ⟨by rfl, ?_⟩) hHeld ?_
      rotate_left
      · intro w hSw
        try dsimp only at hSw
        go_simp
        try with_reducible rfl
      show wpAnyH _ _ _ _ _ _ _ (Act.put _ (some 21) _) _
      try simp only [Act.put, List.setIfInBounds_toArray, List.set_cons_zero, List.set_cons_succ]
      refine wpAnyH_take (i := 5) (v := ?_) rfl (by kernel_rfl) (by kernel_rfl) (by kernel_rfl) (fun _ _ _ h => h) (Or.inl ⟨by rfl, ?_⟩) hHeld ?_
      rotate_left
      · intro w hSw
        try dsimp only at hSw
        go_simp
        try with_reducible rfl
      show wpAnyH _ _ _ _ _ _ _ (Act.put _ (some 22) _) _
      try simp only [Act.put, List.setIfInBounds_toArray, List.set_cons_zero, List.set_cons_succ]
      refine wpAnyH_take (i := 6) (v := ?_) rfl (by kernel_rfl) (by kernel_rfl) (by kernel_rfl) (fun _ _ _ h => h) (Or.inl ⟨by rfl, ?_⟩) hHeld ?_
      rotate_left
      · intro w hSw
        try dsimp only at hSw
        go_simp
        try with_reducible rfl
      show wpAnyH _ _ _ _ _ _ _ (Act.put _ (some 23) _) _
      try simp only [Act.put, List.setIfInBounds_toArray, List.set_cons_zero, List.set_cons_succ]
      refine wpAnyH_take (i := 7) (v := ?_) rfl (by kernel_rfl) (by kernel_rfl) (by kernel_rfl) (fun _ _ _ h => h) (Or.inl ⟨by rfl, ?_⟩) hHeld ?_
      rotate_left
      · intro w hSw
        try dsimp only at hSw
        go_simp
        try with_reducible rfl
      show wpAnyH _ _ _ _ _ _ _ (Act.put _ (some 24) _) _
      try simp only [Act.put, List.setIfInBounds_toArray, List.set_cons_zero, List.set_cons_succ]
      refine wpAnyH_take (i := 8) (v := ?_) rfl (by kernel_rfl) (by kernel_rfl) (by kernel_rfl) (fun _ _ _ h => h) (Or.inl ⟨by rfl, ?_⟩) hHeld ?_
      rotate_left
      · intro w hSw
        try dsimp only at hSw
        go_simp
        try with_reducible rfl
      show wpAnyH _ _ _ _ _ _ _ (Act.put _ (some 25) _) _
      try simp only [Act.put, List.setIfInBounds_toArray, List.set_cons_zero, List.set_cons_succ]
      refine wpAnyH_done (by kernel_rfl) ?_ _
      clear hHeld
      go_wp2_with fail
      go_roundw
      case rel => exact ⟨k + 1, by omega, by go_num, Keep.drew (unhide HH).1, (unhide HH).2⟩
      case measure => simp [intOf]; omega
    · have li : ¬ (k : Int) < (A.length : Int) := by omega
      clear hh
      go_wp2_with fail
      go_ret
      exact ⟨rfl, hkw⟩
/-! ### few -/
set_option maxHeartbeats 1000000 in
theorem few_end (c : Int) (hf : Few c) (w : World) : Calls Try.prog 5 #[.int .i64 c, .slice none 0 0] w fun e w' => e = .returned (.bool true) ∧ w' = w := by
  unfold Few at hf
  by_cases h : c ≤ 300
  · clear hf
    go_enter Try.func5, Try.ntmps5
    go_wp2_with fail
    refine wp_loop_rounds 1 ?_
    rw [rounds_succ]
    go_wp2_with fail
    go_ret
    exact ⟨rfl, rfl⟩
  · have h2 : 6000 < c := by omega
    clear hf
    go_enter Try.func5, Try.ntmps5
    go_wp2_with fail
    refine wp_loop_rounds 1 ?_
    rw [rounds_succ]
    go_wp2_with fail
    go_ret
    exact ⟨rfl, rfl⟩
end Go.Proofs.Ytcllijjmjmfedaa
