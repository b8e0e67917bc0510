/- The document's Longest: a round, and the rounds. -/
import Derived.Test.YtfofkkjldngkaaaDoorPaW
namespace Go.Proofs.YtfofkkjldngkaaaDoor
open Go.RowKit
attribute [local go_sem ↓] Go.wp_at_zero Go.wp_at_succ
set_option linter.unusedVariables false
set_option linter.unusedSimpArgs false
set_option maxRecDepth 10000
namespace Pa
theorem jl_app (d : List Int) : ∀ (A B : List Ed) (o : List Int), jl d (A ++ B) o = jl d B (jl d A o)
  | [], B, o => rfl
  | e :: A, B, o => by rw [List.cons_append, jl, jl, jl_app d A B]
theorem jb_app (d : List Int) : ∀ (A B : List Ed) (o : List Int), jb d (A ++ B) o = (jb d A o || jb d B (jl d A o))
  | [], B, o => by simp [jb, jl]
  | e :: A, B, o => by rw [List.cons_append, jb, jb, jl, jb_app d A B, Bool.or_assoc]
theorem gt_or (d o : List Int) (f t : Nat) (l : Int) : (¬ 0 ≤ g d f ∧ gt d o (f, t, l) = false) ∨ (0 ≤ g d f ∧ ¬ g o t < g d f + l ∧ gt d o (f, t, l) = false) ∨ (0 ≤ g d f ∧ g o t < g d f + l ∧ gt d o (f, t, l) = true) := by
  unfold gt
  by_cases h1 : 0 ≤ g d f <;> by_cases h2 : g o t < g d f + l <;> simp [h1, h2]
theorem Is.at {w : World} {a : Option Addr} {m c : Nat} {L : List Int} (h : Is w (.slice a m c) L) : m = L.length ∧ ∀ k, k < L.length → ∃ ad, a = some ad ∧ w.cell? (ad.add k) = some (.int .i64 (g L k)) := by
  obtain ⟨a', c', e, h⟩ := h
  injection e with e1 e2 e3
  subst e1
  refine ⟨e2, fun k hk => ?_⟩
  obtain ⟨ad, h1, h2⟩ := h k hk
  exact ⟨ad, h1, by rw [← g_at hk]; exact h2⟩
theorem is_sl {w : World} {v : Value} {L : List Int} (h : Is w v L) : ∃ a c, v = .slice a L.length c := by
  obtain ⟨a, c, e, _⟩ := h
  exact ⟨a, c, e⟩
def Rq (E : List Ed) (D : List Int) (w : World) (e : Ending) (w' : World) : Prop := ∃ u, e = .returned (.tuple #[u, .bool (jb D E D)]) ∧ Keep w w' ∧ Iw 2 w' u (jac E D)
set_option maxHeartbeats 4000000 in
theorem rround_any (v vd : Value) (R : List E3) (n : Nat) (D : List Int) (w : World) (hR : Es w v R) (hl : R.length ≤ 1000) (hG : isG (n : Int) R = true) (hD : Is w vd D) (hn : Nn n D) (hB : ∀ p, g D p ≤ 1000000000000) :
    Calls Tryd.prog 21 #[vd, v] w (Rq (nE R) D w) := by
  obtain ⟨n', hn', hn1, hn2, hg, h6, hat⟩ := isG_gr hG
  obtain rfl : n = n' := by omega
  obtain ⟨a, cap, rfl, hR⟩ := hR
  have HC := hide hR
  clear hR
  obtain ⟨m, hm⟩ : ∃ m, R.length = m := ⟨_, rfl⟩
  have HM := hide hm
  rw [hm] at hl HC hat ⊢
  clear hm
  have HD := hide hD
  obtain ⟨xa, xc, rfl⟩ := is_sl hD
  rw [hn.1] at HD hD ⊢
  obtain ⟨O, hO⟩ : ∃ O : Nat → List Int, ∀ k, O k = jl D ((nE R).take k) D := ⟨_, fun k => rfl⟩
  obtain ⟨Bs, hBs⟩ : ∃ Bs : Nat → Bool, ∀ k, Bs k = jb D ((nE R).take k) D := ⟨_, fun k => rfl⟩
  have HO0 : Hid (O 0 = D) := hide (hO 0)
  have HB0 : Hid (Bs 0 = false) := hide (hBs 0)
  have htm : (nE R).take m = nE R := List.take_of_length_le (by rw [nE_len, unhide HM]; exact Nat.le_refl _)
  have HP : Hid (∀ e w' u, Keep w w' → Iw 2 w' u (O m) → e = .returned (.tuple #[u, .bool (Bs m)]) → Rq (nE R) D w e w') := hide (fun e w' u hk hi he => ⟨u, by rw [he, hBs, htm], hk, by rw [hO, htm] at hi; exact hi⟩)
  have HOn : Hid (∀ k, (O k).length = n) := hide (fun k => by rw [hO, jl_len, hn.1])
  have HA : Hid (∀ k, k < m → ∃ f t : Nat, ∃ l : Int, R.getD k z3 = ((f : Int), (t : Int), l) ∧ f < n ∧ t < n ∧ 0 ≤ l ∧ l ≤ 6000 ∧ O (k + 1) = rl D (O k) (f, t, l) ∧ Bs (k + 1) = (Bs k || gt D (O k) (f, t, l))) := hide (fun k hk => by
    obtain ⟨f, t, l, h1, h2, h3, h4, h5, h6⟩ := hat k hk
    exact ⟨f, t, l, h1, h3, h4, h5, h6, by rw [hO, hO, take_more h2, jl_app]; rfl, by rw [hBs, hBs, take_more h2, jb_app, hO]; simp [jb]⟩)
  have HDc : Hid (∀ k, k < n → ∃ ad, xa = some ad ∧ w.cell? (ad.add k) = some (.int .i64 (g D k)) ∧ -1 ≤ g D k ∧ g D k ≤ 1000000000000) := hide (fun k hk => by
    obtain ⟨ad, e1, e2⟩ := hD.at.2 k (by rw [hn.1]; exact hk)
    exact ⟨ad, e1, e2, hn.2 k, hB k⟩)
  have HVD : Hid (Vs w (.slice xa n xc) n (ics D)) := hide (by have := hD.vs; rw [hn.1] at this; exact this)
  have HDl : Hid (D.length = n) := hide hn.1
  generalize Rq (nE R) D w = QQ at HP ⊢
  clear hO hBs htm hat h6 hg hG hD HD hn hB
  obtain ⟨i0, hi0, hz0, hz1, hz2⟩ := info_f infoI
  have E0 := hide (e_row w 2 1)
  have KA := hide ((Keep.refl w).alloc (.cells #[] 2))
  have HVA := hide ((unhide HVD).keep (unhide KA))
  have HL1 : Hid ((ics D).length = n * 1) := hide (by rw [ics_len, unhide HDl, Nat.mul_one])
  have HL2 := hide (ics_one D)
  go_enter Tryd.func21, Tryd.ntmps21
  go_wp2_with (at_builtin; refine wpList_append_vs _ rfl _ _ 24 rfl w.heap.size 2 i0 _ 1 8 Tryd.underlying24 hi0 hz0 hz1 hz2 rfl (by decide) (by decide) _ 0 [] rfl (unhide E0) _ n (ics D) rfl (unhide HVA) (unhide HL1) (unhide HL2) (by omega) (unhide KA).size ?_; intro v5 w5 hown' hgrow; rw [Nat.zero_add, List.nil_append] at hown'; obtain ⟨g0, c5, rfl, hgb, hgl⟩ := own_g hown' (by omega); have HO5 := hide hown'; have Hgb := hide hgb; have K5 : Hid (Keep w w5) := hide (Below.grown (unhide KA) hgrow (unhide KA).size (fun j ej => ((unhide E0).lt j ej).1)); clear hown' hgrow hgb hgl)
  rw [← unhide HO0] at HO5
  go_loopw [7, 8] (fun vb vi wr => ∃ k : Nat, vi = .int .i64 (k : Int) ∧ k ≤ m ∧ vb = .bool (Bs k) ∧ Hid (Keep w wr) ∧ Hid (wr.ownsRow w.heap.size 2 1 (.slice (some ⟨g0, 0, none⟩) n c5) n (ics (O k)))) (fun vb vi _ => m - (intOf vi).toNat)
  case atStart => exact ⟨0, rfl, Nat.zero_le _, by rw [unhide HB0], K5, HO5⟩
  case round =>
    clear K5 HO5
    obtain ⟨k, rfl, hk, rfl, KW, OW⟩ := hrel
    by_cases hlt : k < m
    · have li : (k : Int) < (m : Int) := by omega
      obtain ⟨ad, rfl, hc3⟩ := (unhide HC) k hlt
      obtain ⟨f, t, l, hr, hf, ht, hl0, hl6, hok, hbk⟩ := (unhide HA) k hlt
      rw [hr] at hc3
      obtain ⟨x0, x1, x2⟩ := hc3.keep (unhide KW)
      simp only at x0 x1 x2
      obtain ⟨xa, rfl, y0, hyl, hyu⟩ := (unhide HDc) f hf
      have cf := hide (kc (unhide KW) y0)
      have Y0 := hide y0
      have ct : Hid (wr.cell? ⟨g0, t, none⟩ = some (.int .i64 (g (O k) t))) := hide (by rw [(unhide OW).cellAt t (by omega), ics_at (by rw [unhide HOn]; exact ht), g_at (by rw [unhide HOn]; exact ht)])
      have HOk := hide hok
      have HBk := hide hbk
      have GO := gt_or D (O k) f t l
      have HN := hide (fun h : gt D (O k) (f, t, l) = false => (show rl D (O k) (f, t, l) = O k by unfold rl; rw [h]; rfl))
      have HY := hide (fun h : gt D (O k) (f, t, l) = true => (show rl D (O k) (f, t, l) = (O k).set t (g D f + l) by unfold rl; rw [h]; rfl))
      clear hok hbk hc3 hr y0
      generalize gt D (O k) (f, t, l) = Gp at GO HN HY HBk
      obtain ⟨y, hy⟩ : ∃ y, g D f = y := ⟨_, rfl⟩
      obtain ⟨z, hz⟩ : ∃ z, g (O k) t = z := ⟨_, rfl⟩
      rw [hy] at cf hyl hyu GO HY Y0
      rw [hz] at ct GO
      clear hy hz
      have hw : IntKind.i64.wrap (y + l) = y + l := by rw [IntKind.wrap_i64]; omega
      have fi : (f : Int) < (n : Int) := by omega
      have ti : (t : Int) < (n : Int) := by omega
      have fz : (0 : Int) ≤ (f : Int) := by omega
      have tz : (0 : Int) ≤ (t : Int) := by omega
      have E1 : Hid (Eb (wr.alloc (.cells #[.int .i64 (f : Int), .int .i64 (t : Int), .int .i64 l] 34)) wr.heap.size f t l) := hide ⟨by simp [go_sem], by simp [go_sem], by simp [go_sem]⟩
      have KB := hide ((Keep.refl wr).alloc (.cells #[.int .i64 (f : Int), .int .i64 (t : Int), .int .i64 l] 34))
      have lg0 : Hid (g0 < wr.heap.size) := hide (by obtain ⟨g', c', e, _, hlt'⟩ := own_g (unhide OW) (by omega); injection e with e1; injection e1 with e1; injection e1 with e1; omega)
      go_upto_region 7 with fail
      generalize wr.alloc (.cells #[.int .i64 (f : Int), .int .i64 (t : Int), .int .i64 l] 34) = w1 at E1 KB ⊢
      obtain ⟨c, hc⟩ : ∃ c, wr.heap.size = c := ⟨_, rfl⟩
      rw [hc] at E1 lg0 ⊢
      clear hc
      have K1 := hide ((unhide KW).trans (unhide KB))
      have O1 := hide (own_k (unhide OW) (unhide KB))
      have CK : Hid (∀ w', Keep w1 w' → w'.cell? ⟨c, 0, none⟩ = some (.int .i64 (f : Int)) ∧ w'.cell? ⟨c, 1, none⟩ = some (.int .i64 (t : Int)) ∧ w'.cell? ⟨c, 2, none⟩ = some (.int .i64 l) ∧ w'.cell? (xa.add f) = some (.int .i64 y) ∧ w'.cell? ⟨g0, t, none⟩ = some (.int .i64 z)) := hide (fun w' hk => ⟨kc hk (unhide E1).1, kc hk (unhide E1).2.1, kc hk (unhide E1).2.2, kc hk (kc (unhide KB) (unhide cf)), kc hk (kc (unhide KB) (unhide ct))⟩)
      clear cf ct
      rcases GO with ⟨hcmp, rfl⟩ | ⟨hge, hcmp, rfl⟩ | ⟨hge, hcmp, rfl⟩
      · have HXn := hide ((unhide HOk).trans ((unhide HN) rfl))
        have HBn : Hid (Bs (k + 1) = Bs k) := hide (by rw [unhide HBk, Bool.or_false])
        clear HN HY
        have hd0 : decide (0 ≤ y) = false := decide_eq_false hcmp
        clear hcmp
        go_upto_region 7 with fail
        refine wp_region_held_drew (S := (fun w' => w'.cell? ⟨c, 0, none⟩ = some (.int .i64 (f : Int)) ∧ w'.cell? ⟨c, 1, none⟩ = some (.int .i64 (t : Int)) ∧ w'.cell? ⟨c, 2, none⟩ = some (.int .i64 l) ∧ w'.cell? (xa.add f) = some (.int .i64 y) ∧ w'.cell? ⟨g0, t, none⟩ = some (.int .i64 z))) (by kernel_rfl) (by exact unhide CK _ (by repeat (first | apply Keep.drew | exact Keep.refl _))) (fun hHeld => ?_)
        refine wpAnyH_take (i := 0) (v := ?_) rfl (by kernel_rfl) (by kernel_rfl) (by kernel_rfl) (fun _ _ _ h => h) (Or.inl ⟨by rfl, ?_⟩) hHeld ?_
        rotate_left
        · intro w hSw
          try dsimp only at hSw
          go_simp
          try with_reducible rfl
        show wpAnyH _ _ _ _ _ _ _ (Act.put _ (some 23) _) _
        try simp only [Act.put, List.setIfInBounds_toArray, List.set_cons_zero, List.set_cons_succ]
        refine wpAnyH_take (i := 1) (v := ?_) rfl (by kernel_rfl) (by kernel_rfl) (by kernel_rfl) (fun _ _ _ h => h) (Or.inl ⟨by rfl, ?_⟩) hHeld ?_
        rotate_left
        · intro w hSw
          try dsimp only at hSw
          go_simp
          try with_reducible rfl
        show wpAnyH _ _ _ _ _ _ _ (Act.put _ (some 24) _) _
        try simp only [Act.put, List.setIfInBounds_toArray, List.set_cons_zero, List.set_cons_succ]
        refine wpAnyH_take (i := 2) (v := ?_) rfl (by kernel_rfl) (by kernel_rfl) (by kernel_rfl) (fun _ _ _ h => h) (Or.inl ⟨by rfl, ?_⟩) hHeld ?_
        rotate_left
        · intro w hSw
          try dsimp only at hSw
          go_simp
          try with_reducible rfl
        show wpAnyH _ _ _ _ _ _ _ (Act.put _ (some 25) _) _
        try simp only [Act.put, List.setIfInBounds_toArray, List.set_cons_zero, List.set_cons_succ]
        refine wpAnyH_take (i := 3) (v := ?_) rfl (by kernel_rfl) (by kernel_rfl) (by kernel_rfl) (fun _ _ _ h => h) (Or.inl ⟨by rfl, ?_⟩) hHeld ?_
        rotate_left
        · intro w hSw
          try dsimp only at hSw
          go_simp
          try with_reducible rfl
        show wpAnyH _ _ _ _ _ _ _ (Act.put _ (some 26) _) _
        try simp only [Act.put, List.setIfInBounds_toArray, List.set_cons_zero, List.set_cons_succ]
        refine wpAnyH_take (i := 4) (v := ?_) rfl (by kernel_rfl) (by kernel_rfl) (by kernel_rfl) (fun _ _ _ h => h) (Or.inl ⟨by rfl, ?_⟩) hHeld ?_
        rotate_left
        · intro w hSw
          try dsimp only at hSw
          go_simp
          try with_reducible rfl
        show wpAnyH _ _ _ _ _ _ _ (Act.put _ (some 27) _) _
        try simp only [Act.put, List.setIfInBounds_toArray, List.set_cons_zero, List.set_cons_succ]
        refine wpAnyH_take (i := 5) (v := ?_) rfl (by kernel_rfl) (by kernel_rfl) (by kernel_rfl) (fun _ _ _ h => h) (Or.inl ⟨by rfl, ?_⟩) hHeld ?_
        rotate_left
        · intro w hSw
          try dsimp only at hSw
          go_simp
          try with_reducible rfl
        show wpAnyH _ _ _ _ _ _ _ (Act.put _ (some 28) _) _
        try simp only [Act.put, List.setIfInBounds_toArray, List.set_cons_zero, List.set_cons_succ]
        refine wpAnyH_take (i := 6) (v := ?_) rfl (by kernel_rfl) (by kernel_rfl) (by kernel_rfl) (fun _ _ _ h => h) (Or.inl ⟨by rfl, ?_⟩) hHeld ?_
        rotate_left
        · intro w hSw
          try dsimp only at hSw
          go_simp
          try with_reducible rfl
        show wpAnyH _ _ _ _ _ _ _ (Act.put _ (some 29) _) _
        try simp only [Act.put, List.setIfInBounds_toArray, List.set_cons_zero, List.set_cons_succ]
        refine wpAnyH_take (i := 7) (v := undef) rfl (by kernel_rfl) (by kernel_rfl) (by kernel_rfl) (fun _ _ _ h => h) (Or.inr ⟨by rfl, rfl⟩) hHeld ?_
        show wpAnyH _ _ _ _ _ _ _ (Act.put _ (some 30) _) _
        try simp only [Act.put, List.setIfInBounds_toArray, List.set_cons_zero, List.set_cons_succ]
        refine wpAnyH_take (i := 8) (v := undef) rfl (by kernel_rfl) (by kernel_rfl) (by kernel_rfl) (fun _ _ _ h => h) (Or.inr ⟨by rfl, rfl⟩) hHeld ?_
        show wpAnyH _ _ _ _ _ _ _ (Act.put _ (some 31) _) _
        try simp only [Act.put, List.setIfInBounds_toArray, List.set_cons_zero, List.set_cons_succ]
        refine wpAnyH_take (i := 9) (v := undef) rfl (by kernel_rfl) (by kernel_rfl) (by kernel_rfl) (fun _ _ _ h => h) (Or.inr ⟨by rfl, rfl⟩) hHeld ?_
        show wpAnyH _ _ _ _ _ _ _ (Act.put _ (some 32) _) _
        try simp only [Act.put, List.setIfInBounds_toArray, List.set_cons_zero, List.set_cons_succ]
        refine wpAnyH_take (i := 10) (v := undef) rfl (by kernel_rfl) (by kernel_rfl) (by kernel_rfl) (fun _ _ _ h => h) (Or.inr ⟨by rfl, rfl⟩) hHeld ?_
        show wpAnyH _ _ _ _ _ _ _ (Act.put _ (some 33) _) _
        try simp only [Act.put, List.setIfInBounds_toArray, List.set_cons_zero, List.set_cons_succ]
        refine wpAnyH_take (i := 11) (v := undef) rfl (by kernel_rfl) (by kernel_rfl) (by kernel_rfl) (fun _ _ _ h => h) (Or.inr ⟨by rfl, rfl⟩) hHeld ?_
        show wpAnyH _ _ _ _ _ _ _ (Act.put _ (some 34) _) _
        try simp only [Act.put, List.setIfInBounds_toArray, List.set_cons_zero, List.set_cons_succ]
        refine wpAnyH_take (i := 12) (v := undef) rfl (by kernel_rfl) (by kernel_rfl) (by kernel_rfl) (fun _ _ _ h => h) (Or.inr ⟨by rfl, rfl⟩) hHeld ?_
        show wpAnyH _ _ _ _ _ _ _ (Act.put _ (some 35) _) _
        try simp only [Act.put, List.setIfInBounds_toArray, List.set_cons_zero, List.set_cons_succ]
        refine wpAnyH_take (i := 13) (v := undef) rfl (by kernel_rfl) (by kernel_rfl) (by kernel_rfl) (fun _ _ _ h => h) (Or.inr ⟨by rfl, rfl⟩) hHeld ?_
        show wpAnyH _ _ _ _ _ _ _ (Act.put _ (some 36) _) _
        try simp only [Act.put, List.setIfInBounds_toArray, List.set_cons_zero, List.set_cons_succ]
        refine wpAnyH_take (i := 14) (v := undef) rfl (by kernel_rfl) (by kernel_rfl) (by kernel_rfl) (fun _ _ _ h => h) (Or.inr ⟨by rfl, rfl⟩) hHeld ?_
        show wpAnyH _ _ _ _ _ _ _ (Act.put _ (some 37) _) _
        try simp only [Act.put, List.setIfInBounds_toArray, List.set_cons_zero, List.set_cons_succ]
        refine wpAnyH_take (i := 15) (v := undef) rfl (by kernel_rfl) (by kernel_rfl) (by kernel_rfl) (fun _ _ _ h => h) (Or.inr ⟨by rfl, rfl⟩) hHeld ?_
        show wpAnyH _ _ _ _ _ _ _ (Act.put _ (some 38) _) _
        try simp only [Act.put, List.setIfInBounds_toArray, List.set_cons_zero, List.set_cons_succ]
        refine wpAnyH_take (i := 16) (v := undef) rfl (by kernel_rfl) (by kernel_rfl) (by kernel_rfl) (fun _ _ _ h => h) (Or.inr ⟨by rfl, rfl⟩) hHeld ?_
        show wpAnyH _ _ _ _ _ _ _ (Act.put _ (some 39) _) _
        try simp only [Act.put, List.setIfInBounds_toArray, List.set_cons_zero, List.set_cons_succ]
        refine wpAnyH_take (i := 17) (v := undef) rfl (by kernel_rfl) (by kernel_rfl) (by kernel_rfl) (fun _ _ _ h => h) (Or.inr ⟨by rfl, rfl⟩) hHeld ?_
        show wpAnyH _ _ _ _ _ _ _ (Act.put _ (some 40) _) _
        try simp only [Act.put, List.setIfInBounds_toArray, List.set_cons_zero, List.set_cons_succ]
        refine wpAnyH_take (i := 18) (v := undef) rfl (by kernel_rfl) (by kernel_rfl) (by kernel_rfl) (fun _ _ _ h => h) (Or.inr ⟨by rfl, rfl⟩) hHeld ?_
        show wpAnyH _ _ _ _ _ _ _ (Act.put _ (some 41) _) _
        try simp only [Act.put, List.setIfInBounds_toArray, List.set_cons_zero, List.set_cons_succ]
        refine wpAnyH_take (i := 19) (v := undef) rfl (by kernel_rfl) (by kernel_rfl) (by kernel_rfl) (fun _ _ _ h => h) (Or.inr ⟨by rfl, rfl⟩) hHeld ?_
        show wpAnyH _ _ _ _ _ _ _ (Act.put _ (some 42) _) _
        try simp only [Act.put, List.setIfInBounds_toArray, List.set_cons_zero, List.set_cons_succ]
        refine wpAnyH_take (i := 20) (v := undef) rfl (by kernel_rfl) (by kernel_rfl) (by kernel_rfl) (fun _ _ _ h => h) (Or.inr ⟨by rfl, rfl⟩) hHeld ?_
        show wpAnyH _ _ _ _ _ _ _ (Act.put _ (some 43) _) _
        try simp only [Act.put, List.setIfInBounds_toArray, List.set_cons_zero, List.set_cons_succ]
        refine wpAnyH_take (i := 21) (v := ?_) rfl (by kernel_rfl) (by kernel_rfl) (by kernel_rfl) (fun _ _ _ h => h) (Or.inl ⟨by rfl, ?_⟩) hHeld ?_
        rotate_left
        · intro w hSw
          try dsimp only at hSw
          go_simp
          try with_reducible rfl
        show wpAnyH _ _ _ _ _ _ _ (Act.put _ (some 44) _) _
        try simp only [Act.put, List.setIfInBounds_toArray, List.set_cons_zero, List.set_cons_succ]
        refine wpAnyH_done (by kernel_rfl) ?_ _
        clear hHeld
        go_wp2_with fail
        go_roundw
        case rel => exact ⟨k + 1, by go_num, by omega, by rw [unhide HBn], hide (by have := unhide K1; repeat (first | exact this | apply Keep.drew)), hide (by rw [unhide HXn]; exact own_k (unhide O1) (by repeat (first | apply Keep.drew | exact Keep.refl _)))⟩
        case measure => simp [intOf]; omega
      · have HXn := hide ((unhide HOk).trans ((unhide HN) rfl))
        have HBn : Hid (Bs (k + 1) = Bs k) := hide (by rw [unhide HBk, Bool.or_false])
        have hdec : decide (z < y + l) = false := decide_eq_false hcmp
        have hd0 : decide (0 ≤ y) = true := decide_eq_true hge
        clear HN HY hcmp hge
        go_upto_region 7 with fail
        refine wp_region_held_drew (S := (fun w' => w'.cell? ⟨c, 0, none⟩ = some (.int .i64 (f : Int)) ∧ w'.cell? ⟨c, 1, none⟩ = some (.int .i64 (t : Int)) ∧ w'.cell? ⟨c, 2, none⟩ = some (.int .i64 l) ∧ w'.cell? (xa.add f) = some (.int .i64 y) ∧ w'.cell? ⟨g0, t, none⟩ = some (.int .i64 z))) (by kernel_rfl) (by exact unhide CK _ (by repeat (first | apply Keep.drew | exact Keep.refl _))) (fun hHeld => ?_)
        refine wpAnyH_take (i := 0) (v := ?_) rfl (by kernel_rfl) (by kernel_rfl) (by kernel_rfl) (fun _ _ _ h => h) (Or.inl ⟨by rfl, ?_⟩) hHeld ?_
        rotate_left
        · intro w hSw
          try dsimp only at hSw
          go_simp
          try with_reducible rfl
        show wpAnyH _ _ _ _ _ _ _ (Act.put _ (some 23) _) _
        try simp only [Act.put, List.setIfInBounds_toArray, List.set_cons_zero, List.set_cons_succ]
        refine wpAnyH_take (i := 1) (v := ?_) rfl (by kernel_rfl) (by kernel_rfl) (by kernel_rfl) (fun _ _ _ h => h) (Or.inl ⟨by rfl, ?_⟩) hHeld ?_
        rotate_left
        · intro w hSw
          try dsimp only at hSw
          go_simp
          try with_reducible rfl
        show wpAnyH _ _ _ _ _ _ _ (Act.put _ (some 24) _) _
        try simp only [Act.put, List.setIfInBounds_toArray, List.set_cons_zero, List.set_cons_succ]
        refine wpAnyH_take (i := 2) (v := ?_) rfl (by kernel_rfl) (by kernel_rfl) (by kernel_rfl) (fun _ _ _ h => h) (Or.inl ⟨by rfl, ?_⟩) hHeld ?_
        rotate_left
        · intro w hSw
          try dsimp only at hSw
          go_simp
          try with_reducible rfl
        show wpAnyH _ _ _ _ _ _ _ (Act.put _ (some 25) _) _
        try simp only [Act.put, List.setIfInBounds_toArray, List.set_cons_zero, List.set_cons_succ]
        refine wpAnyH_take (i := 3) (v := ?_) rfl (by kernel_rfl) (by kernel_rfl) (by kernel_rfl) (fun _ _ _ h => h) (Or.inl ⟨by rfl, ?_⟩) hHeld ?_
        rotate_left
        · intro w hSw
          try dsimp only at hSw
          go_simp
          try with_reducible rfl
        show wpAnyH _ _ _ _ _ _ _ (Act.put _ (some 26) _) _
        try simp only [Act.put, List.setIfInBounds_toArray, List.set_cons_zero, List.set_cons_succ]
        refine wpAnyH_take (i := 4) (v := ?_) rfl (by kernel_rfl) (by kernel_rfl) (by kernel_rfl) (fun _ _ _ h => h) (Or.inl ⟨by rfl, ?_⟩) hHeld ?_
        rotate_left
        · intro w hSw
          try dsimp only at hSw
          go_simp
          try with_reducible rfl
        show wpAnyH _ _ _ _ _ _ _ (Act.put _ (some 27) _) _
        try simp only [Act.put, List.setIfInBounds_toArray, List.set_cons_zero, List.set_cons_succ]
        refine wpAnyH_take (i := 5) (v := ?_) rfl (by kernel_rfl) (by kernel_rfl) (by kernel_rfl) (fun _ _ _ h => h) (Or.inl ⟨by rfl, ?_⟩) hHeld ?_
        rotate_left
        · intro w hSw
          try dsimp only at hSw
          go_simp
          try with_reducible rfl
        show wpAnyH _ _ _ _ _ _ _ (Act.put _ (some 28) _) _
        try simp only [Act.put, List.setIfInBounds_toArray, List.set_cons_zero, List.set_cons_succ]
        refine wpAnyH_take (i := 6) (v := ?_) rfl (by kernel_rfl) (by kernel_rfl) (by kernel_rfl) (fun _ _ _ h => h) (Or.inl ⟨by rfl, ?_⟩) hHeld ?_
        rotate_left
        · intro w hSw
          try dsimp only at hSw
          go_simp
          try with_reducible rfl
        show wpAnyH _ _ _ _ _ _ _ (Act.put _ (some 29) _) _
        try simp only [Act.put, List.setIfInBounds_toArray, List.set_cons_zero, List.set_cons_succ]
        refine wpAnyH_take (i := 7) (v := ?_) rfl (by kernel_rfl) (by kernel_rfl) (by kernel_rfl) (fun _ _ _ h => h) (Or.inl ⟨by rfl, ?_⟩) hHeld ?_
        rotate_left
        · intro w hSw
          try dsimp only at hSw
          go_simp
          try with_reducible rfl
        show wpAnyH _ _ _ _ _ _ _ (Act.put _ (some 30) _) _
        try simp only [Act.put, List.setIfInBounds_toArray, List.set_cons_zero, List.set_cons_succ]
        refine wpAnyH_take (i := 8) (v := ?_) rfl (by kernel_rfl) (by kernel_rfl) (by kernel_rfl) (fun _ _ _ h => h) (Or.inl ⟨by rfl, ?_⟩) hHeld ?_
        rotate_left
        · intro w hSw
          try dsimp only at hSw
          go_simp
          try with_reducible rfl
        show wpAnyH _ _ _ _ _ _ _ (Act.put _ (some 31) _) _
        try simp only [Act.put, List.setIfInBounds_toArray, List.set_cons_zero, List.set_cons_succ]
        refine wpAnyH_take (i := 9) (v := ?_) rfl (by kernel_rfl) (by kernel_rfl) (by kernel_rfl) (fun _ _ _ h => h) (Or.inl ⟨by rfl, ?_⟩) hHeld ?_
        rotate_left
        · intro w hSw
          try dsimp only at hSw
          go_simp
          try with_reducible rfl
        show wpAnyH _ _ _ _ _ _ _ (Act.put _ (some 32) _) _
        try simp only [Act.put, List.setIfInBounds_toArray, List.set_cons_zero, List.set_cons_succ]
        refine wpAnyH_take (i := 10) (v := ?_) rfl (by kernel_rfl) (by kernel_rfl) (by kernel_rfl) (fun _ _ _ h => h) (Or.inl ⟨by rfl, ?_⟩) hHeld ?_
        rotate_left
        · intro w hSw
          try dsimp only at hSw
          go_simp
          try with_reducible rfl
        show wpAnyH _ _ _ _ _ _ _ (Act.put _ (some 33) _) _
        try simp only [Act.put, List.setIfInBounds_toArray, List.set_cons_zero, List.set_cons_succ]
        refine wpAnyH_take (i := 11) (v := ?_) rfl (by kernel_rfl) (by kernel_rfl) (by kernel_rfl) (fun _ _ _ h => h) (Or.inl ⟨by rfl, ?_⟩) hHeld ?_
        rotate_left
        · intro w hSw
          try dsimp only at hSw
          go_simp
          try with_reducible rfl
        show wpAnyH _ _ _ _ _ _ _ (Act.put _ (some 34) _) _
        try simp only [Act.put, List.setIfInBounds_toArray, List.set_cons_zero, List.set_cons_succ]
        refine wpAnyH_take (i := 12) (v := ?_) rfl (by kernel_rfl) (by kernel_rfl) (by kernel_rfl) (fun _ _ _ h => h) (Or.inl ⟨by rfl, ?_⟩) hHeld ?_
        rotate_left
        · intro w hSw
          try dsimp only at hSw
          go_simp
          try with_reducible rfl
        show wpAnyH _ _ _ _ _ _ _ (Act.put _ (some 35) _) _
        try simp only [Act.put, List.setIfInBounds_toArray, List.set_cons_zero, List.set_cons_succ]
        refine wpAnyH_take (i := 13) (v := ?_) rfl (by kernel_rfl) (by kernel_rfl) (by kernel_rfl) (fun _ _ _ h => h) (Or.inl ⟨by rfl, ?_⟩) hHeld ?_
        rotate_left
        · intro w hSw
          try dsimp only at hSw
          go_simp
          try with_reducible rfl
        show wpAnyH _ _ _ _ _ _ _ (Act.put _ (some 36) _) _
        try simp only [Act.put, List.setIfInBounds_toArray, List.set_cons_zero, List.set_cons_succ]
        refine wpAnyH_take (i := 14) (v := ?_) rfl (by kernel_rfl) (by kernel_rfl) (by kernel_rfl) (fun _ _ _ h => h) (Or.inl ⟨by rfl, ?_⟩) hHeld ?_
        rotate_left
        · intro w hSw
          try dsimp only at hSw
          go_simp
          try with_reducible rfl
        show wpAnyH _ _ _ _ _ _ _ (Act.put _ (some 37) _) _
        try simp only [Act.put, List.setIfInBounds_toArray, List.set_cons_zero, List.set_cons_succ]
        refine wpAnyH_take (i := 15) (v := ?_) rfl (by kernel_rfl) (by kernel_rfl) (by kernel_rfl) (fun _ _ _ h => h) (Or.inl ⟨by rfl, ?_⟩) hHeld ?_
        rotate_left
        · intro w hSw
          try dsimp only at hSw
          go_simp
          try with_reducible rfl
        show wpAnyH _ _ _ _ _ _ _ (Act.put _ (some 38) _) _
        try simp only [Act.put, List.setIfInBounds_toArray, List.set_cons_zero, List.set_cons_succ]
        refine wpAnyH_take (i := 16) (v := ?_) rfl (by kernel_rfl) (by kernel_rfl) (by kernel_rfl) (fun _ _ _ h => h) (Or.inl ⟨by rfl, ?_⟩) hHeld ?_
        rotate_left
        · intro w hSw
          try dsimp only at hSw
          go_simp
          try with_reducible rfl
        show wpAnyH _ _ _ _ _ _ _ (Act.put _ (some 39) _) _
        try simp only [Act.put, List.setIfInBounds_toArray, List.set_cons_zero, List.set_cons_succ]
        refine wpAnyH_take (i := 17) (v := ?_) rfl (by kernel_rfl) (by kernel_rfl) (by kernel_rfl) (fun _ _ _ h => h) (Or.inl ⟨by rfl, ?_⟩) hHeld ?_
        rotate_left
        · intro w hSw
          try dsimp only at hSw
          go_simp
          try with_reducible rfl
        show wpAnyH _ _ _ _ _ _ _ (Act.put _ (some 40) _) _
        try simp only [Act.put, List.setIfInBounds_toArray, List.set_cons_zero, List.set_cons_succ]
        refine wpAnyH_take (i := 18) (v := ?_) rfl (by kernel_rfl) (by kernel_rfl) (by kernel_rfl) (fun _ _ _ h => h) (Or.inl ⟨by rfl, ?_⟩) hHeld ?_
        rotate_left
        · intro w hSw
          try dsimp only at hSw
          go_simp
          try with_reducible rfl
        show wpAnyH _ _ _ _ _ _ _ (Act.put _ (some 41) _) _
        try simp only [Act.put, List.setIfInBounds_toArray, List.set_cons_zero, List.set_cons_succ]
        refine wpAnyH_take (i := 19) (v := ?_) rfl (by kernel_rfl) (by kernel_rfl) (by kernel_rfl) (fun _ _ _ h => h) (Or.inl ⟨by rfl, ?_⟩) hHeld ?_
        rotate_left
        · intro w hSw
          try dsimp only at hSw
          go_simp
          try with_reducible rfl
        show wpAnyH _ _ _ _ _ _ _ (Act.put _ (some 42) _) _
        try simp only [Act.put, List.setIfInBounds_toArray, List.set_cons_zero, List.set_cons_succ]
        refine wpAnyH_take (i := 20) (v := ?_) rfl (by kernel_rfl) (by kernel_rfl) (by kernel_rfl) (fun _ _ _ h => h) (Or.inl ⟨by rfl, ?_⟩) hHeld ?_
        rotate_left
        · intro w hSw
          try dsimp only at hSw
          go_simp
          try with_reducible rfl
        show wpAnyH _ _ _ _ _ _ _ (Act.put _ (some 43) _) _
        try simp only [Act.put, List.setIfInBounds_toArray, List.set_cons_zero, List.set_cons_succ]
        refine wpAnyH_take (i := 21) (v := ?_) rfl (by kernel_rfl) (by kernel_rfl) (by kernel_rfl) (fun _ _ _ h => h) (Or.inl ⟨by rfl, ?_⟩) hHeld ?_
        rotate_left
        · intro w hSw
          try dsimp only at hSw
          go_simp
          try with_reducible rfl
        show wpAnyH _ _ _ _ _ _ _ (Act.put _ (some 44) _) _
        try simp only [Act.put, List.setIfInBounds_toArray, List.set_cons_zero, List.set_cons_succ]
        refine wpAnyH_done (by kernel_rfl) ?_ _
        clear hHeld
        go_wp2_with fail
        go_roundw
        case rel => exact ⟨k + 1, by go_num, by omega, by rw [unhide HBn], hide (by have := unhide K1; repeat (first | exact this | apply Keep.drew)), hide (by rw [unhide HXn]; exact own_k (unhide O1) (by repeat (first | apply Keep.drew | exact Keep.refl _)))⟩
        case measure => simp [intOf]; omega
      · have HXn := hide ((unhide HOk).trans ((unhide HY) rfl))
        have HBn : Hid (Bs (k + 1) = true) := hide (by rw [unhide HBk, Bool.or_true])
        have hdec : decide (z < y + l) = true := decide_eq_true hcmp
        have hd0 : decide (0 ≤ y) = true := decide_eq_true hge
        clear HN HY hcmp hge
        have hf := (unhide O1).frozenAt t
        have hqt : w1.cell? ⟨g0, t, none⟩ = some (.int .i64 z) := (unhide CK _ (Keep.refl _)).2.2.2.2
        have ST := hide ((unhide O1).stored t (.int .i64 (y + l))).1
        rw [ics_set] at ST
        have E2 : Hid (Eb (w1.setCell ⟨g0, t, none⟩ (.int .i64 (y + l))) c f t l) := hide ((unhide E1).other (by have := unhide lg0; omega))
        have K2 : Hid (Keep w (w1.setCell ⟨g0, t, none⟩ (.int .i64 (y + l)))) := hide (keep_st (unhide K1) (unhide Hgb) _)
        go_upto_region 7 with fail
        refine wp_region_held_drew (S := (fun w' => w'.cell? ⟨c, 0, none⟩ = some (.int .i64 (f : Int)) ∧ w'.cell? ⟨c, 1, none⟩ = some (.int .i64 (t : Int)) ∧ w'.cell? ⟨c, 2, none⟩ = some (.int .i64 l) ∧ w'.cell? (xa.add f) = some (.int .i64 y) ∧ w'.cell? ⟨g0, t, none⟩ = some (.int .i64 z))) (by kernel_rfl) (by exact unhide CK _ (by repeat (first | apply Keep.drew | exact Keep.refl _))) (fun hHeld => ?_)
        refine wpAnyH_take (i := 0) (v := ?_) rfl (by kernel_rfl) (by kernel_rfl) (by kernel_rfl) (fun _ _ _ h => h) (Or.inl ⟨by rfl, ?_⟩) hHeld ?_
        rotate_left
        · intro w hSw
          try dsimp only at hSw
          go_simp
          try with_reducible rfl
        show wpAnyH _ _ _ _ _ _ _ (Act.put _ (some 23) _) _
        try simp only [Act.put, List.setIfInBounds_toArray, List.set_cons_zero, List.set_cons_succ]
        refine wpAnyH_take (i := 1) (v := ?_) rfl (by kernel_rfl) (by kernel_rfl) (by kernel_rfl) (fun _ _ _ h => h) (Or.inl ⟨by rfl, ?_⟩) hHeld ?_
        rotate_left
        · intro w hSw
          try dsimp only at hSw
          go_simp
          try with_reducible rfl
        show wpAnyH _ _ _ _ _ _ _ (Act.put _ (some 24) _) _
        try simp only [Act.put, List.setIfInBounds_toArray, List.set_cons_zero, List.set_cons_succ]
        refine wpAnyH_take (i := 2) (v := ?_) rfl (by kernel_rfl) (by kernel_rfl) (by kernel_rfl) (fun _ _ _ h => h) (Or.inl ⟨by rfl, ?_⟩) hHeld ?_
        rotate_left
        · intro w hSw
          try dsimp only at hSw
          go_simp
          try with_reducible rfl
        show wpAnyH _ _ _ _ _ _ _ (Act.put _ (some 25) _) _
        try simp only [Act.put, List.setIfInBounds_toArray, List.set_cons_zero, List.set_cons_succ]
        refine wpAnyH_take (i := 3) (v := ?_) rfl (by kernel_rfl) (by kernel_rfl) (by kernel_rfl) (fun _ _ _ h => h) (Or.inl ⟨by rfl, ?_⟩) hHeld ?_
        rotate_left
        · intro w hSw
          try dsimp only at hSw
          go_simp
          try with_reducible rfl
        show wpAnyH _ _ _ _ _ _ _ (Act.put _ (some 26) _) _
        try simp only [Act.put, List.setIfInBounds_toArray, List.set_cons_zero, List.set_cons_succ]
        refine wpAnyH_take (i := 4) (v := ?_) rfl (by kernel_rfl) (by kernel_rfl) (by kernel_rfl) (fun _ _ _ h => h) (Or.inl ⟨by rfl, ?_⟩) hHeld ?_
        rotate_left
        · intro w hSw
          try dsimp only at hSw
          go_simp
          try with_reducible rfl
        show wpAnyH _ _ _ _ _ _ _ (Act.put _ (some 27) _) _
        try simp only [Act.put, List.setIfInBounds_toArray, List.set_cons_zero, List.set_cons_succ]
        refine wpAnyH_take (i := 5) (v := ?_) rfl (by kernel_rfl) (by kernel_rfl) (by kernel_rfl) (fun _ _ _ h => h) (Or.inl ⟨by rfl, ?_⟩) hHeld ?_
        rotate_left
        · intro w hSw
          try dsimp only at hSw
          go_simp
          try with_reducible rfl
        show wpAnyH _ _ _ _ _ _ _ (Act.put _ (some 28) _) _
        try simp only [Act.put, List.setIfInBounds_toArray, List.set_cons_zero, List.set_cons_succ]
        refine wpAnyH_take (i := 6) (v := ?_) rfl (by kernel_rfl) (by kernel_rfl) (by kernel_rfl) (fun _ _ _ h => h) (Or.inl ⟨by rfl, ?_⟩) hHeld ?_
        rotate_left
        · intro w hSw
          try dsimp only at hSw
          go_simp
          try with_reducible rfl
        show wpAnyH _ _ _ _ _ _ _ (Act.put _ (some 29) _) _
        try simp only [Act.put, List.setIfInBounds_toArray, List.set_cons_zero, List.set_cons_succ]
        refine wpAnyH_take (i := 7) (v := ?_) rfl (by kernel_rfl) (by kernel_rfl) (by kernel_rfl) (fun _ _ _ h => h) (Or.inl ⟨by rfl, ?_⟩) hHeld ?_
        rotate_left
        · intro w hSw
          try dsimp only at hSw
          go_simp
          try with_reducible rfl
        show wpAnyH _ _ _ _ _ _ _ (Act.put _ (some 30) _) _
        try simp only [Act.put, List.setIfInBounds_toArray, List.set_cons_zero, List.set_cons_succ]
        refine wpAnyH_take (i := 8) (v := ?_) rfl (by kernel_rfl) (by kernel_rfl) (by kernel_rfl) (fun _ _ _ h => h) (Or.inl ⟨by rfl, ?_⟩) hHeld ?_
        rotate_left
        · intro w hSw
          try dsimp only at hSw
          go_simp
          try with_reducible rfl
        show wpAnyH _ _ _ _ _ _ _ (Act.put _ (some 31) _) _
        try simp only [Act.put, List.setIfInBounds_toArray, List.set_cons_zero, List.set_cons_succ]
        refine wpAnyH_take (i := 9) (v := ?_) rfl (by kernel_rfl) (by kernel_rfl) (by kernel_rfl) (fun _ _ _ h => h) (Or.inl ⟨by rfl, ?_⟩) hHeld ?_
        rotate_left
        · intro w hSw
          try dsimp only at hSw
          go_simp
          try with_reducible rfl
        show wpAnyH _ _ _ _ _ _ _ (Act.put _ (some 32) _) _
        try simp only [Act.put, List.setIfInBounds_toArray, List.set_cons_zero, List.set_cons_succ]
        refine wpAnyH_take (i := 10) (v := ?_) rfl (by kernel_rfl) (by kernel_rfl) (by kernel_rfl) (fun _ _ _ h => h) (Or.inl ⟨by rfl, ?_⟩) hHeld ?_
        rotate_left
        · intro w hSw
          try dsimp only at hSw
          go_simp
          try with_reducible rfl
        show wpAnyH _ _ _ _ _ _ _ (Act.put _ (some 33) _) _
        try simp only [Act.put, List.setIfInBounds_toArray, List.set_cons_zero, List.set_cons_succ]
        refine wpAnyH_take (i := 11) (v := ?_) rfl (by kernel_rfl) (by kernel_rfl) (by kernel_rfl) (fun _ _ _ h => h) (Or.inl ⟨by rfl, ?_⟩) hHeld ?_
        rotate_left
        · intro w hSw
          try dsimp only at hSw
          go_simp
          try with_reducible rfl
        show wpAnyH _ _ _ _ _ _ _ (Act.put _ (some 34) _) _
        try simp only [Act.put, List.setIfInBounds_toArray, List.set_cons_zero, List.set_cons_succ]
        refine wpAnyH_take (i := 12) (v := ?_) rfl (by kernel_rfl) (by kernel_rfl) (by kernel_rfl) (fun _ _ _ h => h) (Or.inl ⟨by rfl, ?_⟩) hHeld ?_
        rotate_left
        · intro w hSw
          try dsimp only at hSw
          go_simp
          try with_reducible rfl
        show wpAnyH _ _ _ _ _ _ _ (Act.put _ (some 35) _) _
        try simp only [Act.put, List.setIfInBounds_toArray, List.set_cons_zero, List.set_cons_succ]
        refine wpAnyH_take (i := 13) (v := ?_) rfl (by kernel_rfl) (by kernel_rfl) (by kernel_rfl) (fun _ _ _ h => h) (Or.inl ⟨by rfl, ?_⟩) hHeld ?_
        rotate_left
        · intro w hSw
          try dsimp only at hSw
          go_simp
          try with_reducible rfl
        show wpAnyH _ _ _ _ _ _ _ (Act.put _ (some 36) _) _
        try simp only [Act.put, List.setIfInBounds_toArray, List.set_cons_zero, List.set_cons_succ]
        refine wpAnyH_take (i := 14) (v := ?_) rfl (by kernel_rfl) (by kernel_rfl) (by kernel_rfl) (fun _ _ _ h => h) (Or.inl ⟨by rfl, ?_⟩) hHeld ?_
        rotate_left
        · intro w hSw
          try dsimp only at hSw
          go_simp
          try with_reducible rfl
        show wpAnyH _ _ _ _ _ _ _ (Act.put _ (some 37) _) _
        try simp only [Act.put, List.setIfInBounds_toArray, List.set_cons_zero, List.set_cons_succ]
        refine wpAnyH_take (i := 15) (v := ?_) rfl (by kernel_rfl) (by kernel_rfl) (by kernel_rfl) (fun _ _ _ h => h) (Or.inl ⟨by rfl, ?_⟩) hHeld ?_
        rotate_left
        · intro w hSw
          try dsimp only at hSw
          go_simp
          try with_reducible rfl
        show wpAnyH _ _ _ _ _ _ _ (Act.put _ (some 38) _) _
        try simp only [Act.put, List.setIfInBounds_toArray, List.set_cons_zero, List.set_cons_succ]
        refine wpAnyH_take (i := 16) (v := ?_) rfl (by kernel_rfl) (by kernel_rfl) (by kernel_rfl) (fun _ _ _ h => h) (Or.inl ⟨by rfl, ?_⟩) hHeld ?_
        rotate_left
        · intro w hSw
          try dsimp only at hSw
          go_simp
          try with_reducible rfl
        show wpAnyH _ _ _ _ _ _ _ (Act.put _ (some 39) _) _
        try simp only [Act.put, List.setIfInBounds_toArray, List.set_cons_zero, List.set_cons_succ]
        refine wpAnyH_take (i := 17) (v := ?_) rfl (by kernel_rfl) (by kernel_rfl) (by kernel_rfl) (fun _ _ _ h => h) (Or.inl ⟨by rfl, ?_⟩) hHeld ?_
        rotate_left
        · intro w hSw
          try dsimp only at hSw
          go_simp
          try with_reducible rfl
        show wpAnyH _ _ _ _ _ _ _ (Act.put _ (some 40) _) _
        try simp only [Act.put, List.setIfInBounds_toArray, List.set_cons_zero, List.set_cons_succ]
        refine wpAnyH_take (i := 18) (v := ?_) rfl (by kernel_rfl) (by kernel_rfl) (by kernel_rfl) (fun _ _ _ h => h) (Or.inl ⟨by rfl, ?_⟩) hHeld ?_
        rotate_left
        · intro w hSw
          try dsimp only at hSw
          go_simp
          try with_reducible rfl
        show wpAnyH _ _ _ _ _ _ _ (Act.put _ (some 41) _) _
        try simp only [Act.put, List.setIfInBounds_toArray, List.set_cons_zero, List.set_cons_succ]
        refine wpAnyH_take (i := 19) (v := ?_) rfl (by kernel_rfl) (by kernel_rfl) (by kernel_rfl) (fun _ _ _ h => h) (Or.inl ⟨by rfl, ?_⟩) hHeld ?_
        rotate_left
        · intro w hSw
          try dsimp only at hSw
          go_simp
          try with_reducible rfl
        show wpAnyH _ _ _ _ _ _ _ (Act.put _ (some 42) _) _
        try simp only [Act.put, List.setIfInBounds_toArray, List.set_cons_zero, List.set_cons_succ]
        refine wpAnyH_take (i := 20) (v := ?_) rfl (by kernel_rfl) (by kernel_rfl) (by kernel_rfl) (fun _ _ _ h => h) (Or.inl ⟨by rfl, ?_⟩) hHeld ?_
        rotate_left
        · intro w hSw
          try dsimp only at hSw
          go_simp
          try with_reducible rfl
        show wpAnyH _ _ _ _ _ _ _ (Act.put _ (some 43) _) _
        try simp only [Act.put, List.setIfInBounds_toArray, List.set_cons_zero, List.set_cons_succ]
        refine wpAnyH_take (i := 21) (v := ?_) rfl (by kernel_rfl) (by kernel_rfl) (by kernel_rfl) (fun _ _ _ h => h) (Or.inl ⟨by rfl, ?_⟩) hHeld ?_
        rotate_left
        · intro w hSw
          try dsimp only at hSw
          go_simp
          try with_reducible rfl
        show wpAnyH _ _ _ _ _ _ _ (Act.put _ (some 44) _) _
        try simp only [Act.put, List.setIfInBounds_toArray, List.set_cons_zero, List.set_cons_succ]
        refine wpAnyH_done (by kernel_rfl) ?_ _
        clear hHeld
        go_upto_region 8 with fail
        refine wp_region_held_drew (S := (fun w' => w'.cell? ⟨c, 0, none⟩ = some (.int .i64 (f : Int)) ∧ w'.cell? ⟨c, 1, none⟩ = some (.int .i64 (t : Int)) ∧ w'.cell? ⟨c, 2, none⟩ = some (.int .i64 l) ∧ w'.cell? (xa.add f) = some (.int .i64 y))) (by kernel_rfl) (by exact ⟨(unhide CK _ (by repeat (first | apply Keep.drew | exact Keep.refl _))).1, (unhide CK _ (by repeat (first | apply Keep.drew | exact Keep.refl _))).2.1, (unhide CK _ (by repeat (first | apply Keep.drew | exact Keep.refl _))).2.2.1, (unhide CK _ (by repeat (first | apply Keep.drew | exact Keep.refl _))).2.2.2.1⟩) (fun hHeld => ?_)
        refine wpAnyH_take (i := 0) (v := ?_) rfl (by kernel_rfl) (by kernel_rfl) (by kernel_rfl) (fun _ _ _ h => h) (Or.inl ⟨by rfl, ?_⟩) hHeld ?_
        rotate_left
        · intro w hSw
          try dsimp only at hSw
          go_simp
          try with_reducible rfl
        show wpAnyH _ _ _ _ _ _ _ (Act.put _ (some 45) _) _
        try simp only [Act.put, List.setIfInBounds_toArray, List.set_cons_zero, List.set_cons_succ]
        refine wpAnyH_take (i := 1) (v := ?_) rfl (by kernel_rfl) (by kernel_rfl) (by kernel_rfl) (fun _ _ _ h => h) (Or.inl ⟨by rfl, ?_⟩) hHeld ?_
        rotate_left
        · intro w hSw
          try dsimp only at hSw
          go_simp
          try with_reducible rfl
        show wpAnyH _ _ _ _ _ _ _ (Act.put _ (some 46) _) _
        try simp only [Act.put, List.setIfInBounds_toArray, List.set_cons_zero, List.set_cons_succ]
        refine wpAnyH_take (i := 2) (v := ?_) rfl (by kernel_rfl) (by kernel_rfl) (by kernel_rfl) (fun _ _ _ h => h) (Or.inl ⟨by rfl, ?_⟩) hHeld ?_
        rotate_left
        · intro w hSw
          try dsimp only at hSw
          go_simp
          try with_reducible rfl
        show wpAnyH _ _ _ _ _ _ _ (Act.put _ (some 47) _) _
        try simp only [Act.put, List.setIfInBounds_toArray, List.set_cons_zero, List.set_cons_succ]
        refine wpAnyH_take (i := 3) (v := ?_) rfl (by kernel_rfl) (by kernel_rfl) (by kernel_rfl) (fun _ _ _ h => h) (Or.inl ⟨by rfl, ?_⟩) hHeld ?_
        rotate_left
        · intro w hSw
          try dsimp only at hSw
          go_simp
          try with_reducible rfl
        show wpAnyH _ _ _ _ _ _ _ (Act.put _ (some 48) _) _
        try simp only [Act.put, List.setIfInBounds_toArray, List.set_cons_zero, List.set_cons_succ]
        refine wpAnyH_take (i := 4) (v := ?_) rfl (by kernel_rfl) (by kernel_rfl) (by kernel_rfl) (fun _ _ _ h => h) (Or.inl ⟨by rfl, ?_⟩) hHeld ?_
        rotate_left
        · intro w hSw
          try dsimp only at hSw
          go_simp
          try with_reducible rfl
        show wpAnyH _ _ _ _ _ _ _ (Act.put _ (some 49) _) _
        try simp only [Act.put, List.setIfInBounds_toArray, List.set_cons_zero, List.set_cons_succ]
        refine wpAnyH_take (i := 5) (v := ?_) rfl (by kernel_rfl) (by kernel_rfl) (by kernel_rfl) (fun _ _ _ h => h) (Or.inl ⟨by rfl, ?_⟩) hHeld ?_
        rotate_left
        · intro w hSw
          try dsimp only at hSw
          go_simp
          try with_reducible rfl
        show wpAnyH _ _ _ _ _ _ _ (Act.put _ (some 50) _) _
        try simp only [Act.put, List.setIfInBounds_toArray, List.set_cons_zero, List.set_cons_succ]
        refine wpAnyH_take (i := 6) (v := ?_) rfl (by kernel_rfl) (by kernel_rfl) (by kernel_rfl) (fun _ _ _ h => h) (Or.inl ⟨by rfl, ?_⟩) hHeld ?_
        rotate_left
        · intro w hSw
          try dsimp only at hSw
          go_simp
          try with_reducible rfl
        show wpAnyH _ _ _ _ _ _ _ (Act.put _ (some 51) _) _
        try simp only [Act.put, List.setIfInBounds_toArray, List.set_cons_zero, List.set_cons_succ]
        refine wpAnyH_take (i := 7) (v := ?_) rfl (by kernel_rfl) (by kernel_rfl) (by kernel_rfl) (fun _ _ _ h => h) (Or.inl ⟨by rfl, ?_⟩) hHeld ?_
        rotate_left
        · intro w hSw
          try dsimp only at hSw
          go_simp
          try with_reducible rfl
        show wpAnyH _ _ _ _ _ _ _ (Act.put _ (some 52) _) _
        try simp only [Act.put, List.setIfInBounds_toArray, List.set_cons_zero, List.set_cons_succ]
        refine wpAnyH_take (i := 8) (v := ?_) rfl (by kernel_rfl) (by kernel_rfl) (by kernel_rfl) (fun _ _ _ h => h) (Or.inl ⟨by rfl, ?_⟩) hHeld ?_
        rotate_left
        · intro w hSw
          try dsimp only at hSw
          go_simp
          try with_reducible rfl
        show wpAnyH _ _ _ _ _ _ _ (Act.put _ (some 53) _) _
        try simp only [Act.put, List.setIfInBounds_toArray, List.set_cons_zero, List.set_cons_succ]
        refine wpAnyH_take (i := 9) (v := ?_) rfl (by kernel_rfl) (by kernel_rfl) (by kernel_rfl) (fun _ _ _ h => h) (Or.inl ⟨by rfl, ?_⟩) hHeld ?_
        rotate_left
        · intro w hSw
          try dsimp only at hSw
          go_simp
          try with_reducible rfl
        show wpAnyH _ _ _ _ _ _ _ (Act.put _ (some 54) _) _
        try simp only [Act.put, List.setIfInBounds_toArray, List.set_cons_zero, List.set_cons_succ]
        refine wpAnyH_take (i := 10) (v := ?_) rfl (by kernel_rfl) (by kernel_rfl) (by kernel_rfl) (fun _ _ _ h => h) (Or.inl ⟨by rfl, ?_⟩) hHeld ?_
        rotate_left
        · intro w hSw
          try dsimp only at hSw
          go_simp
          try with_reducible rfl
        show wpAnyH _ _ _ _ _ _ _ (Act.put _ (some 55) _) _
        try simp only [Act.put, List.setIfInBounds_toArray, List.set_cons_zero, List.set_cons_succ]
        refine wpAnyH_take (i := 11) (v := ?_) rfl (by kernel_rfl) (by kernel_rfl) (by kernel_rfl) (fun _ _ _ h => h) (Or.inl ⟨by rfl, ?_⟩) hHeld ?_
        rotate_left
        · intro w hSw
          try dsimp only at hSw
          go_simp
          try with_reducible rfl
        show wpAnyH _ _ _ _ _ _ _ (Act.put _ (some 56) _) _
        try simp only [Act.put, List.setIfInBounds_toArray, List.set_cons_zero, List.set_cons_succ]
        refine wpAnyH_ready (rs := [12]) (by kernel_rfl) (by simp) ?_
        refine AllReadyH.cons rfl (fun K hK => ?_) AllReadyH.nil
        go_simp
        clear hHeld
        refine hK.out _ _ ?_ (fun hHeld => ?_)
        · exact ⟨(unhide E2).1, (unhide E2).2.1, (unhide E2).2.2, kc (unhide K2).drew.drew (unhide Y0)⟩
        clear hK K
        try simp only [Act.put, List.setIfInBounds_toArray, List.set_cons_zero, List.set_cons_succ]
        refine wpAnyH_done (by kernel_rfl) ?_ _
        clear hHeld
        go_wp2_with fail
        go_roundw
        case rel => exact ⟨k + 1, by go_num, by omega, by rw [unhide HBn], hide (by have := unhide K2; repeat (first | exact this | apply Keep.drew)), hide (by rw [unhide HXn]; exact own_k (unhide ST) (by repeat (first | apply Keep.drew | exact Keep.refl _)))⟩
        case measure => simp [intOf]; omega
    · have li : ¬ (k : Int) < (m : Int) := by omega
      obtain rfl : k = m := by omega
      have HI := hide (iw_own (unhide OW) (unhide HOn k).symm)
      go_wp2_with fail
      try go_ret2
      exact (unhide HP) _ _ _ (unhide KW) (unhide HI) rfl
theorem it_bd {n : Nat} {E : List Ed} (hg : Gr n E) (h6 : ∀ e ∈ E, e.2.2 ≤ 6000) : ∀ k p, g (it (jac E) (d0 n) k) p ≤ 6000 * (k : Int)
  | 0, p => by simp only [it, d0_g hg.1]; split <;> omega
  | k + 1, p => by
    have hn := it_nn hg.1 (jac_rd hg) k
    have h1 := jl_le (it (jac E) (d0 n) k) (B := 6000 * (k : Int)) (M := 6000) E _ (fun e he => ⟨by rw [hn.1]; exact (hg.2 e he).2.1, h6 e he⟩) (it_bd hg h6 k) (fun p => by have := it_bd hg h6 k p; omega) p
    simp only [it, jac] at *
    omega
/-- what the rounds have come to so far -/
structure Fw9 (n : Nat) (E : List Ed) (k : Nat) (d : List Int) (b : Bool) : Prop where
  nn : Nn n d
  bd : ∀ p, g d p ≤ 6000 * (k : Int)
  r : (b = true ∧ runR (jac E) (n + 1) (d0 n) = runR (jac E) (n + 1 - k) d) ∨ (b = false ∧ runR (jac E) (n + 1) (d0 n) = (d, false))
theorem fw9_zero {n : Nat} {E : List Ed} (hg : Gr n E) : Fw9 n E 0 (d0 n) true := ⟨d0_nn hg.1, fun p => by rw [d0_g hg.1]; split <;> omega, .inl ⟨rfl, rfl⟩⟩
theorem fw9_next {n : Nat} {E : List Ed} (hg : Gr n E) (h6 : ∀ e ∈ E, e.2.2 ≤ 6000) {k : Nat} {d : List Int} (hk : k ≤ n) (h : Fw9 n E k d true) : Fw9 n E (k + 1) (jac E d) (jb d E d) := by
  have hnn := (jac_rd hg).inv d h.nn
  refine ⟨hnn, fun p => ?_, ?_⟩
  · have h1 := jl_le d (B := 6000 * (k : Int)) (M := 6000) E d (fun e he => ⟨by rw [h.nn.1]; exact (hg.2 e he).2.1, h6 e he⟩) h.bd (fun p => by have := h.bd p; omega) p
    simp only [jac] at *
    omega
  · rcases h.r with ⟨_, h1⟩ | ⟨h1, _⟩
    · generalize runR (jac E) (n + 1) (d0 n) = r0 at h1 ⊢
      rw [show n + 1 - k = (n + 1 - (k + 1)) + 1 by omega, runR] at h1
      cases hb : jb d E d with
      | false =>
        have := (jac_stop hg h.nn).1 hb
        rw [if_pos this] at h1
        exact .inr ⟨rfl, by rw [this]; exact h1⟩
      | true =>
        have : ¬ jac E d = d := fun e => by rw [(jac_stop hg h.nn).2 e] at hb; exact absurd hb (by simp)
        rw [if_neg this] at h1
        exact .inl ⟨rfl, h1⟩
    · exact absurd h1 (by simp)
theorem fw9_end {n : Nat} {E : List Ed} (hg : Gr n E) {d : List Int} (h : Fw9 n E (n + 1) d true) : lgd n E = ([], 140) := by
  rcases h.r with ⟨_, h1⟩ | ⟨h1, _⟩
  · rw [Nat.sub_self, runR] at h1
    rcases jac_good hg (Nat.le_succ n) with ⟨h2, _⟩ | ⟨_, h2⟩
    · rw [h1] at h2; exact absurd h2 (by simp)
    · exact h2
  · exact absurd h1 (by simp)
theorem fw9_good {n : Nat} {E : List Ed} (hg : Gr n E) {k : Nat} {d : List Int} (h : Fw9 n E k d false) : lgd n E = (d, 0) := by
  rcases h.r with ⟨h1, _⟩ | ⟨_, h1⟩
  · exact absurd h1 (by simp)
  · rcases jac_good hg (Nat.le_succ n) with ⟨_, h2⟩ | ⟨h2, _⟩
    · rw [h1] at h2; exact h2
    · rw [h1] at h2; exact absurd h2 (by simp)
/-- the first numbers, as far as they are laid -/
def dl (k n : Nat) : List Int := 0 :: (List.replicate (k - 1) (-1) ++ List.replicate (n - k) 0)
theorem dl_one {n : Nat} (h : 0 < n) : List.replicate n (0 : Int) = dl 1 n := by
  obtain ⟨m, rfl⟩ : ∃ m, n = m + 1 := ⟨n - 1, by omega⟩
  simp [dl, List.replicate_succ]
theorem dl_set {k n : Nat} (h1 : 1 ≤ k) (hk : k < n) : (dl k n).set k (-1) = dl (k + 1) n := by
  obtain ⟨j, rfl⟩ : ∃ j, k = j + 1 := ⟨k - 1, by omega⟩
  simp only [dl, List.set_cons_succ, Nat.add_sub_cancel]
  rw [List.set_append_right _ _ (by simp), List.length_replicate, Nat.sub_self, show n - (j + 1) = (n - (j + 1 + 1)) + 1 by omega, List.replicate_succ, List.set_cons_zero, List.replicate_succ', List.append_assoc]
  rfl
theorem dl_len {k n : Nat} (h1 : 1 ≤ k) (hk : k ≤ n) : (dl k n).length = n := by simp [dl]; omega
theorem dl_end {n : Nat} (h : 0 < n) : dl n n = d0 n := by
  rw [← d0_is h]
  obtain ⟨m, rfl⟩ : ∃ m, n = m + 1 := ⟨n - 1, by omega⟩
  simp [dl, List.replicate_succ]
set_option maxHeartbeats 4000000 in
theorem rlongest_any (v : Value) (R : List E3) (n : Int) (w : World) (hR : Es w v R) (hl : R.length ≤ 1000) : Calls Tryd.prog 9 #[.int .i64 n, v] w (Lq n R w) := by
  have T1 := hide (right_any v R n w hR hl)
  cases hG : isG n R with
  | false =>
    have HP : Hid (∀ e w', Keep w w' → e = .returned (.tuple #[.slice none 0 0, .int .i64 1]) → Lq n R w e w') := hide (fun e w' hk he => ⟨_, by rw [lg_no hG]; exact he, hk, by rw [lg_no hG]; exact iw_nil _⟩)
    rw [hG] at T1
    generalize Lq n R w = QQ at HP ⊢
    obtain ⟨a, cap, rfl, -⟩ := hR
    generalize R.length = m at *
    clear hG
    go_enter Tryd.func9, Tryd.ntmps9
    go_wp2_with fail
    (refine (unhide T1).mono ?_; rintro e w1 ⟨rfl, rfl⟩; clear T1)
    go_wp2_with fail
    try go_ret2
    exact (unhide HP) _ _ (Keep.refl _) rfl
  | true =>
    obtain ⟨m, rfl, hm1, hm2, hg, h6, -⟩ := isG_gr hG
    have HPo : Hid (∀ k d e w' u, Fw9 m (nE R) k d false → Keep w w' → Iw 2 w' u d → e = .returned (.tuple #[u, .int .i64 0]) → Lq (m : Int) R w e w') := hide (fun k d e w' u h0 hk hi he => ⟨u, by rw [lg_yes hG, fw9_good hg h0]; exact he, hk, by rw [lg_yes hG, fw9_good hg h0]; exact hi⟩)
    have HPn : Hid (∀ d e w', Fw9 m (nE R) (m + 1) d true → Keep w w' → e = .returned (.tuple #[.slice none 0 0, .int .i64 140]) → Lq (m : Int) R w e w') := hide (fun d e w' h0 hk he => ⟨_, by rw [lg_yes hG, fw9_end hg h0]; exact he, hk, by rw [lg_yes hG, fw9_end hg h0]; exact iw_nil _⟩)
    have TR := hide (fun (k : Nat) (d : List Int) (vd : Value) (hk : k ≤ m) (w' : World) (hK : Keep w w') (hd : Is w' vd d) (hf : Fw9 m (nE R) k d true) => rround_any v vd R m d w' (hR.keep hK) hl hG hd hf.nn (fun p => by have := hf.bd p; omega))
    have F0 := hide (fw9_zero hg)
    have FN := hide (fun (k : Nat) (d : List Int) (hk : k ≤ m) (h : Fw9 m (nE R) k d true) => fw9_next hg h6 hk h)
    rw [hG] at T1
    generalize Lq (m : Int) R w = QQ at HPo HPn ⊢
    clear hG hg h6
    obtain ⟨a, cap, rfl, -⟩ := hR
    generalize R.length = rl at *
    have hmk := make_any m (by omega)
    have R0 : Hid (Rw 2 (w.alloc (.cells ((List.replicate m (0 : Int)).map (Value.int .i64)).toArray 2)) w.heap.size (dl 1 m)) := hide (by rw [← dl_one (by omega)]; exact made_rw m w)
    have K0 := hide ((Keep.refl w).alloc (.cells ((List.replicate m (0 : Int)).map (Value.int .i64)).toArray 2))
    generalize ((List.replicate m (0 : Int)).map (Value.int .i64)).toArray = ZZ at hmk R0 K0
    go_enter Tryd.func9, Tryd.ntmps9
    go_wp2_with fail
    (refine (unhide T1).mono ?_; rintro e w1 ⟨rfl, rfl⟩; clear T1)
    go_wp2_with fail
    generalize w1.alloc (.cells ZZ 2) = w2 at R0 K0 ⊢
    obtain ⟨q, HQ⟩ : ∃ q, Hid (w1.heap.size = q) := ⟨_, hide rfl⟩
    rw [unhide HQ] at R0 ⊢
    clear hmk
    go_loopw [7] (fun vi wr => ∃ k : Nat, vi = .int .i64 (k : Int) ∧ 1 ≤ k ∧ k ≤ m ∧ Hid (Rw 2 wr q (dl k m)) ∧ Hid (Keep w1 wr)) (fun vi _ => m - (intOf vi).toNat)
    case atStart => exact ⟨1, rfl, Nat.le_refl _, hm1, R0, K0⟩
    case round =>
      clear R0 K0
      obtain ⟨k, rfl, hk1, hk, RW, KW⟩ := hrel
      by_cases hlt : k < m
      · have li : (k : Int) < (m : Int) := by omega
        have hu := (unhide RW).cell (i := k) (by rw [dl_len hk1 hk]; exact hlt)
        have hf := (unhide RW).fz k
        have R2 : Hid (Rw 2 (wr.setCell ⟨q, k, none⟩ (.int .i64 (-1))) q (dl (k + 1) m)) := hide (by rw [← dl_set hk1 hlt]; exact (unhide RW).set _)
        have K2 : Hid (Keep w1 (wr.setCell ⟨q, k, none⟩ (.int .i64 (-1)))) := hide (keep_st (unhide KW) (by rw [unhide HQ]; exact Nat.le_refl _) _)
        go_wp2_with fail
        go_roundw
        case rel => exact ⟨k + 1, by go_num, by omega, hlt, R2, K2⟩
        case measure => simp [intOf]; omega
      · have li : ¬ (k : Int) < (m : Int) := by omega
        obtain rfl : k = m := by omega
        have I0 : Hid (Iw 2 wr (.slice (some ⟨q, 0, none⟩) k k) (d0 k)) := hide (by have := (unhide RW).iw (c := k); rw [dl_end (by omega), show (d0 k).length = k from (unhide F0).nn.1] at this; exact this)
        have KR := KW
        clear RW KW li
        go_wp2_with fail
        go_loopw [6, 8, 9] (fun vd vb vi wq => ∃ j : Nat, ∃ d : List Int, ∃ b : Bool, vi = .int .i64 (j : Int) ∧ vb = .bool b ∧ j ≤ k + 1 ∧ Hid (Iw 2 wq vd d) ∧ Hid (Fw9 k (nE R) j d b) ∧ Hid (Keep w1 wq)) (fun vd vb vi _ => k + 1 - (intOf vi).toNat)
        case atStart => exact ⟨0, d0 k, true, rfl, rfl, Nat.zero_le _, I0, F0, KR⟩
        case round =>
          clear I0 KR
          obtain ⟨j, d, b, rfl, rfl, hj, IW, FW, KW⟩ := hrel
          cases b with
          | false =>
            by_cases hjk : j ≤ k
            · have li : (j : Int) ≤ (k : Int) := by omega
              go_wp2_with fail
              try go_ret2
              exact (unhide HPo) j d _ _ _ (unhide FW) (unhide KW) (unhide IW) rfl
            · have li : ¬ (j : Int) ≤ (k : Int) := by omega
              go_wp2_with fail
              try go_ret2
              exact (unhide HPo) j d _ _ _ (unhide FW) (unhide KW) (unhide IW) rfl
          | true =>
            by_cases hjk : j ≤ k
            · have li : (j : Int) ≤ (k : Int) := by omega
              have TRj := hide ((unhide TR) j d _ hjk _ (unhide KW) (unhide IW).is (unhide FW))
              have FN2 := hide ((unhide FN) j d hjk (unhide FW))
              clear IW FW
              go_wp2_with fail
              (refine (unhide TRj).mono ?_; rintro e w8 ⟨u8, rfl, hk8, hi8⟩; have K8 := hide ((unhide KW).trans hk8); have I8 := hide hi8; clear hk8 hi8 TRj)
              go_wp2_with fail
              go_roundw
              case rel => exact ⟨j + 1, _, _, by go_num, rfl, by omega, I8, FN2, K8⟩
              case measure => simp [intOf]; omega
            · have li : ¬ (j : Int) ≤ (k : Int) := by omega
              obtain rfl : j = k + 1 := by omega
              go_wp2_with fail
              try go_ret2
              exact (unhide HPn) d _ _ (unhide FW) (unhide KW) rfl
end Pa
end Go.Proofs.YtfofkkjldngkaaaDoor
