/- Proved: of at most 200 tokens of at most 200 bytes each, the tokens of what the right ones are spelt as are the same tokens, their places aside (more, or longer ones, are let by). -/
import Derived.Test.YtpmfgnolojmimaaRows
import Derived.Test.YtpmfgnolojmimaaLAwk
import Derived.Test.YtpmfgnolojmimaaLBackF
import Derived.Test.YtpmfgnolojmimaaLOpn
import Derived.Deep.RegionHeld
namespace Go.Proofs.Ytpmfgnolojmimaa
theorem ts_take {w : World} {a : Option Addr} {n cap : Nat} {L : List Tok} (h : Ts w (.slice a n cap) L) {q : Nat} (hq : q ≤ L.length) : Ts w (.slice a q cap) (L.take q) := by
  obtain ⟨a', cap', e, hc, h⟩ := h
  injection e with e1 e2 e3
  subst e1 e3
  have hl : (L.take q).length = q := by rw [List.length_take]; omega
  refine ⟨_, _, by rw [hl], by omega, fun k hk => ?_⟩
  rw [hl] at hk
  obtain ⟨ad, e, hb, hc⟩ := h k (by omega)
  refine ⟨ad, e, hb, ?_⟩
  rw [show (L.take q).getD k t0 = L.getD k t0 by rw [List.getD_eq_getElem?_getD, List.getD_eq_getElem?_getD, List.getElem?_take_of_lt hk]]
  exact hc
theorem own_slice {w : World} {base : Nat} {e : TypeId} {z n : Nat} {v : Value} {xs : List Value} (h : w.ownsRow base e z v n xs) : ∃ a cap, v = .slice a n cap := by
  rcases h.2 with ⟨h, h0⟩ | ⟨g, cap, _, h, _⟩
  · exact ⟨none, 0, by rw [h, h0]⟩
  · exact ⟨_, cap, h⟩
end Go.Proofs.Ytpmfgnolojmimaa
namespace Go.Proofs.Ytpmfgnolojmimaa.back
open Go.ChangeShapes Go.WideShapes Go.ChangeAt Go.RowKit Go.Joins
attribute [local go_sem ↓] Go.wp_at_zero Go.wp_at_succ
set_option linter.unusedVariables false
set_option linter.unusedSimpArgs false
set_option maxRecDepth 10000
set_option maxHeartbeats 2000000 in
theorem walk0 (a : Option Addr) (n cap : Nat) (w : World) (T0 : Hid (Calls Try.prog 17 #[.slice a n cap] w fun e w' => e = .returned (.bool false) ∧ w' = w)) :
    Calls Try.prog 5 #[.slice a n cap] w fun e w' => e = .returned (.bool true) ∧ Keep w w' := by
  go_enter Try.func5, Try.ntmps5
  go_wp2_with fail
  (refine (unhide T0).mono ?_; rintro e w ⟨rfl, rfl⟩)
  go_wp2_with fail
  go_ret
  exact ⟨rfl, Keep.refl _⟩
set_option maxHeartbeats 4000000 in
theorem walk1 (a : Option Addr) (cap : Nat) (L : List Tok) (SP : ByteArray) (M : List Tok) (w : World) (hn : L.length ≤ 200)
    (hcell : ∀ k, k < L.length → ∃ ad, a = some ad ∧ ad.block < w.heap.size ∧ Tc w (ad.add (k * 4)) (L.getD k t0))
    (T0 : Hid (Calls Try.prog 17 #[.slice a L.length cap] w fun e w' => e = .returned (.bool true) ∧ w' = w))
    (T1 : Hid (∀ k, k < L.length → ∀ w', Calls Try.prog 13 #[tv (L.getD k t0)] w' fun e w'' => e = .returned (.bool (rg (L.getD k t0))) ∧ Keep w' w''))
    (T2 : Hid (∀ k, k < L.length → ∀ w', Calls Try.prog 14 #[tv (L.getD k t0)] w' fun e w'' => e = .returned (.bool (rg (L.getD k t0))) ∧ Keep w' w''))
    (T3 : Hid (∀ w' v, Ts w' v (gd L) → Calls Try.prog 18 #[v] w' fun e w'' => e = .returned (.string SP) ∧ Keep w' w''))
    (T4 : Hid (∀ w' v, Ts w' v (gd L) → Calls Try.prog 19 #[v] w' fun e w'' => e = .returned (.string SP) ∧ w'' = w'))
    (T5 : Hid (∀ w' v, By w' v SP.data.toList → Calls Try.prog 9 #[v] w' fun e w'' => ∃ ad cp, e = .returned (.tuple #[.slice ad ((gd L).length + 1) cp, .int .i64 0, .int .i64 0]) ∧ (gd L).length + 1 ≤ cp ∧ Ts w'' (.slice ad ((gd L).length + 1) cp) M ∧ Keep w' w''))
    (T6 : Hid (∀ w' ad cp v, Ts w' (.slice ad ((gd L).length + 1) cp) M → Ts w' v (gd L) → Calls Try.prog 11 #[.slice ad (gd L).length cp, v, .bool false] w' fun e w'' => e = .returned (.bool true) ∧ Keep w' w''))
    (T8 : Hid (∀ w', Calls Try.prog 12 #[] w' fun e w'' => e = .returned (.bool true) ∧ Keep w' w'')) :
    Calls Try.prog 5 #[.slice a L.length cap] w fun e w' => e = .returned (.bool true) ∧ Keep w w' := by
  obtain ⟨i0, hi, hz0, hz1, hz2⟩ := info_parts infoT
  have HC := hide hcell
  clear hcell
  go_enter Try.func5, Try.ntmps5
  go_wp2_with fail
  (refine (unhide T0).mono ?_; rintro e w ⟨rfl, rfl⟩)
  go_wp2_with fail
  go_loopw [3, 4] (fun vg vi wr => ∃ k : Nat, k ≤ L.length ∧ vi = .int .i64 (k : Int) ∧ Hid (wr.ownsRow w.heap.size 31 4 vg (gd (L.take k)).length (tc (gd (L.take k)))) ∧ Hid (Keep w wr)) (fun vg vi _ => L.length - (intOf vi).toNat)
  case atStart => exact ⟨0, Nat.zero_le _, rfl, hide (World.ownsRow_nil _ _ _ _), hide (Keep.refl w)⟩
  case round =>
    obtain ⟨k, hk, rfl, HROW, HK⟩ := hrel
    by_cases hlt : k < L.length
    · have li : (k : Int) < (L.length : Int) := by omega
      obtain ⟨ad, rfl, hb, hc⟩ := (unhide HC) k hlt
      have T1k := hide ((unhide T1) k hlt)
      have T2k := hide ((unhide T2) k hlt)
      have HG := hide (gd_snoc hlt)
      have hgl := gd_le (L.take k)
      rw [List.length_take] at hgl
      have CB : Hid (∀ W, Keep wr W → Tc W (ad.add (k * 4)) (L.getD k t0)) := fun W h => (hc.keep (by rw [add_block]; exact hb) (unhide HK)).keep (by rw [add_block]; exact Nat.lt_of_lt_of_le hb (Below.size (unhide HK))) h
      clear hc
      generalize L.getD k t0 = t at *
      obtain ⟨kk, ss, nn, pp⟩ := t
      unfold Tc at CB
      simp only [tv] at T1k T2k CB
      obtain ⟨b, hbk⟩ : ∃ b, rg ⟨kk, ss, nn, pp⟩ = b := ⟨_, rfl⟩
      rw [hbk] at T1k T2k HG
      have HTC : Hid (tc (gd (L.take k) ++ [⟨kk, ss, nn, pp⟩]) = tc (gd (L.take k)) ++ [.int .i64 kk, .string (sv ss), .int .i64 nn, .int .i64 pp]) := tc_append _ _
      have HT0 := hide (rfl : (⟨kk, ss, nn, pp⟩ : Tok) = ⟨kk, ss, nn, pp⟩)
      clear hbk
      generalize sv ss = S at *
      have hl9 : (gd (L.take k)).length ≤ 200 := by omega
      have hsz := Below.size (unhide HK)
      have hbb : (b != b) = false := by simp
      go_wp2_with fail
      refine wp_region_held_drew (S := fun w' => w'.cell? (ad.add (k * 4)) = some (.int .i64 kk) ∧ w'.cell? ⟨(ad.add (k * 4)).block, (ad.add (k * 4)).off + 1, none⟩ = some (.string S) ∧ w'.cell? ⟨(ad.add (k * 4)).block, (ad.add (k * 4)).off + 2, none⟩ = some (.int .i64 nn) ∧ w'.cell? ⟨(ad.add (k * 4)).block, (ad.add (k * 4)).off + 3, none⟩ = some (.int .i64 pp)) (by kernel_rfl) (by exact (unhide CB) _ (Keep.refl wr).drew) (fun hHeld => ?_)
      refine wpAnyH_take (i := 0) (v := ?_) rfl (by kernel_rfl) (by kernel_rfl) (by kernel_rfl) (fun _ _ _ h => h) (Or.inl ⟨by rfl, ?_⟩) hHeld ?_
      rotate_left
      · intro w hSw
        try dsimp only at hSw
        go_simp
        try with_reducible rfl
      show wpAnyH _ _ _ _ _ _ _ (Act.put _ (some 18) _) _
      try simp only [Act.put, List.setIfInBounds_toArray, List.set_cons_zero, List.set_cons_succ]
      refine wpAnyH_take (i := 1) (v := ?_) rfl (by kernel_rfl) (by kernel_rfl) (by kernel_rfl) (fun _ _ _ h => h) (Or.inl ⟨by rfl, ?_⟩) hHeld ?_
      rotate_left
      · intro w hSw
        try dsimp only at hSw
        go_simp
        try with_reducible rfl
      show wpAnyH _ _ _ _ _ _ _ (Act.put _ (some 19) _) _
      try simp only [Act.put, List.setIfInBounds_toArray, List.set_cons_zero, List.set_cons_succ]
      refine wpAnyH_take (i := 2) (v := ?_) rfl (by kernel_rfl) (by kernel_rfl) (by kernel_rfl) (fun _ _ _ h => h) (Or.inl ⟨by rfl, ?_⟩) hHeld ?_
      rotate_left
      · intro w hSw
        try dsimp only at hSw
        go_simp
        try with_reducible rfl
      show wpAnyH _ _ _ _ _ _ _ (Act.put _ (some 20) _) _
      try simp only [Act.put, List.setIfInBounds_toArray, List.set_cons_zero, List.set_cons_succ]
      refine wpAnyH_take (i := 3) (v := ?_) rfl (by kernel_rfl) (by kernel_rfl) (by kernel_rfl) (fun _ _ _ h => h) (Or.inl ⟨by rfl, ?_⟩) hHeld ?_
      rotate_left
      · intro w hSw
        try dsimp only at hSw
        go_simp
        try with_reducible rfl
      show wpAnyH _ _ _ _ _ _ _ (Act.put _ (some 21) _) _
      try simp only [Act.put, List.setIfInBounds_toArray, List.set_cons_zero, List.set_cons_succ]
      refine wpAnyH_take (i := 5) (v := ?_) rfl (by kernel_rfl) (by kernel_rfl) (by kernel_rfl) (fun _ _ _ h => h) (Or.inl ⟨by rfl, ?_⟩) hHeld ?_
      rotate_left
      · intro w hSw
        try dsimp only at hSw
        go_simp
        try with_reducible rfl
      show wpAnyH _ _ _ _ _ _ _ (Act.put _ (some 23) _) _
      try simp only [Act.put, List.setIfInBounds_toArray, List.set_cons_zero, List.set_cons_succ]
      refine wpAnyH_take (i := 6) (v := ?_) rfl (by kernel_rfl) (by kernel_rfl) (by kernel_rfl) (fun _ _ _ h => h) (Or.inl ⟨by rfl, ?_⟩) hHeld ?_
      rotate_left
      · intro w hSw
        try dsimp only at hSw
        go_simp
        try with_reducible rfl
      show wpAnyH _ _ _ _ _ _ _ (Act.put _ (some 24) _) _
      try simp only [Act.put, List.setIfInBounds_toArray, List.set_cons_zero, List.set_cons_succ]
      refine wpAnyH_take (i := 7) (v := ?_) rfl (by kernel_rfl) (by kernel_rfl) (by kernel_rfl) (fun _ _ _ h => h) (Or.inl ⟨by rfl, ?_⟩) hHeld ?_
      rotate_left
      · intro w hSw
        try dsimp only at hSw
        go_simp
        try with_reducible rfl
      show wpAnyH _ _ _ _ _ _ _ (Act.put _ (some 25) _) _
      try simp only [Act.put, List.setIfInBounds_toArray, List.set_cons_zero, List.set_cons_succ]
      refine wpAnyH_take (i := 8) (v := ?_) rfl (by kernel_rfl) (by kernel_rfl) (by kernel_rfl) (fun _ _ _ h => h) (Or.inl ⟨by rfl, ?_⟩) hHeld ?_
      rotate_left
      · intro w hSw
        try dsimp only at hSw
        go_simp
        try with_reducible rfl
      show wpAnyH _ _ _ _ _ _ _ (Act.put _ (some 26) _) _
      try simp only [Act.put, List.setIfInBounds_toArray, List.set_cons_zero, List.set_cons_succ]
      refine wpAnyH_ready (rs := [4]) (by kernel_rfl) (by simp) ?_
      refine AllReadyH.cons rfl (fun K hK => ?_) AllReadyH.nil
      go_simp
      clear hHeld
      (refine ((unhide T1k) _).mono ?_; rintro e w1 ⟨rfl, hk⟩; have k1 := hide ((Keep.refl wr).drew.trans hk); clear hk)
      try go_wp2_with fail
      refine hK.out _ _ ?_ (fun hHeld => ?_)
      · exact (unhide CB) _ (unhide k1)
      clear hK K
      try simp only [Act.put, List.setIfInBounds_toArray, List.set_cons_zero, List.set_cons_succ]
      refine wpAnyH_ready (rs := [9]) (by kernel_rfl) (by simp) ?_
      refine AllReadyH.cons rfl (fun K hK => ?_) AllReadyH.nil
      go_simp
      clear hHeld
      (refine ((unhide T2k) _).mono ?_; rintro e w2 ⟨rfl, hk⟩; have k2 := hide ((unhide k1).trans hk); clear hk)
      try go_wp2_with fail
      refine hK.out _ _ ?_ (fun hHeld => ?_)
      · exact (unhide CB) _ (unhide k2)
      clear hK K
      try simp only [Act.put, List.setIfInBounds_toArray, List.set_cons_zero, List.set_cons_succ]
      refine wpAnyH_take (i := 10) (v := ?_) rfl (by kernel_rfl) (by kernel_rfl) (by kernel_rfl) (fun _ _ _ h => h) (Or.inl ⟨by rfl, ?_⟩) hHeld ?_
      rotate_left
      · intro w hSw
        try dsimp only at hSw
        go_simp
        try with_reducible rfl
      show wpAnyH _ _ _ _ _ _ _ (Act.put _ (some 28) _) _
      try simp only [Act.put, List.setIfInBounds_toArray, List.set_cons_zero, List.set_cons_succ]
      refine wpAnyH_done (by kernel_rfl) ?_ _
      clear hHeld
      obtain ⟨c0, c1, c2, c3⟩ := (unhide CB) _ (unhide k2)
      go_wp2_with fail
      (refine ((unhide T1k) _).mono ?_; rintro e w3 ⟨rfl, hk⟩; have k3 := hide ((unhide k2).trans hk); clear hk c0 c1 c2 c3)
      obtain ⟨c0, c1, c2, c3⟩ := (unhide CB) _ (unhide k3)
      have HR3 := hide (own_keep (unhide HROW) (unhide k3))
      have HK3 := hide ((unhide HK).trans (unhide k3))
      have hsz3 := Below.size (unhide HK3)
      cases b with
      | true =>
        have HG2 : Hid (gd (L.take (k + 1)) = gd (L.take k) ++ [⟨kk, ss, nn, pp⟩]) := by have := unhide HG; rw [if_pos rfl] at this; exact this
        go_wp2_with (at_builtin; refine wpList_append_own _ rfl _ _ 23 rfl w.heap.size 31 i0 _ 4 40 Try.underlying23 hi hz0 hz1 hz2 rfl (by decide) _ _ _ rfl ((unhide HR3).alloc _) ⟨w3.heap.size, 0, none⟩ 1 1 [.int .i64 kk, .string S, .int .i64 nn, .int .i64 pp] rfl rfl (four_new w3 _ _ _ _ _) (by simp [Value.oneCell']) (by unfold maxLen; omega) (by omega) (by rw [World.size_alloc]; omega) ?_; intro v' w4 hown hgrow hnil; have HOWN := hide hown; have HK4 : Hid (Keep w w4) := hide (Below.grown ((unhide HK3).alloc _) hgrow (by rw [World.size_alloc]; omega) (fun j ej => ((unhide HR3).lt j ej).1)); clear hown hgrow hnil)
        go_roundw
        case rel =>
          refine ⟨k + 1, hlt, by go_num, ?_, HK4⟩
          rw [unhide HG2, unhide HTC, List.length_append]
          exact HOWN
        case measure => simp [intOf]; omega
      | false =>
        have HG2 : Hid (gd (L.take (k + 1)) = gd (L.take k)) := by have := unhide HG; rw [if_neg (by decide), List.append_nil] at this; exact this
        go_wp2_with fail
        go_roundw
        case rel => exact ⟨k + 1, hlt, by go_num, by rw [unhide HG2]; exact HR3, HK3⟩
        case measure => simp [intOf]; omega
    · have e : k = L.length := by omega
      subst e
      rw [List.take_length] at HROW
      obtain ⟨av, cv, hv⟩ := own_slice (unhide HROW)
      subst hv
      have HTS := hide (ts_own (unhide HROW))
      have hgl := gd_le L
      go_wp2_with fail
      (refine ((unhide T3) _ _ (unhide HTS)).mono ?_; rintro e w2 ⟨rfl, hk⟩; have k2 := hide ((unhide HK).trans hk); have HT2 := hide ((unhide HTS).keep hk); clear hk)
      obtain ⟨c1, x1, y1, hcv1, hby1⟩ := by_of w2 SP
      replace hcv1 := hcv1 9 22 Try.underlying9 Try.underlying22
      have HBY1 := hide hby1
      have ke1 := hide (keep_ext (Keep.refl w2) #[x1] y1)
      clear hby1
      go_wp2_with fail
      (refine ((unhide T5) _ _ (unhide HBY1)).mono ?_; rintro e w3 ⟨bd, bp, rfl, hbp, hM, hk⟩; have kk := hide ((unhide ke1).trans hk); have k3 := hide ((unhide k2).trans (unhide kk)); have HT3 := hide ((unhide HT2).keep (unhide kk)); have HM := hide hM; clear hk hM kk ke1 hcv1 HBY1)
      go_wp2_with fail
      (refine ((unhide T4) _ _ (unhide HT3)).mono ?_; rintro e w4 ⟨rfl, rfl⟩)
      have g1 : (((gd L).length : Nat) : Int) ≤ (bp : Int) := by omega
      have g2 : (gd L).length ≤ bp := by omega
      go_wp2_with fail
      (refine ((unhide T6) _ _ _ _ (unhide HM) (unhide HT3)).mono ?_; rintro e w5 ⟨rfl, hk⟩; have k5 := hide ((unhide k3).trans hk); clear hk)
      go_wp2_with fail
      (refine ((unhide T8) _).mono ?_; rintro e w6 ⟨rfl, hk⟩; have k6 := hide ((unhide k5).trans hk); clear hk)
      go_wp2_with fail
      go_ret
      exact ⟨rfl, unhide k6⟩
theorem walk (v0 : Value) (L : List Tok) (w : World) (h : Ts w v0 L) : Calls Try.prog 5 #[v0] w fun e w' => e = .returned (.bool true) ∧ Below w.heap.size w w' := by
  obtain ⟨a, cap, rfl, hcap, hcell⟩ := id h
  have F := few_any _ L w h
  by_cases hf : Fw L
  · have hg := T_spelt (G := gd L) gd_right (Nat.le_trans (gd_le L) hf.1)
    obtain ⟨hsl, G', e, hT, hst⟩ := hg
    have hlen : G'.length = (gd L).length := by have := congrArg List.length hst; simpa using this
    have hgl := gd_le L
    have hf1 := hf.1
    have hk : ∀ k, k < L.length → (L.getD k t0).s.length ≤ 70000 := fun k hk => by have := hf.2 k hk; omega
    refine walk1 a cap L (sv (sp (gd L))) (G' ++ [⟨0, [], 0, e⟩]) w hf.1 hcell (hide (F.mono ?_)) (hide fun k hk' w' => right_any _ w' (hk k hk')) (hide fun k hk' w' => rright_any _ w' (hk k hk'))
      (hide fun w' v hv => spell_any v _ w' (by omega) (by omega) hv) (hide fun w' v hv => rspell_core v _ w' (by omega) (by omega) hv) (hide fun w' v hv => ?_) (hide fun w' ad cp v h1 h2 => ?_) (hide awake_any)
    · rintro _ w' ⟨r, hr, rfl, rfl⟩
      rw [hr.2 hf]
      exact ⟨rfl, rfl⟩
    · have X := toks_any v _ w' (show (sp (gd L)).length ≤ 70000 by omega) hv
      rw [hT] at X
      refine X.mono ?_
      rintro _ w'' ⟨u, rfl, h1, _, h3⟩
      obtain ⟨a', cp, rfl, hcp, _⟩ := id h1
      have hll : (tl (.ok (G' ++ [⟨0, [], 0, e⟩]))).length = (gd L).length + 1 := by simp [tl, hlen]
      rw [hll] at h1 hcp ⊢
      exact ⟨a', cp, rfl, hcp, h1, h3⟩
    · have t1 := ts_take h1 (q := (gd L).length) (by simp; omega)
      rw [List.take_append_of_le_length (by omega), List.take_of_length_le (by omega)] at t1
      exact same_some _ _ _ _ w' (by omega) t1 h2 hst
  · refine walk0 a L.length cap w (hide (F.mono ?_))
    rintro _ w' ⟨r, hr, rfl, rfl⟩
    have : r = false := by
      cases r with
      | false => rfl
      | true => exact absurd (hr.1 rfl) hf
    rw [this]
    exact ⟨rfl, rfl⟩
theorem laidOut : laidOutB Try.prog = true := by kernel_rfl
theorem own : ownKnob Try.prog.godebug = none := by kernel_rfl
set_option maxHeartbeats 400000 in
set_option maxRecDepth 100000 in
theorem lifted (os : Os) (started : os.Started) (H : Type) (enc : TypeId × Value → H) :
    ReturnsInHanded {} Try.checked os 5 .any (Rows.lexBackSpec.pre6 enc Try.prog Try.f5 Rows.lexBackRow.domain false) (Rows.lexBackSpec.post enc Try.prog Try.f5 false true false false) := by
  refine returnsInHanded_of_change (C := Try.checked) own started (by kernel_rfl) Try.func5
    (ChangeSpec.witness6 (enc := enc) (C := Try.checked) false ⟨#[], #[.slice none 0 0], []⟩ 8 (by kernel_rfl) (by kernel_rfl) (by kernel_rfl) (by kernel_rfl)) ?_
  intro W base args ds gs before hval0 hW hcnd _
  have hval : ∀ (j : Nat) t v, Try.f5.params[j]? = some t → args[j]? = some v → Value.okWide Try.prog W .any base t v := hval0
  have hW' := hW
  obtain ⟨p, q, hA0, hV, rfl, hfz, hnd⟩ := hW
  have hA : DataW.TrodAll enc Try.prog W 0 (fun _ => true) true Try.f5.params.toList args.toList ds p := hA0
  rw [Try.params5] at hA hval
  obtain ⟨v0, vs0, d0, ds0, p0, q0, hargs, rfl, rfl, h0, r0⟩ := trodAll_cons hA
  obtain ⟨rfl, rfl, rfl⟩ := trodAll_nil r0
  obtain rfl : args = #[v0] := by cases args; simp_all
  obtain ⟨rfl, rfl⟩ := trodVars_none hV
  have k0 := h0
  have lt0 : ∀ x ∈ p0, x.block < W.heap.size := by obtain ⟨m, hm⟩ := k0; exact DataW.trod_lt m _ _ _ hm
  obtain ⟨L0, w0⟩ := open_toks Try.underlying23 Try.underlying31 (by kernel_rfl) (by kernel_rfl) Try.underlying3 Try.underlying9 Try.underlying2 Try.underlying3 (hval 0 23 v0 rfl rfl) h0
  clear h0
  clear hA0 hval0
  refine (walk v0 L0 W w0).mono fun e W' ⟨he, bel⟩ => ?_
  subst he
  exact ⟨_, rfl, _, _, _, [], _, [], hW', trodAll_mk1 (shut_bool Try.underlying4 _), (trodAll_cons_mk (Below.trod laidOut (by kernel_rfl) (of_decide_eq_true (by kernel_rfl)) k0 bel lt0) trodAll_mk0), rfl, bel.frame _, fun h => by cases h⟩
theorem over : Rows.lexBackRow.holds Try.pinned (OpenSpec.ofChange Rows.lexBackSpec) :=
  OpenClaim.holds_of_wide 5 Try.f5 rfl rfl rfl rfl rfl rfl rfl ⟨rfl, rfl, rfl, rfl, rfl⟩ rfl rfl rfl rfl rfl (by kernel_rfl) Try.func5 (by kernel_rfl)
    (of_decide_eq_true (by kernel_rfl)) (by unfold Func.isWrapper; first | (rw [if_pos (by decide +kernel)]; kernel_rfl) | (rw [if_neg (by decide +kernel)]; exact ⟨rfl, rfl⟩))
    (fun os started H enc _ => lifted os started H enc)

end Go.Proofs.Ytpmfgnolojmimaa.back
namespace Go.Proofs.Ytpmfgnolojmimaa
theorem LexBack_holds : Rows.LexBackSaid := back.over
end Go.Proofs.Ytpmfgnolojmimaa
