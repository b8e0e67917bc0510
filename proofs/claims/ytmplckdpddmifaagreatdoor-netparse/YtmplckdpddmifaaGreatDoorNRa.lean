/- Package net: rows of things of one type (Row). -/
import Derived.Test.YtmplckdpddmifaaGreatDoorNThing
import Derived.Test.YtmplckdpddmifaaGreatDoorTk
namespace Go.Proofs.YtmplckdpddmifaaGreatDoor
open Go.RowKit
attribute [local go_sem ↓] Go.wp_at_zero Go.wp_at_succ
set_option linter.unusedVariables false
set_option linter.unusedSimpArgs false
set_option maxRecDepth 10000
namespace RowR
theorem info0 : (Tryz.prog.info? 117).map (fun i => (i.zero, i.size, i.bytes)) = some (some (.agg #[.bool false, .slice none 0 0]), 2, 32) := by kernel_rfl
theorem parts {vs : List Value} (h : vs.length = 2) : ∃ u0 u1, vs = [u0, u1] := by
  match vs, h with
  | [u0, u1], _ => exact ⟨u0, u1, rfl⟩
set_option maxHeartbeats 8000000 in
theorem core (E : Env) (g0 g1 g2 g3 g4 b o m most : Nat) (fT : FuncId) (X : List UInt8) (body : List Tok → Rs) (c rest : List D) (w : World) (r0 : List Tok)
    (B0 : Hid (Bx E w g0 (.pointer (some ⟨E.rb, 0, none⟩)))) (B1 : Hid (Bx E w g1 (.string (sv X)))) (B2 : Hid (Bx E w g2 (.pointer (some ⟨b, o, none⟩)))) (B3 : Hid (Bx E w g3 (.int .i64 (most : Int)))) (B4 : Hid (Bx E w g4 (.func (.func fT) #[.pointer (some ⟨E.rb, 0, none⟩)] #[])))
    (A0 : Hid (E.A m = (b, o))) (HS : Hid (∀ b, E.S b → b < w.heap.size)) (HLo : Hid (E.lo ≤ w.heap.size)) (hcm : Hid (c.length = m)) (HR : Hid (Rdr E w r0)) (HL : Hid (Cel E w (c ++ [dN] ++ rest)))
    (HT : Hid (Thing E.rb E.l E.ta E.cap fT 117 [.bool false, .slice none 0 0] body)) (HM : Hid (Mon body)) (hent : Hid (Ent fT)) (hmost : most ≤ 1000) (hX : Hid (X ≠ [])) :
    Calls Tryz.prog 108 #[.pointer (some ⟨g0, 0, none⟩), .pointer (some ⟨g1, 0, none⟩), .pointer (some ⟨g2, 0, none⟩), .pointer (some ⟨g3, 0, none⟩), .pointer (some ⟨g4, 0, none⟩)] w (Post E w rest (m + 1) (pRow X most 117 2 body c r0)) := by
  obtain ⟨i0, hi, hz0, hz1, hz2⟩ := info_parts info0
  have HI0 := hide hi
  have HZ0 := hide hz0
  have HZ1 := hide hz1
  have HZ2 := hide hz2
  clear hi hz0 hz1 hz2
  have HCM := hcm
  have Isn := hide is_nil
  have Isw := hide is_want
  have Isl := hide is_long
  go_enter Tryz.func108, Tryz.ntmps108
  go_wp2_with fail
  go_loopw [5] (fun u5 wr => ∃ (L : List (List D)) (r : List Tok) (v : Value), Hid (RowI E w m (c ++ [dN] ++ rest) 117 2 wr L r v) ∧ Hid (rw_ X most body L r = rw_ X most body [] r0) ∧ Hid (L.length ≤ most)) (fun _ wr => 70001 - rk E.rb wr)
  case atStart => exact ⟨[], r0, .slice none 0 0, hide (by rw [← uq hcm]; exact RowI.start (uq HR) (uq HL)), hide rfl, hide (Nat.zero_le _)⟩
  case round =>
    obtain ⟨L, r, v, HI, HE, HLn⟩ := hrel
    obtain ⟨t, r', rfl⟩ := r0_cons (uq HI).rd.1
    obtain ⟨av, cap, xs, rfl, hown⟩ := row_shape (uq HI).row
    have HOWN := hide hown
    clear hown
    obtain ⟨n, HN⟩ : ∃ n, Hid (L.length = n) := ⟨_, rfl⟩
    have hnm : n ≤ most := by have := uq HLn; have := uq HN; omega
    rw [uq HN] at HI HOWN
    have c0 := hide ((uq B0).fr (uq HI).fr).1
    have c1 := hide ((uq B1).fr (uq HI).fr).1
    have c2 := hide ((uq B2).fr (uq HI).fr).1
    have c3 := hide ((uq B3).fr (uq HI).fr).1
    have c4 := hide ((uq B4).fr (uq HI).fr).1
    have c5 : Hid (wr.cell? ⟨b, o, none⟩ = some (.slice av n cap)) := hide (by have := (uq HI).cel; rw [uq A0] at this; exact this)
    have HR0 := hide (uq HI).rd.1
    have HEq := hide (rw_cons X most body (uq HM) L t r')
    by_cases ht : t.s = X
    · have hne : ((sv t.s).toList == (sv X).toList) = true := by rw [svl, svl, ht]; simp
      have HTS := hide ht
      clear ht
      by_cases hn : n = most
      · have HNE := hide hn
        clear hn
        go_wp2_with fail
        refine wp_region_held_drew (S := fun w' => w'.cell? ⟨g0, 0, none⟩ = some (.pointer (some ⟨E.rb, 0, none⟩)) ∧ w'.cell? ⟨g1, 0, none⟩ = some (.string (sv X)) ∧ w'.cell? ⟨g2, 0, none⟩ = some (.pointer (some ⟨b, o, none⟩)) ∧ w'.cell? ⟨g3, 0, none⟩ = some (.int .i64 (most : Int)) ∧ w'.cell? ⟨b, o, none⟩ = some (.slice av n cap)) (by kernel_rfl) (by exact ⟨uq c0, uq c1, uq c2, uq c3, uq c5⟩) (fun hHeld => ?_)
        refine tkk 0 9 hHeld ?_; try simp only [Act.put, Ya, Yb, Yc]
        refine tkk 1 10 hHeld ?_; try simp only [Act.put, Ya, Yb, Yc]
        refine tkk 2 11 hHeld ?_; try simp only [Act.put, Ya, Yb, Yc]
        refine tkk 3 12 hHeld ?_; try simp only [Act.put, Ya, Yb, Yc]
        refine tkk 4 13 hHeld ?_; try simp only [Act.put, Ya, Yb, Yc]
        refine tkk 5 14 hHeld ?_; try simp only [Act.put, Ya, Yb, Yc]
        refine tkk 6 15 hHeld ?_; try simp only [Act.put, Ya, Yb, Yc]
        refine rdyy 7 (fun K hK => ?_)
        go_simp
        clear hHeld
        (refine (more_long E.rb n most t.k t.n t.p (sv t.s) (sv X) _ hne (uq HNE) (hide (nowT ((uq HR0).keep (Keep.refl _).drew))) (hide (wrongT ((uq HR0).keep (Keep.refl _).drew)))).mono ?_; rintro e w2 ⟨rfl, hk⟩; have HK2 := hide (Keep.trans (Keep.refl wr).drew hk); clear hk)
        try go_wp2_with fail
        refine hK.out _ _ ?_ (fun hHeld => ?_)
        · exact ⟨(uq HK2).cell' (uq c0), (uq HK2).cell' (uq c1), (uq HK2).cell' (uq c2), (uq HK2).cell' (uq c3), (uq HK2).cell' (uq c5)⟩
        clear hK K
        try simp only [Act.put, Ya, Yb, Yc]
        refine tkk 8 6 hHeld ?_; try simp only [Act.put, Ya, Yb, Yc]
        refine wpAnyH_done (by kernel_rfl) ?_ _
        clear hHeld
        unfold flt
        go_wp2_with fail
        (refine ((uq Isl) _ _).mono ?_; rintro e w3 ⟨rfl, hk⟩; have HK3 := hide ((uq HK2).trans hk); clear hk)
        go_wp2_with fail
        go_ret
        have hres : pRow X most 117 2 body c r0 = .error (4, t.p) := by
          show (match rw_ X most body [] r0 with | .error x => Except.error x | .ok (L, r') => .ok (c ++ [D.row 117 2 L], r')) = _
          rw [← uq HE, uq HEq, if_pos (uq HTS), if_pos (by rw [uq HN]; exact uq HNE)]
        rw [hres]
        exact ⟨(uq HI).fr.trans (.keep (uq HK3)), rfl⟩
      · have hnb : ((n : Int) == (most : Int)) = false := by simp; omega
        have HNN := hide hn
        clear hn
        obtain ⟨k, k1, k2, k3⟩ := (uq HR0).at (.inr (by rw [uq HTS]; exact uq hX))
        have HK1 := hide k1
        have HK2c := hide k2
        have HK3c := hide k3
        clear k1 k2 k3
        go_wp2_with fail
        refine wp_region_held_drew (S := fun w' => w'.cell? ⟨g0, 0, none⟩ = some (.pointer (some ⟨E.rb, 0, none⟩)) ∧ w'.cell? ⟨g1, 0, none⟩ = some (.string (sv X)) ∧ w'.cell? ⟨g2, 0, none⟩ = some (.pointer (some ⟨b, o, none⟩)) ∧ w'.cell? ⟨g3, 0, none⟩ = some (.int .i64 (most : Int)) ∧ w'.cell? ⟨b, o, none⟩ = some (.slice av n cap)) (by kernel_rfl) (by exact ⟨uq c0, uq c1, uq c2, uq c3, uq c5⟩) (fun hHeld => ?_)
        refine tkk 0 9 hHeld ?_; try simp only [Act.put, Ya, Yb, Yc]
        refine tkk 1 10 hHeld ?_; try simp only [Act.put, Ya, Yb, Yc]
        refine tkk 2 11 hHeld ?_; try simp only [Act.put, Ya, Yb, Yc]
        refine tkk 3 12 hHeld ?_; try simp only [Act.put, Ya, Yb, Yc]
        refine tkk 4 13 hHeld ?_; try simp only [Act.put, Ya, Yb, Yc]
        refine tkk 5 14 hHeld ?_; try simp only [Act.put, Ya, Yb, Yc]
        refine tkk 6 15 hHeld ?_; try simp only [Act.put, Ya, Yb, Yc]
        refine rdyy 7 (fun K hK => ?_)
        go_simp
        clear hHeld
        (refine (more_yes E.rb n most k t.k t.n t.p (sv t.s) (sv X) _ hne hnb (hide (nowT ((uq HR0).keep (Keep.refl _).drew))) (hide fun w' a b hk x1 x2 => the_yes E.rb a b k t.k t.n t.p (sv t.s) (sv X) w' hne (uq HK1) x1 x2 (Keep.cell' (Keep.trans (Keep.refl wr).drew hk) (uq HK2c)) (Keep.frozen' (Keep.trans (Keep.refl wr).drew hk) (uq HK2c) (uq HK3c)) (hide (nowT ((uq HR0).keep (Keep.trans (Keep.refl wr).drew hk)))))).mono ?_; rintro e w9 ⟨rfl, w2, hk, rfl⟩; have HK2 := hide (Keep.trans (Keep.refl wr).drew hk); clear hk; have HIr : Hid (RowI E w m (c ++ [dN] ++ rest) 117 2 (w2.setCell ⟨E.rb, 1, none⟩ (.int .i64 ((k + 1 : Nat) : Int))) L r' (.slice av n cap)) := hide (((uq HI).keep (uq HK2)).move ((Fr.refl _ _).set _ _ rfl) (((uq HR0).keep (uq HK2)).next (.inr (by rw [uq HTS]; exact uq hX)) (uq HI).rd.apart ((uq HK2).cell' (uq HK2c)))); have HFr : Hid (Fr (fun b => b = E.rb) wr (w2.setCell ⟨E.rb, 1, none⟩ (.int .i64 ((k + 1 : Nat) : Int)))) := hide ((Fr.keep (uq HK2)).set _ _ rfl); generalize w2.setCell ⟨E.rb, 1, none⟩ (.int .i64 ((k + 1 : Nat) : Int)) = w3 at HIr HFr ⊢; have d0 := hide ((uq B0).fr (uq HIr).fr).1; have d1 := hide ((uq B1).fr (uq HIr).fr).1; have d2 := hide ((uq B2).fr (uq HIr).fr).1; have d3 := hide ((uq B3).fr (uq HIr).fr).1; have d4 := hide ((uq B4).fr (uq HIr).fr).1; have d5 : Hid (w3.cell? ⟨b, o, none⟩ = some (.slice av n cap)) := hide (by have := (uq HIr).cel; rw [uq A0] at this; exact this))
        try go_wp2_with fail
        refine hK.out _ _ ?_ (fun hHeld => ?_)
        · exact ⟨uq d0, uq d1, uq d2, uq d3, uq d5⟩
        clear hK K
        try simp only [Act.put, Ya, Yb, Yc]
        refine tkk 8 6 hHeld ?_; try simp only [Act.put, Ya, Yb, Yc]
        refine wpAnyH_done (by kernel_rfl) ?_ _
        clear hHeld
        go_wp2_with fail
        (refine ((uq Isn) _ _).mono ?_; rintro e w3 ⟨rfl, rfl⟩)
        go_upto_region 7 with fail
        have HK4 := hide ((Keep.refl w3).alloc (.cells #[.bool false, .slice none 0 0] 117))
        have hxb : Hid ((w3.alloc (.cells #[.bool false, .slice none 0 0] 117)).heap[w3.heap.size]? = some (.cells #[.bool false, .slice none 0 0] 117 (0, 0))) := hide (heap_alloc_new w3 _)
        have HSz : Hid ((w3.alloc (.cells #[.bool false, .slice none 0 0] 117)).heap.size = w3.heap.size + 1) := hide (World.size_alloc _ _)
        generalize w3.alloc (.cells #[.bool false, .slice none 0 0] 117) = w4 at HK4 hxb HSz ⊢
        obtain ⟨xb, HXB⟩ : ∃ xb, Hid (w3.heap.size = xb) := ⟨_, rfl⟩
        rw [uq HXB] at hxb HSz ⊢
        have e4 := (uq HK4).cell' (uq d4)
        have hent' := uq hent
        unfold Ent at hent'
        go_wp2_with fail
        have hthing := (uq HT) w4 xb r' ((uq HIr).rd.1.keep (uq HK4)) (Nat.lt_of_lt_of_le (Nat.lt_of_lt_of_le ((uq HS) _ (uq HR).2.2) (uq HIr).fr.size) (uq HK4).size) (uq hxb) (fun e => by have := (uq HS) _ (uq HR).2.2; have := (uq HIr).fr.size; have := uq HXB; omega) (fun e => by have := (uq HIr).ta; have := (uq HIr).fr.size; have := uq HXB; omega)
        refine hthing.mono ?_
        clear hthing
        rintro e w5 ⟨hf5, hp5⟩
        have HF5 := hide hf5
        have HFw : Hid (Fr (fun b => b = E.rb) w3 w5) := hide (Fr.inner (.keep (uq HK4)) hf5 (fun i hi hs => by have := uq HXB; rcases hs with hs | hs <;> omega))
        clear hf5
        cases hb : body r' with
        | error x =>
          rw [hb] at hp5
          obtain rfl : e = .returned (flt x) := hp5
          have hres : pRow X most 117 2 body c r0 = .error x := by
            show (match rw_ X most body [] r0 with | .error x => Except.error x | .ok (L, r') => .ok (c ++ [D.row 117 2 L], r')) = _
            rw [← uq HE, uq HEq, if_pos (uq HTS), if_neg (by rw [uq HN]; exact uq HNN), hb]
          have HRES := hide hres
          clear hb hres
          unfold flt
          go_wp2_with fail
          go_ret
          rw [uq HRES]
          exact ⟨(uq HIr).fr.inner (uq HFw) (fun i _ e => e ▸ (uq HR).2.2), rfl⟩
        | ok q =>
          obtain ⟨ds, r2⟩ := q
          rw [hb] at hp5
          obtain ⟨rfl, p2, p3, vs, p4, p5⟩ := hp5
          obtain ⟨u0, u1, rfl⟩ := parts ((rds_length _ _ _ p5).trans p3)
          have HE2 : Hid (rw_ X most body (L ++ [ds]) r2 = rw_ X most body [] r0) := hide (by rw [← uq HE, uq HEq, if_pos (uq HTS), if_neg (by rw [uq HN]; exact uq HNN), hb])
          have HMo := hide ((uq HM) _ _ _ hb)
          have HI5 : Hid (RowI E w m (c ++ [dN] ++ rest) 117 2 w5.drew L r2 (.slice av n cap)) := hide (((uq HIr).move (uq HFw) p2).keep (Keep.refl _).drew)
          have HP5 : Hid (Rds w5.drew ds (fun b => xb + 1 ≤ b) [u0, u1]) := hide (Rds.move ds _ _ _ p5 (fun b hb _ => ⟨rfl, by rw [uq HSz] at hb; exact hb⟩))
          have HON := hide (rds_one _ _ _ p5)
          have HP3 := hide p3
          have HRk := hide (rk_of (uq HI5).rd.1)
          have HRk0 := hide (rk_of (uq HR0))
          have x0 : Hid (w5.drew.cell? ⟨xb, 0, none⟩ = some u0) := hide (p4 0 _ rfl)
          have x1 : Hid (w5.drew.cell? ⟨xb, 1, none⟩ = some u1) := hide (p4 1 _ rfl)
          have y2 : Hid (w5.drew.cell? ⟨g2, 0, none⟩ = some (.pointer (some ⟨b, o, none⟩))) := hide ((uq B2).fr (uq HI5).fr).1
          have y5 : Hid (w5.drew.cell? ⟨b, o, none⟩ = some (.slice av n cap)) := hide (by have := (uq HI5).cel; rw [uq A0] at this; exact this)
          have y6 : Hid (w5.drew.frozen? ⟨b, o, none⟩ = false) := hide (by have := (uq HI5).frz m (uq HI5).lt; rw [uq A0] at this; exact this)
          obtain ⟨av5, cap5, xs5, hsh5, hown5⟩ := row_shape (uq HI5).row
          clear hsh5
          rw [uq HN] at hown5
          have HOWN5 := hide hown5
          clear hown5 hb p2 p3 p4 p5 hent' e4
          have hbl : E.S b := by have := ((uq HI5).part (uq HI5).lt).2.1; rw [uq A0] at this; exact this
          have HBl := hide hbl
          have hnb2 : ∀ j, (Value.slice av n cap).ownBlock = some j → ¬ E.S j ∧ w.heap.size ≤ j ∧ j < xb := fun j ej => by
            have hr := (uq HI).row
            simp only [Rd] at hr
            obtain ⟨_, q1, q2, _⟩ := hr
            have q3 := q2 j ej
            have q4 := (q1.lt j ej).2
            have := (uq HFr).size
            have := uq HXB
            exact ⟨q3.1, q3.2, by omega⟩
          have HNB := hide hnb2
          have hg2b : Hid (b ≠ g2) := hide (fun e => (uq B2).2 (e ▸ hbl))
          have hxbb : Hid (b ≠ xb) := hide (fun e => by have := (uq HS) _ hbl; have := (uq HIr).fr.size; have := uq HXB; omega)
          clear hbl hnb2
          go_wp2_with fail
          refine wp_region_held_drew (S := fun w' => w'.cell? ⟨g2, 0, none⟩ = some (.pointer (some ⟨b, o, none⟩)) ∧ w'.cell? ⟨xb, 0, none⟩ = some u0 ∧ w'.cell? ⟨xb, 1, none⟩ = some u1) (by kernel_rfl) (by exact ⟨uq y2, uq x0, uq x1⟩) (fun hHeld => ?_)
          refine tkk 0 28 hHeld ?_; try simp only [Act.put, Ya, Yb, Yc]
          refine tkk 1 29 hHeld ?_; try simp only [Act.put, Ya, Yb, Yc]
          refine tkk 2 30 hHeld ?_; try simp only [Act.put, Ya, Yb, Yc]
          refine tkk 4 32 hHeld ?_; try simp only [Act.put, Ya, Yb, Yc]
          generalize w5.drew = w6 at HI5 HP5 HRk x0 x1 y2 y5 y6 HOWN5 ⊢
          have hold : ∀ w', Keep w6 w' → w'.cell? ⟨g2, 0, none⟩ = some (.pointer (some ⟨b, o, none⟩)) ∧ w'.cell? ⟨xb, 0, none⟩ = some u0 ∧ w'.cell? ⟨xb, 1, none⟩ = some u1 := fun w' hk => ⟨hk.cell' (uq y2), hk.cell' (uq x0), hk.cell' (uq x1)⟩
          have HOLD := hide hold
          clear hold
          have z5 := uq y5
          have z5a : ∀ ob, (w6.alloc ob).cell? ⟨b, o, none⟩ = some (.slice av n cap) := fun ob => ((Keep.refl w6).alloc ob).cell' z5
          have Z5 := hide z5a
          clear z5a
          refine wpAnyH_ready (rs := [3, 5]) (by kernel_rfl) (by simp) ?_
          refine AllReadyH.cons rfl (fun K hK => ?_) (AllReadyH.cons rfl (fun K hK => ?_) AllReadyH.nil)
          · skip
            go_simp
            clear hHeld
            refine hK.out _ _ ?_ (fun hHeld => ?_)
            · exact (uq HOLD) _ (Keep.refl _)
            clear hK K
            try simp only [Act.put, Ya, Yb, Yc]
            refine rdyy 5 (fun K hK => ?_)
            go_simp
            clear hHeld
            refine hK.out _ _ ?_ (fun hHeld => ?_)
            · exact (uq HOLD) _ ((Keep.refl _).alloc _)
            clear hK K
            try simp only [Act.put, Ya, Yb, Yc]
            refine wpAnyH_ready (rs := [6]) (by kernel_rfl) (by simp) ?_
            refine AllReadyH.cons rfl (fun K hK => ?_) AllReadyH.nil
            refine wp_append_at _ _ _ rfl 0 117 i0 _ 2 32 Tryz.underlying107 (uq HI0) (uq HZ0) (uq HZ1) (uq HZ2) rfl (by decide) _ _ _ rfl ((uq HOWN5).alloc _) ⟨w6.heap.size, 0, none⟩ 1 1 [u0, u1] rfl rfl (new_cells w6 [u0, u1] 117) (uq HON) (by unfold maxLen; omega) (by omega) (Nat.zero_le _) ?_
            intro v' w7 hown' hgrow hat
            obtain ⟨g', cp', rfl⟩ := own_succ hown'
            have HOWN' := hide hown'
            have HGROW := hide hgrow
            have HAT := hide hat
            clear hown' hgrow hat
            have HSt : Hid (∀ q, (q < w6.heap.size ∧ ∀ j, (Value.slice av n cap).ownBlock = some j → j ≠ q) → w7.heap[q]? = w6.heap[q]?) := hide (fun q hq => by rw [(uq HGROW).block q (by rw [World.size_alloc]; omega) (fun e => hq.2 q e.symm rfl)]; exact heap_alloc_old w6 _ hq.1)
            have HSt2 : Hid (w7.cell? ⟨g2, 0, none⟩ = some (.pointer (some ⟨b, o, none⟩)) ∧ w7.cell? ⟨xb, 0, none⟩ = some u0 ∧ w7.cell? ⟨xb, 1, none⟩ = some u1) := hide (by
              have hg2 : w7.heap[g2]? = w6.heap[g2]? := (uq HSt) g2 ⟨cell_lt (uq y2), fun j ej e => by have := ((uq HNB) j ej).2.1; have := cell_lt (uq B2).1; simp at this; omega⟩
              have hx2 : w7.heap[xb]? = w6.heap[xb]? := (uq HSt) xb ⟨cell_lt (uq x0), fun j ej e => by have := ((uq HNB) j ej).2.2; omega⟩
              exact ⟨(cell_of (a := ⟨g2, 0, none⟩) hg2).trans (uq y2), (cell_of (a := ⟨xb, 0, none⟩) hx2).trans (uq x0), (cell_of (a := ⟨xb, 1, none⟩) hx2).trans (uq x1)⟩)
            have hb7 : w7.heap[b]? = w6.heap[b]? := (uq HSt) b ⟨cell_lt (uq y5), fun j ej e => ((uq HNB) j ej).1 (e ▸ uq HBl)⟩
            have b5 : w7.cell? ⟨b, o, none⟩ = some (.slice av n cap) := (cell_of (a := ⟨b, o, none⟩) hb7).trans (uq y5)
            have b6 : w7.frozen? ⟨b, o, none⟩ = false := (World.frozen?_of_block (a := ⟨b, o, none⟩) hb7).trans (uq y6)
            clear hb7
            refine hK.out _ _ ?_ (fun hHeld => ?_)
            · exact uq HSt2
            clear hK K
            try simp only [Act.put, List.setIfInBounds_toArray, List.set_cons_zero, List.set_cons_succ]
            refine tkk 7 35 hHeld ?_; try simp only [Act.put, Ya, Yb, Yc]
            refine rdyy 8 (fun K hK => ?_)
            go_simp
            clear hHeld
            refine hK.out _ _ ?_ (fun hHeld => ?_)
            · exact ⟨(set_far w7 ⟨b, o, none⟩ ⟨g2, 0, none⟩ _ (uq hg2b)).trans (uq HSt2).1, (set_far w7 ⟨b, o, none⟩ ⟨xb, 0, none⟩ _ (uq hxbb)).trans (uq HSt2).2.1, (set_far w7 ⟨b, o, none⟩ ⟨xb, 1, none⟩ _ (uq hxbb)).trans (uq HSt2).2.2⟩
            clear hK K
            try simp only [Act.put, Ya, Yb, Yc]
            refine wpAnyH_done (by kernel_rfl) ?_ _
            clear hHeld
            go_wp2_with fail
            go_roundw
            case rel =>
              refine ⟨L ++ [ds], r2, .slice (some ⟨g', 0, none⟩) (n + 1) cp', hide ?_, HE2, hide (by rw [List.length_append]; have := uq HN; have := uq HNN; simp; omega)⟩
              have h9 := (uq HI5).app (w3 := w7) (o := .cells #[u0, u1] 117) (v' := .slice (some ⟨g', 0, none⟩) (n + 1) cp') (xs := xs5) (vs := [u0, u1]) (B := xb + 1) (uq HS) (fun g eg => by have := ((uq HNB) g eg).2.2; omega) (by have := (uq HIr).fr.size; have := uq HXB; omega) (uq HP5) (uq HP3) (by rw [uq HN]; exact uq HOWN5) (by rw [uq HN]; exact uq HOWN') (uq HGROW) (uq HAT)
              rw [uq A0] at h9
              exact h9
            case measure =>
              have e9 : rk E.rb (w7.setCell ⟨b, o, none⟩ (.slice (some ⟨g', 0, none⟩) (n + 1) cp')) = rk E.rb w6 := by
                unfold rk
                have hrb : w7.heap[E.rb]? = w6.heap[E.rb]? := (uq HSt) _ ⟨Nat.lt_of_lt_of_le ((uq HS) _ (uq HR).2.2) (uq HI5).fr.size, fun j ej e => ((uq HNB) j ej).1 (e ▸ (uq HR).2.2)⟩
                rw [set_far _ _ _ _ (by have := ((uq HI5).part (uq HI5).lt).2.2.1; rw [uq A0] at this; exact this), cell_of (a := ⟨E.rb, 1, none⟩) hrb]
              have q1 := uq HRk
              have q2 := uq HRk0
              have q3 := uq HMo
              simp only [List.length_cons] at q2
              first
              | (rw [e9]; omega)
              | (show 70001 - rk E.rb (w7.setCell ⟨b, o, none⟩ (.slice (some ⟨g', 0, none⟩) (n + 1) cp')) < _; rw [e9]; omega)
          · skip
            go_simp
            clear hHeld
            refine hK.out _ _ ?_ (fun hHeld => ?_)
            · exact (uq HOLD) _ ((Keep.refl _).alloc _)
            clear hK K
            try simp only [Act.put, Ya, Yb, Yc]
            have z5a := uq Z5
            clear z5
            refine rdyy 3 (fun K hK => ?_)
            go_simp
            clear hHeld
            refine hK.out _ _ ?_ (fun hHeld => ?_)
            · exact (uq HOLD) _ ((Keep.refl _).alloc _)
            clear hK K
            try simp only [Act.put, Ya, Yb, Yc]
            refine wpAnyH_ready (rs := [6]) (by kernel_rfl) (by simp) ?_
            refine AllReadyH.cons rfl (fun K hK => ?_) AllReadyH.nil
            refine wp_append_at _ _ _ rfl 0 117 i0 _ 2 32 Tryz.underlying107 (uq HI0) (uq HZ0) (uq HZ1) (uq HZ2) rfl (by decide) _ _ _ rfl ((uq HOWN5).alloc _) ⟨w6.heap.size, 0, none⟩ 1 1 [u0, u1] rfl rfl (new_cells w6 [u0, u1] 117) (uq HON) (by unfold maxLen; omega) (by omega) (Nat.zero_le _) ?_
            intro v' w7 hown' hgrow hat
            obtain ⟨g', cp', rfl⟩ := own_succ hown'
            have HOWN' := hide hown'
            have HGROW := hide hgrow
            have HAT := hide hat
            clear hown' hgrow hat
            have HSt : Hid (∀ q, (q < w6.heap.size ∧ ∀ j, (Value.slice av n cap).ownBlock = some j → j ≠ q) → w7.heap[q]? = w6.heap[q]?) := hide (fun q hq => by rw [(uq HGROW).block q (by rw [World.size_alloc]; omega) (fun e => hq.2 q e.symm rfl)]; exact heap_alloc_old w6 _ hq.1)
            have HSt2 : Hid (w7.cell? ⟨g2, 0, none⟩ = some (.pointer (some ⟨b, o, none⟩)) ∧ w7.cell? ⟨xb, 0, none⟩ = some u0 ∧ w7.cell? ⟨xb, 1, none⟩ = some u1) := hide (by
              have hg2 : w7.heap[g2]? = w6.heap[g2]? := (uq HSt) g2 ⟨cell_lt (uq y2), fun j ej e => by have := ((uq HNB) j ej).2.1; have := cell_lt (uq B2).1; simp at this; omega⟩
              have hx2 : w7.heap[xb]? = w6.heap[xb]? := (uq HSt) xb ⟨cell_lt (uq x0), fun j ej e => by have := ((uq HNB) j ej).2.2; omega⟩
              exact ⟨(cell_of (a := ⟨g2, 0, none⟩) hg2).trans (uq y2), (cell_of (a := ⟨xb, 0, none⟩) hx2).trans (uq x0), (cell_of (a := ⟨xb, 1, none⟩) hx2).trans (uq x1)⟩)
            have hb7 : w7.heap[b]? = w6.heap[b]? := (uq HSt) b ⟨cell_lt (uq y5), fun j ej e => ((uq HNB) j ej).1 (e ▸ uq HBl)⟩
            have b5 : w7.cell? ⟨b, o, none⟩ = some (.slice av n cap) := (cell_of (a := ⟨b, o, none⟩) hb7).trans (uq y5)
            have b6 : w7.frozen? ⟨b, o, none⟩ = false := (World.frozen?_of_block (a := ⟨b, o, none⟩) hb7).trans (uq y6)
            clear hb7
            refine hK.out _ _ ?_ (fun hHeld => ?_)
            · exact uq HSt2
            clear hK K
            try simp only [Act.put, List.setIfInBounds_toArray, List.set_cons_zero, List.set_cons_succ]
            refine tkk 7 35 hHeld ?_; try simp only [Act.put, Ya, Yb, Yc]
            refine rdyy 8 (fun K hK => ?_)
            go_simp
            clear hHeld
            refine hK.out _ _ ?_ (fun hHeld => ?_)
            · exact ⟨(set_far w7 ⟨b, o, none⟩ ⟨g2, 0, none⟩ _ (uq hg2b)).trans (uq HSt2).1, by rw [set_far _ _ _ _ (fun e => absurd ((uq HS) _ (uq HBl)) (by have := (uq HIr).fr.size; have := uq HXB; simp at e; omega))]; exact (uq HSt2).2.1, by rw [set_far _ _ _ _ (fun e => absurd ((uq HS) _ (uq HBl)) (by have := (uq HIr).fr.size; have := uq HXB; simp at e; omega))]; exact (uq HSt2).2.2⟩
            clear hK K
            try simp only [Act.put, Ya, Yb, Yc]
            refine wpAnyH_done (by kernel_rfl) ?_ _
            clear hHeld
            go_wp2_with fail
            go_roundw
            case rel =>
              refine ⟨L ++ [ds], r2, .slice (some ⟨g', 0, none⟩) (n + 1) cp', hide ?_, HE2, hide (by rw [List.length_append]; have := uq HN; have := uq HNN; simp; omega)⟩
              have h9 := (uq HI5).app (w3 := w7) (o := .cells #[u0, u1] 117) (v' := .slice (some ⟨g', 0, none⟩) (n + 1) cp') (xs := xs5) (vs := [u0, u1]) (B := xb + 1) (uq HS) (fun g eg => by have := ((uq HNB) g eg).2.2; omega) (by have := (uq HIr).fr.size; have := uq HXB; omega) (uq HP5) (uq HP3) (by rw [uq HN]; exact uq HOWN5) (by rw [uq HN]; exact uq HOWN') (uq HGROW) (uq HAT)
              rw [uq A0] at h9
              exact h9
            case measure =>
              have e9 : rk E.rb (w7.setCell ⟨b, o, none⟩ (.slice (some ⟨g', 0, none⟩) (n + 1) cp')) = rk E.rb w6 := by
                unfold rk
                have hrb : w7.heap[E.rb]? = w6.heap[E.rb]? := (uq HSt) _ ⟨Nat.lt_of_lt_of_le ((uq HS) _ (uq HR).2.2) (uq HI5).fr.size, fun j ej e => ((uq HNB) j ej).1 (e ▸ (uq HR).2.2)⟩
                rw [set_far _ _ _ _ (by have := ((uq HI5).part (uq HI5).lt).2.2.1; rw [uq A0] at this; exact this), cell_of (a := ⟨E.rb, 1, none⟩) hrb]
              have q1 := uq HRk
              have q2 := uq HRk0
              have q3 := uq HMo
              simp only [List.length_cons] at q2
              first
              | (rw [e9]; omega)
              | (show 70001 - rk E.rb (w7.setCell ⟨b, o, none⟩ (.slice (some ⟨g', 0, none⟩) (n + 1) cp')) < _; rw [e9]; omega)
    · go_wp2_with fail
      refine wp_region_held_drew (S := fun w' => w'.cell? ⟨g0, 0, none⟩ = some (.pointer (some ⟨E.rb, 0, none⟩)) ∧ w'.cell? ⟨g1, 0, none⟩ = some (.string (sv X)) ∧ w'.cell? ⟨g2, 0, none⟩ = some (.pointer (some ⟨b, o, none⟩)) ∧ w'.cell? ⟨g3, 0, none⟩ = some (.int .i64 (most : Int)) ∧ w'.cell? ⟨b, o, none⟩ = some (.slice av n cap)) (by kernel_rfl) (by exact ⟨uq c0, uq c1, uq c2, uq c3, uq c5⟩) (fun hHeld => ?_)
      refine tkk 0 9 hHeld ?_; try simp only [Act.put, Ya, Yb, Yc]
      refine tkk 1 10 hHeld ?_; try simp only [Act.put, Ya, Yb, Yc]
      refine tkk 2 11 hHeld ?_; try simp only [Act.put, Ya, Yb, Yc]
      refine tkk 3 12 hHeld ?_; try simp only [Act.put, Ya, Yb, Yc]
      refine tkk 4 13 hHeld ?_; try simp only [Act.put, Ya, Yb, Yc]
      refine tkk 5 14 hHeld ?_; try simp only [Act.put, Ya, Yb, Yc]
      refine tkk 6 15 hHeld ?_; try simp only [Act.put, Ya, Yb, Yc]
      refine rdyy 7 (fun K hK => ?_)
      go_simp
      clear hHeld
      (refine (more_no E.rb n most t.k t.n t.p (sv t.s) (sv X) _ (by rw [svl, svl]; simpa using ht) (hide (nowT ((uq HR0).keep (Keep.refl _).drew))) (hide fun w' a b hk x1 x2 => the_no E.rb a b t.k t.n t.p (sv t.s) (sv X) w' (by rw [svl, svl]; simpa using ht) x1 x2 (hide (nowT ((uq HR0).keep (Keep.trans (Keep.refl wr).drew hk)))) (hide (wrongT ((uq HR0).keep (Keep.trans (Keep.refl wr).drew hk)))))).mono ?_; rintro e w2 ⟨rfl, hk⟩; have HK2 := hide (Keep.trans (Keep.refl wr).drew hk); clear hk)
      try go_wp2_with fail
      refine hK.out _ _ ?_ (fun hHeld => ?_)
      · exact ⟨(uq HK2).cell' (uq c0), (uq HK2).cell' (uq c1), (uq HK2).cell' (uq c2), (uq HK2).cell' (uq c3), (uq HK2).cell' (uq c5)⟩
      clear hK K
      try simp only [Act.put, Ya, Yb, Yc]
      refine tkk 8 6 hHeld ?_; try simp only [Act.put, Ya, Yb, Yc]
      refine wpAnyH_done (by kernel_rfl) ?_ _
      clear hHeld
      unfold flt
      go_wp2_with fail
      (refine ((uq Isw) _ _).mono ?_; rintro e w3 ⟨rfl, hk⟩; have HK3 := hide ((uq HK2).trans hk); clear hk)
      go_wp2_with fail
      go_ret
      have hres : pRow X most 117 2 body c r0 = .ok (c ++ [D.row 117 2 L], t :: r') := by
        show (match rw_ X most body [] r0 with | .error x => Except.error x | .ok (L, r') => .ok (c ++ [D.row 117 2 L], r')) = _
        rw [← uq HE, uq HEq, if_neg ht]
      rw [hres]
      have HI3 := (uq HI).keep (uq HK3)
      have hm := uq hcm
      subst hm
      exact post_ok rfl HI3.fr (by simp) HI3.rd (HI3.fin (uq HLo))
set_option maxHeartbeats 1000000 in
theorem make (a b : Option Addr) (X : ByteArray) (most : Int) (f : Value) (w : World) (hf : ∃ g xs ys, f = .func g xs ys) : Calls Tryz.prog 99 #[.pointer a, .string X, .int .i64 most, f, .pointer b] w fun e w' => e = .returned (.func (.func 108) #[] #[.pointer (some ⟨w.heap.size, 0, none⟩), .pointer (some ⟨w.heap.size + 1, 0, none⟩), .pointer (some ⟨w.heap.size + 1 + 1 + 1 + 1, 0, none⟩), .pointer (some ⟨w.heap.size + 1 + 1, 0, none⟩), .pointer (some ⟨w.heap.size + 1 + 1 + 1, 0, none⟩)]) ∧ w' = ((((w.alloc (.cells #[.pointer a] 81)).alloc (.cells #[.string X] 9)).alloc (.cells #[.int .i64 most] 3)).alloc (.cells #[f] 187)).alloc (.cells #[.pointer b] 188) := by
  obtain ⟨g, xs, ys, rfl⟩ := hf
  go_enter Tryz.func99, Tryz.ntmps99
  go_wp2
  go_ret
  exact ⟨rfl, rfl⟩
end RowR
theorem rowRow_any {E : Env} (X : List UInt8) (hX : X ≠ []) (most : Nat) (hmost : most ≤ 1000) (body : List Tok → Rs) {fT : FuncId} (hT : ThingM E.rb E.l E.ta E.cap fT 117 [.bool false, .slice none 0 0] body) (m b o : Nat) (hA : E.A m = (b, o)) (w : World) (hS : ∀ b, E.S b → b < w.heap.size) (hLo : E.lo ≤ w.heap.size) :
    Calls Tryz.prog 99 #[.pointer (some ⟨E.rb, 0, none⟩), .string (sv X), .int .i64 (most : Int), .func (.func fT) #[.pointer (some ⟨E.rb, 0, none⟩)] #[], .pointer (some ⟨b, o, none⟩)] w (Mk E m [dN] (pRow X most 117 2 body) w) := by
  refine (RowR.make _ _ _ _ _ w ⟨_, _, _, rfl⟩).mono ?_
  rintro e w' ⟨rfl, rfl⟩
  obtain ⟨b1, b2, b3, b4, b5⟩ := five_boxes E w (.pointer (some ⟨E.rb, 0, none⟩)) (.string (sv X)) (.int .i64 (most : Int)) (.func (.func fT) #[.pointer (some ⟨E.rb, 0, none⟩)] #[]) (.pointer (some ⟨b, o, none⟩)) 81 9 3 187 188 hS
  have hk := five_keep w (.cells #[.pointer (some ⟨E.rb, 0, none⟩)] 81) (.cells #[.string (sv X)] 9) (.cells #[.int .i64 (most : Int)] 3) (.cells #[.func (.func fT) #[.pointer (some ⟨E.rb, 0, none⟩)] #[]] 187) (.cells #[.pointer (some ⟨b, o, none⟩)] 188)
  exact ⟨_, _, _, rfl, hk, ⟨_, _, _, rfl, fun xs w => by kernel_rfl, fun w2 c rest r hf hc hr hl => RowR.core E _ _ _ _ _ b o m most fT X body c rest w2 r (hide (b1.fr hf)) (hide (b2.fr hf)) (hide (b5.fr hf)) (hide (b3.fr hf)) (hide (b4.fr hf)) (hide hA) (hide (Bx.hs (hs_keep hS hk) hf)) (hide (Nat.le_trans (lo_keep hLo hk) hf.size)) (hide hc) (hide hr) (hide hl) (hide hT.2.2) (hide hT.2.1) (hide hT.1) hmost (hide hX)⟩⟩
end Go.Proofs.YtmplckdpddmifaaGreatDoor
namespace Go.Proofs.YtmplckdpddmifaaGreatDoor
open Go.RowKit
attribute [local go_sem ↓] Go.wp_at_zero Go.wp_at_succ
set_option linter.unusedVariables false
set_option linter.unusedSimpArgs false
set_option maxRecDepth 10000
namespace GroupR
theorem info0 : (Tryz.prog.info? 109).map (fun i => (i.zero, i.size, i.bytes)) = some (some (.agg #[.slice none 0 0]), 1, 24) := by kernel_rfl
theorem parts {vs : List Value} (h : vs.length = 1) : ∃ u0, vs = [u0] := by
  match vs, h with
  | [u0], _ => exact ⟨u0, rfl⟩
set_option maxHeartbeats 8000000 in
theorem core (E : Env) (g0 g1 g2 g3 g4 b o m most : Nat) (fT : FuncId) (X : List UInt8) (body : List Tok → Rs) (c rest : List D) (w : World) (r0 : List Tok)
    (B0 : Hid (Bx E w g0 (.pointer (some ⟨E.rb, 0, none⟩)))) (B1 : Hid (Bx E w g1 (.string (sv X)))) (B2 : Hid (Bx E w g2 (.pointer (some ⟨b, o, none⟩)))) (B3 : Hid (Bx E w g3 (.int .i64 (most : Int)))) (B4 : Hid (Bx E w g4 (.func (.func fT) #[.pointer (some ⟨E.rb, 0, none⟩)] #[])))
    (A0 : Hid (E.A m = (b, o))) (HS : Hid (∀ b, E.S b → b < w.heap.size)) (HLo : Hid (E.lo ≤ w.heap.size)) (hcm : Hid (c.length = m)) (HR : Hid (Rdr E w r0)) (HL : Hid (Cel E w (c ++ [dN] ++ rest)))
    (HT : Hid (Thing E.rb E.l E.ta E.cap fT 109 [.slice none 0 0] body)) (HM : Hid (Mon body)) (hent : Hid (Ent fT)) (hmost : most ≤ 1000) (hX : Hid (X ≠ [])) :
    Calls Tryz.prog 98 #[.pointer (some ⟨g0, 0, none⟩), .pointer (some ⟨g1, 0, none⟩), .pointer (some ⟨g2, 0, none⟩), .pointer (some ⟨g3, 0, none⟩), .pointer (some ⟨g4, 0, none⟩)] w (Post E w rest (m + 1) (pRow X most 109 1 body c r0)) := by
  obtain ⟨i0, hi, hz0, hz1, hz2⟩ := info_parts info0
  have HI0 := hide hi
  have HZ0 := hide hz0
  have HZ1 := hide hz1
  have HZ2 := hide hz2
  clear hi hz0 hz1 hz2
  have HCM := hcm
  have Isn := hide is_nil
  have Isw := hide is_want
  have Isl := hide is_long
  go_enter Tryz.func98, Tryz.ntmps98
  go_wp2_with fail
  go_loopw [5] (fun u5 wr => ∃ (L : List (List D)) (r : List Tok) (v : Value), Hid (RowI E w m (c ++ [dN] ++ rest) 109 1 wr L r v) ∧ Hid (rw_ X most body L r = rw_ X most body [] r0) ∧ Hid (L.length ≤ most)) (fun _ wr => 70001 - rk E.rb wr)
  case atStart => exact ⟨[], r0, .slice none 0 0, hide (by rw [← uq hcm]; exact RowI.start (uq HR) (uq HL)), hide rfl, hide (Nat.zero_le _)⟩
  case round =>
    obtain ⟨L, r, v, HI, HE, HLn⟩ := hrel
    obtain ⟨t, r', rfl⟩ := r0_cons (uq HI).rd.1
    obtain ⟨av, cap, xs, rfl, hown⟩ := row_shape (uq HI).row
    have HOWN := hide hown
    clear hown
    obtain ⟨n, HN⟩ : ∃ n, Hid (L.length = n) := ⟨_, rfl⟩
    have hnm : n ≤ most := by have := uq HLn; have := uq HN; omega
    rw [uq HN] at HI HOWN
    have c0 := hide ((uq B0).fr (uq HI).fr).1
    have c1 := hide ((uq B1).fr (uq HI).fr).1
    have c2 := hide ((uq B2).fr (uq HI).fr).1
    have c3 := hide ((uq B3).fr (uq HI).fr).1
    have c4 := hide ((uq B4).fr (uq HI).fr).1
    have c5 : Hid (wr.cell? ⟨b, o, none⟩ = some (.slice av n cap)) := hide (by have := (uq HI).cel; rw [uq A0] at this; exact this)
    have HR0 := hide (uq HI).rd.1
    have HEq := hide (rw_cons X most body (uq HM) L t r')
    by_cases ht : t.s = X
    · have hne : ((sv t.s).toList == (sv X).toList) = true := by rw [svl, svl, ht]; simp
      have HTS := hide ht
      clear ht
      by_cases hn : n = most
      · have HNE := hide hn
        clear hn
        go_wp2_with fail
        refine wp_region_held_drew (S := fun w' => w'.cell? ⟨g0, 0, none⟩ = some (.pointer (some ⟨E.rb, 0, none⟩)) ∧ w'.cell? ⟨g1, 0, none⟩ = some (.string (sv X)) ∧ w'.cell? ⟨g2, 0, none⟩ = some (.pointer (some ⟨b, o, none⟩)) ∧ w'.cell? ⟨g3, 0, none⟩ = some (.int .i64 (most : Int)) ∧ w'.cell? ⟨b, o, none⟩ = some (.slice av n cap)) (by kernel_rfl) (by exact ⟨uq c0, uq c1, uq c2, uq c3, uq c5⟩) (fun hHeld => ?_)
        refine tkk 0 9 hHeld ?_; try simp only [Act.put, Ya, Yb, Yc]
        refine tkk 1 10 hHeld ?_; try simp only [Act.put, Ya, Yb, Yc]
        refine tkk 2 11 hHeld ?_; try simp only [Act.put, Ya, Yb, Yc]
        refine tkk 3 12 hHeld ?_; try simp only [Act.put, Ya, Yb, Yc]
        refine tkk 4 13 hHeld ?_; try simp only [Act.put, Ya, Yb, Yc]
        refine tkk 5 14 hHeld ?_; try simp only [Act.put, Ya, Yb, Yc]
        refine tkk 6 15 hHeld ?_; try simp only [Act.put, Ya, Yb, Yc]
        refine rdyy 7 (fun K hK => ?_)
        go_simp
        clear hHeld
        (refine (more_long E.rb n most t.k t.n t.p (sv t.s) (sv X) _ hne (uq HNE) (hide (nowT ((uq HR0).keep (Keep.refl _).drew))) (hide (wrongT ((uq HR0).keep (Keep.refl _).drew)))).mono ?_; rintro e w2 ⟨rfl, hk⟩; have HK2 := hide (Keep.trans (Keep.refl wr).drew hk); clear hk)
        try go_wp2_with fail
        refine hK.out _ _ ?_ (fun hHeld => ?_)
        · exact ⟨(uq HK2).cell' (uq c0), (uq HK2).cell' (uq c1), (uq HK2).cell' (uq c2), (uq HK2).cell' (uq c3), (uq HK2).cell' (uq c5)⟩
        clear hK K
        try simp only [Act.put, Ya, Yb, Yc]
        refine tkk 8 6 hHeld ?_; try simp only [Act.put, Ya, Yb, Yc]
        refine wpAnyH_done (by kernel_rfl) ?_ _
        clear hHeld
        unfold flt
        go_wp2_with fail
        (refine ((uq Isl) _ _).mono ?_; rintro e w3 ⟨rfl, hk⟩; have HK3 := hide ((uq HK2).trans hk); clear hk)
        go_wp2_with fail
        go_ret
        have hres : pRow X most 109 1 body c r0 = .error (4, t.p) := by
          show (match rw_ X most body [] r0 with | .error x => Except.error x | .ok (L, r') => .ok (c ++ [D.row 109 1 L], r')) = _
          rw [← uq HE, uq HEq, if_pos (uq HTS), if_pos (by rw [uq HN]; exact uq HNE)]
        rw [hres]
        exact ⟨(uq HI).fr.trans (.keep (uq HK3)), rfl⟩
      · have hnb : ((n : Int) == (most : Int)) = false := by simp; omega
        have HNN := hide hn
        clear hn
        obtain ⟨k, k1, k2, k3⟩ := (uq HR0).at (.inr (by rw [uq HTS]; exact uq hX))
        have HK1 := hide k1
        have HK2c := hide k2
        have HK3c := hide k3
        clear k1 k2 k3
        go_wp2_with fail
        refine wp_region_held_drew (S := fun w' => w'.cell? ⟨g0, 0, none⟩ = some (.pointer (some ⟨E.rb, 0, none⟩)) ∧ w'.cell? ⟨g1, 0, none⟩ = some (.string (sv X)) ∧ w'.cell? ⟨g2, 0, none⟩ = some (.pointer (some ⟨b, o, none⟩)) ∧ w'.cell? ⟨g3, 0, none⟩ = some (.int .i64 (most : Int)) ∧ w'.cell? ⟨b, o, none⟩ = some (.slice av n cap)) (by kernel_rfl) (by exact ⟨uq c0, uq c1, uq c2, uq c3, uq c5⟩) (fun hHeld => ?_)
        refine tkk 0 9 hHeld ?_; try simp only [Act.put, Ya, Yb, Yc]
        refine tkk 1 10 hHeld ?_; try simp only [Act.put, Ya, Yb, Yc]
        refine tkk 2 11 hHeld ?_; try simp only [Act.put, Ya, Yb, Yc]
        refine tkk 3 12 hHeld ?_; try simp only [Act.put, Ya, Yb, Yc]
        refine tkk 4 13 hHeld ?_; try simp only [Act.put, Ya, Yb, Yc]
        refine tkk 5 14 hHeld ?_; try simp only [Act.put, Ya, Yb, Yc]
        refine tkk 6 15 hHeld ?_; try simp only [Act.put, Ya, Yb, Yc]
        refine rdyy 7 (fun K hK => ?_)
        go_simp
        clear hHeld
        (refine (more_yes E.rb n most k t.k t.n t.p (sv t.s) (sv X) _ hne hnb (hide (nowT ((uq HR0).keep (Keep.refl _).drew))) (hide fun w' a b hk x1 x2 => the_yes E.rb a b k t.k t.n t.p (sv t.s) (sv X) w' hne (uq HK1) x1 x2 (Keep.cell' (Keep.trans (Keep.refl wr).drew hk) (uq HK2c)) (Keep.frozen' (Keep.trans (Keep.refl wr).drew hk) (uq HK2c) (uq HK3c)) (hide (nowT ((uq HR0).keep (Keep.trans (Keep.refl wr).drew hk)))))).mono ?_; rintro e w9 ⟨rfl, w2, hk, rfl⟩; have HK2 := hide (Keep.trans (Keep.refl wr).drew hk); clear hk; have HIr : Hid (RowI E w m (c ++ [dN] ++ rest) 109 1 (w2.setCell ⟨E.rb, 1, none⟩ (.int .i64 ((k + 1 : Nat) : Int))) L r' (.slice av n cap)) := hide (((uq HI).keep (uq HK2)).move ((Fr.refl _ _).set _ _ rfl) (((uq HR0).keep (uq HK2)).next (.inr (by rw [uq HTS]; exact uq hX)) (uq HI).rd.apart ((uq HK2).cell' (uq HK2c)))); have HFr : Hid (Fr (fun b => b = E.rb) wr (w2.setCell ⟨E.rb, 1, none⟩ (.int .i64 ((k + 1 : Nat) : Int)))) := hide ((Fr.keep (uq HK2)).set _ _ rfl); generalize w2.setCell ⟨E.rb, 1, none⟩ (.int .i64 ((k + 1 : Nat) : Int)) = w3 at HIr HFr ⊢; have d0 := hide ((uq B0).fr (uq HIr).fr).1; have d1 := hide ((uq B1).fr (uq HIr).fr).1; have d2 := hide ((uq B2).fr (uq HIr).fr).1; have d3 := hide ((uq B3).fr (uq HIr).fr).1; have d4 := hide ((uq B4).fr (uq HIr).fr).1; have d5 : Hid (w3.cell? ⟨b, o, none⟩ = some (.slice av n cap)) := hide (by have := (uq HIr).cel; rw [uq A0] at this; exact this))
        try go_wp2_with fail
        refine hK.out _ _ ?_ (fun hHeld => ?_)
        · exact ⟨uq d0, uq d1, uq d2, uq d3, uq d5⟩
        clear hK K
        try simp only [Act.put, Ya, Yb, Yc]
        refine tkk 8 6 hHeld ?_; try simp only [Act.put, Ya, Yb, Yc]
        refine wpAnyH_done (by kernel_rfl) ?_ _
        clear hHeld
        go_wp2_with fail
        (refine ((uq Isn) _ _).mono ?_; rintro e w3 ⟨rfl, rfl⟩)
        go_upto_region 7 with fail
        have HK4 := hide ((Keep.refl w3).alloc (.cells #[.slice none 0 0] 109))
        have hxb : Hid ((w3.alloc (.cells #[.slice none 0 0] 109)).heap[w3.heap.size]? = some (.cells #[.slice none 0 0] 109 (0, 0))) := hide (heap_alloc_new w3 _)
        have HSz : Hid ((w3.alloc (.cells #[.slice none 0 0] 109)).heap.size = w3.heap.size + 1) := hide (World.size_alloc _ _)
        generalize w3.alloc (.cells #[.slice none 0 0] 109) = w4 at HK4 hxb HSz ⊢
        obtain ⟨xb, HXB⟩ : ∃ xb, Hid (w3.heap.size = xb) := ⟨_, rfl⟩
        rw [uq HXB] at hxb HSz ⊢
        have e4 := (uq HK4).cell' (uq d4)
        have hent' := uq hent
        unfold Ent at hent'
        go_wp2_with fail
        have hthing := (uq HT) w4 xb r' ((uq HIr).rd.1.keep (uq HK4)) (Nat.lt_of_lt_of_le (Nat.lt_of_lt_of_le ((uq HS) _ (uq HR).2.2) (uq HIr).fr.size) (uq HK4).size) (uq hxb) (fun e => by have := (uq HS) _ (uq HR).2.2; have := (uq HIr).fr.size; have := uq HXB; omega) (fun e => by have := (uq HIr).ta; have := (uq HIr).fr.size; have := uq HXB; omega)
        refine hthing.mono ?_
        clear hthing
        rintro e w5 ⟨hf5, hp5⟩
        have HF5 := hide hf5
        have HFw : Hid (Fr (fun b => b = E.rb) w3 w5) := hide (Fr.inner (.keep (uq HK4)) hf5 (fun i hi hs => by have := uq HXB; rcases hs with hs | hs <;> omega))
        clear hf5
        cases hb : body r' with
        | error x =>
          rw [hb] at hp5
          obtain rfl : e = .returned (flt x) := hp5
          have hres : pRow X most 109 1 body c r0 = .error x := by
            show (match rw_ X most body [] r0 with | .error x => Except.error x | .ok (L, r') => .ok (c ++ [D.row 109 1 L], r')) = _
            rw [← uq HE, uq HEq, if_pos (uq HTS), if_neg (by rw [uq HN]; exact uq HNN), hb]
          have HRES := hide hres
          clear hb hres
          unfold flt
          go_wp2_with fail
          go_ret
          rw [uq HRES]
          exact ⟨(uq HIr).fr.inner (uq HFw) (fun i _ e => e ▸ (uq HR).2.2), rfl⟩
        | ok q =>
          obtain ⟨ds, r2⟩ := q
          rw [hb] at hp5
          obtain ⟨rfl, p2, p3, vs, p4, p5⟩ := hp5
          obtain ⟨u0, rfl⟩ := parts ((rds_length _ _ _ p5).trans p3)
          have HE2 : Hid (rw_ X most body (L ++ [ds]) r2 = rw_ X most body [] r0) := hide (by rw [← uq HE, uq HEq, if_pos (uq HTS), if_neg (by rw [uq HN]; exact uq HNN), hb])
          have HMo := hide ((uq HM) _ _ _ hb)
          have HI5 : Hid (RowI E w m (c ++ [dN] ++ rest) 109 1 w5.drew L r2 (.slice av n cap)) := hide (((uq HIr).move (uq HFw) p2).keep (Keep.refl _).drew)
          have HP5 : Hid (Rds w5.drew ds (fun b => xb + 1 ≤ b) [u0]) := hide (Rds.move ds _ _ _ p5 (fun b hb _ => ⟨rfl, by rw [uq HSz] at hb; exact hb⟩))
          have HON := hide (rds_one _ _ _ p5)
          have HP3 := hide p3
          have HRk := hide (rk_of (uq HI5).rd.1)
          have HRk0 := hide (rk_of (uq HR0))
          have x0 : Hid (w5.drew.cell? ⟨xb, 0, none⟩ = some u0) := hide (p4 0 _ rfl)
          have y2 : Hid (w5.drew.cell? ⟨g2, 0, none⟩ = some (.pointer (some ⟨b, o, none⟩))) := hide ((uq B2).fr (uq HI5).fr).1
          have y5 : Hid (w5.drew.cell? ⟨b, o, none⟩ = some (.slice av n cap)) := hide (by have := (uq HI5).cel; rw [uq A0] at this; exact this)
          have y6 : Hid (w5.drew.frozen? ⟨b, o, none⟩ = false) := hide (by have := (uq HI5).frz m (uq HI5).lt; rw [uq A0] at this; exact this)
          obtain ⟨av5, cap5, xs5, hsh5, hown5⟩ := row_shape (uq HI5).row
          clear hsh5
          rw [uq HN] at hown5
          have HOWN5 := hide hown5
          clear hown5 hb p2 p3 p4 p5 hent' e4
          have hbl : E.S b := by have := ((uq HI5).part (uq HI5).lt).2.1; rw [uq A0] at this; exact this
          have HBl := hide hbl
          have hnb2 : ∀ j, (Value.slice av n cap).ownBlock = some j → ¬ E.S j ∧ w.heap.size ≤ j ∧ j < xb := fun j ej => by
            have hr := (uq HI).row
            simp only [Rd] at hr
            obtain ⟨_, q1, q2, _⟩ := hr
            have q3 := q2 j ej
            have q4 := (q1.lt j ej).2
            have := (uq HFr).size
            have := uq HXB
            exact ⟨q3.1, q3.2, by omega⟩
          have HNB := hide hnb2
          have hg2b : Hid (b ≠ g2) := hide (fun e => (uq B2).2 (e ▸ hbl))
          have hxbb : Hid (b ≠ xb) := hide (fun e => by have := (uq HS) _ hbl; have := (uq HIr).fr.size; have := uq HXB; omega)
          clear hbl hnb2
          go_wp2_with fail
          refine wp_region_held_drew (S := fun w' => w'.cell? ⟨g2, 0, none⟩ = some (.pointer (some ⟨b, o, none⟩)) ∧ w'.cell? ⟨xb, 0, none⟩ = some u0) (by kernel_rfl) (by exact ⟨uq y2, uq x0⟩) (fun hHeld => ?_)
          refine tkk 0 28 hHeld ?_; try simp only [Act.put, Ya, Yb, Yc]
          refine tkk 1 29 hHeld ?_; try simp only [Act.put, Ya, Yb, Yc]
          refine tkk 2 30 hHeld ?_; try simp only [Act.put, Ya, Yb, Yc]
          refine tkk 4 32 hHeld ?_; try simp only [Act.put, Ya, Yb, Yc]
          generalize w5.drew = w6 at HI5 HP5 HRk x0 y2 y5 y6 HOWN5 ⊢
          have hold : ∀ w', Keep w6 w' → w'.cell? ⟨g2, 0, none⟩ = some (.pointer (some ⟨b, o, none⟩)) ∧ w'.cell? ⟨xb, 0, none⟩ = some u0 := fun w' hk => ⟨hk.cell' (uq y2), hk.cell' (uq x0)⟩
          have HOLD := hide hold
          clear hold
          have z5 := uq y5
          have z5a : ∀ ob, (w6.alloc ob).cell? ⟨b, o, none⟩ = some (.slice av n cap) := fun ob => ((Keep.refl w6).alloc ob).cell' z5
          have Z5 := hide z5a
          clear z5a
          refine wpAnyH_ready (rs := [3, 5]) (by kernel_rfl) (by simp) ?_
          refine AllReadyH.cons rfl (fun K hK => ?_) (AllReadyH.cons rfl (fun K hK => ?_) AllReadyH.nil)
          · skip
            go_simp
            clear hHeld
            refine hK.out _ _ ?_ (fun hHeld => ?_)
            · exact (uq HOLD) _ (Keep.refl _)
            clear hK K
            try simp only [Act.put, Ya, Yb, Yc]
            refine rdyy 5 (fun K hK => ?_)
            go_simp
            clear hHeld
            refine hK.out _ _ ?_ (fun hHeld => ?_)
            · exact (uq HOLD) _ ((Keep.refl _).alloc _)
            clear hK K
            try simp only [Act.put, Ya, Yb, Yc]
            refine wpAnyH_ready (rs := [6]) (by kernel_rfl) (by simp) ?_
            refine AllReadyH.cons rfl (fun K hK => ?_) AllReadyH.nil
            refine wp_append_at _ _ _ rfl 0 109 i0 _ 1 24 Tryz.underlying58 (uq HI0) (uq HZ0) (uq HZ1) (uq HZ2) rfl (by decide) _ _ _ rfl ((uq HOWN5).alloc _) ⟨w6.heap.size, 0, none⟩ 1 1 [u0] rfl rfl (new_cells w6 [u0] 109) (uq HON) (by unfold maxLen; omega) (by omega) (Nat.zero_le _) ?_
            intro v' w7 hown' hgrow hat
            obtain ⟨g', cp', rfl⟩ := own_succ hown'
            have HOWN' := hide hown'
            have HGROW := hide hgrow
            have HAT := hide hat
            clear hown' hgrow hat
            have HSt : Hid (∀ q, (q < w6.heap.size ∧ ∀ j, (Value.slice av n cap).ownBlock = some j → j ≠ q) → w7.heap[q]? = w6.heap[q]?) := hide (fun q hq => by rw [(uq HGROW).block q (by rw [World.size_alloc]; omega) (fun e => hq.2 q e.symm rfl)]; exact heap_alloc_old w6 _ hq.1)
            have HSt2 : Hid (w7.cell? ⟨g2, 0, none⟩ = some (.pointer (some ⟨b, o, none⟩)) ∧ w7.cell? ⟨xb, 0, none⟩ = some u0) := hide (by
              have hg2 : w7.heap[g2]? = w6.heap[g2]? := (uq HSt) g2 ⟨cell_lt (uq y2), fun j ej e => by have := ((uq HNB) j ej).2.1; have := cell_lt (uq B2).1; simp at this; omega⟩
              have hx2 : w7.heap[xb]? = w6.heap[xb]? := (uq HSt) xb ⟨cell_lt (uq x0), fun j ej e => by have := ((uq HNB) j ej).2.2; omega⟩
              exact ⟨(cell_of (a := ⟨g2, 0, none⟩) hg2).trans (uq y2), (cell_of (a := ⟨xb, 0, none⟩) hx2).trans (uq x0)⟩)
            have hb7 : w7.heap[b]? = w6.heap[b]? := (uq HSt) b ⟨cell_lt (uq y5), fun j ej e => ((uq HNB) j ej).1 (e ▸ uq HBl)⟩
            have b5 : w7.cell? ⟨b, o, none⟩ = some (.slice av n cap) := (cell_of (a := ⟨b, o, none⟩) hb7).trans (uq y5)
            have b6 : w7.frozen? ⟨b, o, none⟩ = false := (World.frozen?_of_block (a := ⟨b, o, none⟩) hb7).trans (uq y6)
            clear hb7
            refine hK.out _ _ ?_ (fun hHeld => ?_)
            · exact uq HSt2
            clear hK K
            try simp only [Act.put, List.setIfInBounds_toArray, List.set_cons_zero, List.set_cons_succ]
            refine tkk 7 35 hHeld ?_; try simp only [Act.put, Ya, Yb, Yc]
            refine rdyy 8 (fun K hK => ?_)
            go_simp
            clear hHeld
            refine hK.out _ _ ?_ (fun hHeld => ?_)
            · exact ⟨(set_far w7 ⟨b, o, none⟩ ⟨g2, 0, none⟩ _ (uq hg2b)).trans (uq HSt2).1, (set_far w7 ⟨b, o, none⟩ ⟨xb, 0, none⟩ _ (uq hxbb)).trans (uq HSt2).2⟩
            clear hK K
            try simp only [Act.put, Ya, Yb, Yc]
            refine wpAnyH_done (by kernel_rfl) ?_ _
            clear hHeld
            go_wp2_with fail
            go_roundw
            case rel =>
              refine ⟨L ++ [ds], r2, .slice (some ⟨g', 0, none⟩) (n + 1) cp', hide ?_, HE2, hide (by rw [List.length_append]; have := uq HN; have := uq HNN; simp; omega)⟩
              have h9 := (uq HI5).app (w3 := w7) (o := .cells #[u0] 109) (v' := .slice (some ⟨g', 0, none⟩) (n + 1) cp') (xs := xs5) (vs := [u0]) (B := xb + 1) (uq HS) (fun g eg => by have := ((uq HNB) g eg).2.2; omega) (by have := (uq HIr).fr.size; have := uq HXB; omega) (uq HP5) (uq HP3) (by rw [uq HN]; exact uq HOWN5) (by rw [uq HN]; exact uq HOWN') (uq HGROW) (uq HAT)
              rw [uq A0] at h9
              exact h9
            case measure =>
              have e9 : rk E.rb (w7.setCell ⟨b, o, none⟩ (.slice (some ⟨g', 0, none⟩) (n + 1) cp')) = rk E.rb w6 := by
                unfold rk
                have hrb : w7.heap[E.rb]? = w6.heap[E.rb]? := (uq HSt) _ ⟨Nat.lt_of_lt_of_le ((uq HS) _ (uq HR).2.2) (uq HI5).fr.size, fun j ej e => ((uq HNB) j ej).1 (e ▸ (uq HR).2.2)⟩
                rw [set_far _ _ _ _ (by have := ((uq HI5).part (uq HI5).lt).2.2.1; rw [uq A0] at this; exact this), cell_of (a := ⟨E.rb, 1, none⟩) hrb]
              have q1 := uq HRk
              have q2 := uq HRk0
              have q3 := uq HMo
              simp only [List.length_cons] at q2
              first
              | (rw [e9]; omega)
              | (show 70001 - rk E.rb (w7.setCell ⟨b, o, none⟩ (.slice (some ⟨g', 0, none⟩) (n + 1) cp')) < _; rw [e9]; omega)
          · skip
            go_simp
            clear hHeld
            refine hK.out _ _ ?_ (fun hHeld => ?_)
            · exact (uq HOLD) _ ((Keep.refl _).alloc _)
            clear hK K
            try simp only [Act.put, Ya, Yb, Yc]
            have z5a := uq Z5
            clear z5
            refine rdyy 3 (fun K hK => ?_)
            go_simp
            clear hHeld
            refine hK.out _ _ ?_ (fun hHeld => ?_)
            · exact (uq HOLD) _ ((Keep.refl _).alloc _)
            clear hK K
            try simp only [Act.put, Ya, Yb, Yc]
            refine wpAnyH_ready (rs := [6]) (by kernel_rfl) (by simp) ?_
            refine AllReadyH.cons rfl (fun K hK => ?_) AllReadyH.nil
            refine wp_append_at _ _ _ rfl 0 109 i0 _ 1 24 Tryz.underlying58 (uq HI0) (uq HZ0) (uq HZ1) (uq HZ2) rfl (by decide) _ _ _ rfl ((uq HOWN5).alloc _) ⟨w6.heap.size, 0, none⟩ 1 1 [u0] rfl rfl (new_cells w6 [u0] 109) (uq HON) (by unfold maxLen; omega) (by omega) (Nat.zero_le _) ?_
            intro v' w7 hown' hgrow hat
            obtain ⟨g', cp', rfl⟩ := own_succ hown'
            have HOWN' := hide hown'
            have HGROW := hide hgrow
            have HAT := hide hat
            clear hown' hgrow hat
            have HSt : Hid (∀ q, (q < w6.heap.size ∧ ∀ j, (Value.slice av n cap).ownBlock = some j → j ≠ q) → w7.heap[q]? = w6.heap[q]?) := hide (fun q hq => by rw [(uq HGROW).block q (by rw [World.size_alloc]; omega) (fun e => hq.2 q e.symm rfl)]; exact heap_alloc_old w6 _ hq.1)
            have HSt2 : Hid (w7.cell? ⟨g2, 0, none⟩ = some (.pointer (some ⟨b, o, none⟩)) ∧ w7.cell? ⟨xb, 0, none⟩ = some u0) := hide (by
              have hg2 : w7.heap[g2]? = w6.heap[g2]? := (uq HSt) g2 ⟨cell_lt (uq y2), fun j ej e => by have := ((uq HNB) j ej).2.1; have := cell_lt (uq B2).1; simp at this; omega⟩
              have hx2 : w7.heap[xb]? = w6.heap[xb]? := (uq HSt) xb ⟨cell_lt (uq x0), fun j ej e => by have := ((uq HNB) j ej).2.2; omega⟩
              exact ⟨(cell_of (a := ⟨g2, 0, none⟩) hg2).trans (uq y2), (cell_of (a := ⟨xb, 0, none⟩) hx2).trans (uq x0)⟩)
            have hb7 : w7.heap[b]? = w6.heap[b]? := (uq HSt) b ⟨cell_lt (uq y5), fun j ej e => ((uq HNB) j ej).1 (e ▸ uq HBl)⟩
            have b5 : w7.cell? ⟨b, o, none⟩ = some (.slice av n cap) := (cell_of (a := ⟨b, o, none⟩) hb7).trans (uq y5)
            have b6 : w7.frozen? ⟨b, o, none⟩ = false := (World.frozen?_of_block (a := ⟨b, o, none⟩) hb7).trans (uq y6)
            clear hb7
            refine hK.out _ _ ?_ (fun hHeld => ?_)
            · exact uq HSt2
            clear hK K
            try simp only [Act.put, List.setIfInBounds_toArray, List.set_cons_zero, List.set_cons_succ]
            refine tkk 7 35 hHeld ?_; try simp only [Act.put, Ya, Yb, Yc]
            refine rdyy 8 (fun K hK => ?_)
            go_simp
            clear hHeld
            refine hK.out _ _ ?_ (fun hHeld => ?_)
            · exact ⟨(set_far w7 ⟨b, o, none⟩ ⟨g2, 0, none⟩ _ (uq hg2b)).trans (uq HSt2).1, by rw [set_far _ _ _ _ (fun e => absurd ((uq HS) _ (uq HBl)) (by have := (uq HIr).fr.size; have := uq HXB; simp at e; omega))]; exact (uq HSt2).2⟩
            clear hK K
            try simp only [Act.put, Ya, Yb, Yc]
            refine wpAnyH_done (by kernel_rfl) ?_ _
            clear hHeld
            go_wp2_with fail
            go_roundw
            case rel =>
              refine ⟨L ++ [ds], r2, .slice (some ⟨g', 0, none⟩) (n + 1) cp', hide ?_, HE2, hide (by rw [List.length_append]; have := uq HN; have := uq HNN; simp; omega)⟩
              have h9 := (uq HI5).app (w3 := w7) (o := .cells #[u0] 109) (v' := .slice (some ⟨g', 0, none⟩) (n + 1) cp') (xs := xs5) (vs := [u0]) (B := xb + 1) (uq HS) (fun g eg => by have := ((uq HNB) g eg).2.2; omega) (by have := (uq HIr).fr.size; have := uq HXB; omega) (uq HP5) (uq HP3) (by rw [uq HN]; exact uq HOWN5) (by rw [uq HN]; exact uq HOWN') (uq HGROW) (uq HAT)
              rw [uq A0] at h9
              exact h9
            case measure =>
              have e9 : rk E.rb (w7.setCell ⟨b, o, none⟩ (.slice (some ⟨g', 0, none⟩) (n + 1) cp')) = rk E.rb w6 := by
                unfold rk
                have hrb : w7.heap[E.rb]? = w6.heap[E.rb]? := (uq HSt) _ ⟨Nat.lt_of_lt_of_le ((uq HS) _ (uq HR).2.2) (uq HI5).fr.size, fun j ej e => ((uq HNB) j ej).1 (e ▸ (uq HR).2.2)⟩
                rw [set_far _ _ _ _ (by have := ((uq HI5).part (uq HI5).lt).2.2.1; rw [uq A0] at this; exact this), cell_of (a := ⟨E.rb, 1, none⟩) hrb]
              have q1 := uq HRk
              have q2 := uq HRk0
              have q3 := uq HMo
              simp only [List.length_cons] at q2
              first
              | (rw [e9]; omega)
              | (show 70001 - rk E.rb (w7.setCell ⟨b, o, none⟩ (.slice (some ⟨g', 0, none⟩) (n + 1) cp')) < _; rw [e9]; omega)
    · go_wp2_with fail
      refine wp_region_held_drew (S := fun w' => w'.cell? ⟨g0, 0, none⟩ = some (.pointer (some ⟨E.rb, 0, none⟩)) ∧ w'.cell? ⟨g1, 0, none⟩ = some (.string (sv X)) ∧ w'.cell? ⟨g2, 0, none⟩ = some (.pointer (some ⟨b, o, none⟩)) ∧ w'.cell? ⟨g3, 0, none⟩ = some (.int .i64 (most : Int)) ∧ w'.cell? ⟨b, o, none⟩ = some (.slice av n cap)) (by kernel_rfl) (by exact ⟨uq c0, uq c1, uq c2, uq c3, uq c5⟩) (fun hHeld => ?_)
      refine tkk 0 9 hHeld ?_; try simp only [Act.put, Ya, Yb, Yc]
      refine tkk 1 10 hHeld ?_; try simp only [Act.put, Ya, Yb, Yc]
      refine tkk 2 11 hHeld ?_; try simp only [Act.put, Ya, Yb, Yc]
      refine tkk 3 12 hHeld ?_; try simp only [Act.put, Ya, Yb, Yc]
      refine tkk 4 13 hHeld ?_; try simp only [Act.put, Ya, Yb, Yc]
      refine tkk 5 14 hHeld ?_; try simp only [Act.put, Ya, Yb, Yc]
      refine tkk 6 15 hHeld ?_; try simp only [Act.put, Ya, Yb, Yc]
      refine rdyy 7 (fun K hK => ?_)
      go_simp
      clear hHeld
      (refine (more_no E.rb n most t.k t.n t.p (sv t.s) (sv X) _ (by rw [svl, svl]; simpa using ht) (hide (nowT ((uq HR0).keep (Keep.refl _).drew))) (hide fun w' a b hk x1 x2 => the_no E.rb a b t.k t.n t.p (sv t.s) (sv X) w' (by rw [svl, svl]; simpa using ht) x1 x2 (hide (nowT ((uq HR0).keep (Keep.trans (Keep.refl wr).drew hk)))) (hide (wrongT ((uq HR0).keep (Keep.trans (Keep.refl wr).drew hk)))))).mono ?_; rintro e w2 ⟨rfl, hk⟩; have HK2 := hide (Keep.trans (Keep.refl wr).drew hk); clear hk)
      try go_wp2_with fail
      refine hK.out _ _ ?_ (fun hHeld => ?_)
      · exact ⟨(uq HK2).cell' (uq c0), (uq HK2).cell' (uq c1), (uq HK2).cell' (uq c2), (uq HK2).cell' (uq c3), (uq HK2).cell' (uq c5)⟩
      clear hK K
      try simp only [Act.put, Ya, Yb, Yc]
      refine tkk 8 6 hHeld ?_; try simp only [Act.put, Ya, Yb, Yc]
      refine wpAnyH_done (by kernel_rfl) ?_ _
      clear hHeld
      unfold flt
      go_wp2_with fail
      (refine ((uq Isw) _ _).mono ?_; rintro e w3 ⟨rfl, hk⟩; have HK3 := hide ((uq HK2).trans hk); clear hk)
      go_wp2_with fail
      go_ret
      have hres : pRow X most 109 1 body c r0 = .ok (c ++ [D.row 109 1 L], t :: r') := by
        show (match rw_ X most body [] r0 with | .error x => Except.error x | .ok (L, r') => .ok (c ++ [D.row 109 1 L], r')) = _
        rw [← uq HE, uq HEq, if_neg ht]
      rw [hres]
      have HI3 := (uq HI).keep (uq HK3)
      have hm := uq hcm
      subst hm
      exact post_ok rfl HI3.fr (by simp) HI3.rd (HI3.fin (uq HLo))
set_option maxHeartbeats 1000000 in
theorem make (a b : Option Addr) (X : ByteArray) (most : Int) (f : Value) (w : World) (hf : ∃ g xs ys, f = .func g xs ys) : Calls Tryz.prog 78 #[.pointer a, .string X, .int .i64 most, f, .pointer b] w fun e w' => e = .returned (.func (.func 98) #[] #[.pointer (some ⟨w.heap.size, 0, none⟩), .pointer (some ⟨w.heap.size + 1, 0, none⟩), .pointer (some ⟨w.heap.size + 1 + 1 + 1 + 1, 0, none⟩), .pointer (some ⟨w.heap.size + 1 + 1, 0, none⟩), .pointer (some ⟨w.heap.size + 1 + 1 + 1, 0, none⟩)]) ∧ w' = ((((w.alloc (.cells #[.pointer a] 81)).alloc (.cells #[.string X] 9)).alloc (.cells #[.int .i64 most] 3)).alloc (.cells #[f] 165)).alloc (.cells #[.pointer b] 166) := by
  obtain ⟨g, xs, ys, rfl⟩ := hf
  go_enter Tryz.func78, Tryz.ntmps78
  go_wp2
  go_ret
  exact ⟨rfl, rfl⟩
end GroupR
theorem rowGroup_any {E : Env} (X : List UInt8) (hX : X ≠ []) (most : Nat) (hmost : most ≤ 1000) (body : List Tok → Rs) {fT : FuncId} (hT : ThingM E.rb E.l E.ta E.cap fT 109 [.slice none 0 0] body) (m b o : Nat) (hA : E.A m = (b, o)) (w : World) (hS : ∀ b, E.S b → b < w.heap.size) (hLo : E.lo ≤ w.heap.size) :
    Calls Tryz.prog 78 #[.pointer (some ⟨E.rb, 0, none⟩), .string (sv X), .int .i64 (most : Int), .func (.func fT) #[.pointer (some ⟨E.rb, 0, none⟩)] #[], .pointer (some ⟨b, o, none⟩)] w (Mk E m [dN] (pRow X most 109 1 body) w) := by
  refine (GroupR.make _ _ _ _ _ w ⟨_, _, _, rfl⟩).mono ?_
  rintro e w' ⟨rfl, rfl⟩
  obtain ⟨b1, b2, b3, b4, b5⟩ := five_boxes E w (.pointer (some ⟨E.rb, 0, none⟩)) (.string (sv X)) (.int .i64 (most : Int)) (.func (.func fT) #[.pointer (some ⟨E.rb, 0, none⟩)] #[]) (.pointer (some ⟨b, o, none⟩)) 81 9 3 165 166 hS
  have hk := five_keep w (.cells #[.pointer (some ⟨E.rb, 0, none⟩)] 81) (.cells #[.string (sv X)] 9) (.cells #[.int .i64 (most : Int)] 3) (.cells #[.func (.func fT) #[.pointer (some ⟨E.rb, 0, none⟩)] #[]] 165) (.cells #[.pointer (some ⟨b, o, none⟩)] 166)
  exact ⟨_, _, _, rfl, hk, ⟨_, _, _, rfl, fun xs w => by kernel_rfl, fun w2 c rest r hf hc hr hl => GroupR.core E _ _ _ _ _ b o m most fT X body c rest w2 r (hide (b1.fr hf)) (hide (b2.fr hf)) (hide (b5.fr hf)) (hide (b3.fr hf)) (hide (b4.fr hf)) (hide hA) (hide (Bx.hs (hs_keep hS hk) hf)) (hide (Nat.le_trans (lo_keep hLo hk) hf.size)) (hide hc) (hide hr) (hide hl) (hide hT.2.2) (hide hT.2.1) (hide hT.1) hmost (hide hX)⟩⟩
end Go.Proofs.YtmplckdpddmifaaGreatDoor
namespace Go.Proofs.YtmplckdpddmifaaGreatDoor
open Go.RowKit
attribute [local go_sem ↓] Go.wp_at_zero Go.wp_at_succ
set_option linter.unusedVariables false
set_option linter.unusedSimpArgs false
set_option maxRecDepth 10000
namespace FoeR
theorem info0 : (Tryz.prog.info? 112).map (fun i => (i.zero, i.size, i.bytes)) = some (some (.agg #[.string ⟨#[]⟩, .string ⟨#[]⟩, .int .i64 0]), 3, 40) := by kernel_rfl
theorem parts {vs : List Value} (h : vs.length = 3) : ∃ u0 u1 u2, vs = [u0, u1, u2] := by
  match vs, h with
  | [u0, u1, u2], _ => exact ⟨u0, u1, u2, rfl⟩
set_option maxHeartbeats 8000000 in
theorem core (E : Env) (g0 g1 g2 g3 g4 b o m most : Nat) (fT : FuncId) (X : List UInt8) (body : List Tok → Rs) (c rest : List D) (w : World) (r0 : List Tok)
    (B0 : Hid (Bx E w g0 (.pointer (some ⟨E.rb, 0, none⟩)))) (B1 : Hid (Bx E w g1 (.string (sv X)))) (B2 : Hid (Bx E w g2 (.pointer (some ⟨b, o, none⟩)))) (B3 : Hid (Bx E w g3 (.int .i64 (most : Int)))) (B4 : Hid (Bx E w g4 (.func (.func fT) #[.pointer (some ⟨E.rb, 0, none⟩)] #[])))
    (A0 : Hid (E.A m = (b, o))) (HS : Hid (∀ b, E.S b → b < w.heap.size)) (HLo : Hid (E.lo ≤ w.heap.size)) (hcm : Hid (c.length = m)) (HR : Hid (Rdr E w r0)) (HL : Hid (Cel E w (c ++ [dN] ++ rest)))
    (HT : Hid (Thing E.rb E.l E.ta E.cap fT 112 [.string ⟨#[]⟩, .string ⟨#[]⟩, .int .i64 0] body)) (HM : Hid (Mon body)) (hent : Hid (Ent fT)) (hmost : most ≤ 1000) (hX : Hid (X ≠ [])) :
    Calls Tryz.prog 102 #[.pointer (some ⟨g0, 0, none⟩), .pointer (some ⟨g1, 0, none⟩), .pointer (some ⟨g2, 0, none⟩), .pointer (some ⟨g3, 0, none⟩), .pointer (some ⟨g4, 0, none⟩)] w (Post E w rest (m + 1) (pRow X most 112 3 body c r0)) := by
  obtain ⟨i0, hi, hz0, hz1, hz2⟩ := info_parts info0
  have HI0 := hide hi
  have HZ0 := hide hz0
  have HZ1 := hide hz1
  have HZ2 := hide hz2
  clear hi hz0 hz1 hz2
  have HCM := hcm
  have Isn := hide is_nil
  have Isw := hide is_want
  have Isl := hide is_long
  go_enter Tryz.func102, Tryz.ntmps102
  go_wp2_with fail
  go_loopw [5] (fun u5 wr => ∃ (L : List (List D)) (r : List Tok) (v : Value), Hid (RowI E w m (c ++ [dN] ++ rest) 112 3 wr L r v) ∧ Hid (rw_ X most body L r = rw_ X most body [] r0) ∧ Hid (L.length ≤ most)) (fun _ wr => 70001 - rk E.rb wr)
  case atStart => exact ⟨[], r0, .slice none 0 0, hide (by rw [← uq hcm]; exact RowI.start (uq HR) (uq HL)), hide rfl, hide (Nat.zero_le _)⟩
  case round =>
    obtain ⟨L, r, v, HI, HE, HLn⟩ := hrel
    obtain ⟨t, r', rfl⟩ := r0_cons (uq HI).rd.1
    obtain ⟨av, cap, xs, rfl, hown⟩ := row_shape (uq HI).row
    have HOWN := hide hown
    clear hown
    obtain ⟨n, HN⟩ : ∃ n, Hid (L.length = n) := ⟨_, rfl⟩
    have hnm : n ≤ most := by have := uq HLn; have := uq HN; omega
    rw [uq HN] at HI HOWN
    have c0 := hide ((uq B0).fr (uq HI).fr).1
    have c1 := hide ((uq B1).fr (uq HI).fr).1
    have c2 := hide ((uq B2).fr (uq HI).fr).1
    have c3 := hide ((uq B3).fr (uq HI).fr).1
    have c4 := hide ((uq B4).fr (uq HI).fr).1
    have c5 : Hid (wr.cell? ⟨b, o, none⟩ = some (.slice av n cap)) := hide (by have := (uq HI).cel; rw [uq A0] at this; exact this)
    have HR0 := hide (uq HI).rd.1
    have HEq := hide (rw_cons X most body (uq HM) L t r')
    by_cases ht : t.s = X
    · have hne : ((sv t.s).toList == (sv X).toList) = true := by rw [svl, svl, ht]; simp
      have HTS := hide ht
      clear ht
      by_cases hn : n = most
      · have HNE := hide hn
        clear hn
        go_wp2_with fail
        refine wp_region_held_drew (S := fun w' => w'.cell? ⟨g0, 0, none⟩ = some (.pointer (some ⟨E.rb, 0, none⟩)) ∧ w'.cell? ⟨g1, 0, none⟩ = some (.string (sv X)) ∧ w'.cell? ⟨g2, 0, none⟩ = some (.pointer (some ⟨b, o, none⟩)) ∧ w'.cell? ⟨g3, 0, none⟩ = some (.int .i64 (most : Int)) ∧ w'.cell? ⟨b, o, none⟩ = some (.slice av n cap)) (by kernel_rfl) (by exact ⟨uq c0, uq c1, uq c2, uq c3, uq c5⟩) (fun hHeld => ?_)
        refine tkk 0 9 hHeld ?_; try simp only [Act.put, Ya, Yb, Yc]
        refine tkk 1 10 hHeld ?_; try simp only [Act.put, Ya, Yb, Yc]
        refine tkk 2 11 hHeld ?_; try simp only [Act.put, Ya, Yb, Yc]
        refine tkk 3 12 hHeld ?_; try simp only [Act.put, Ya, Yb, Yc]
        refine tkk 4 13 hHeld ?_; try simp only [Act.put, Ya, Yb, Yc]
        refine tkk 5 14 hHeld ?_; try simp only [Act.put, Ya, Yb, Yc]
        refine tkk 6 15 hHeld ?_; try simp only [Act.put, Ya, Yb, Yc]
        refine rdyy 7 (fun K hK => ?_)
        go_simp
        clear hHeld
        (refine (more_long E.rb n most t.k t.n t.p (sv t.s) (sv X) _ hne (uq HNE) (hide (nowT ((uq HR0).keep (Keep.refl _).drew))) (hide (wrongT ((uq HR0).keep (Keep.refl _).drew)))).mono ?_; rintro e w2 ⟨rfl, hk⟩; have HK2 := hide (Keep.trans (Keep.refl wr).drew hk); clear hk)
        try go_wp2_with fail
        refine hK.out _ _ ?_ (fun hHeld => ?_)
        · exact ⟨(uq HK2).cell' (uq c0), (uq HK2).cell' (uq c1), (uq HK2).cell' (uq c2), (uq HK2).cell' (uq c3), (uq HK2).cell' (uq c5)⟩
        clear hK K
        try simp only [Act.put, Ya, Yb, Yc]
        refine tkk 8 6 hHeld ?_; try simp only [Act.put, Ya, Yb, Yc]
        refine wpAnyH_done (by kernel_rfl) ?_ _
        clear hHeld
        unfold flt
        go_wp2_with fail
        (refine ((uq Isl) _ _).mono ?_; rintro e w3 ⟨rfl, hk⟩; have HK3 := hide ((uq HK2).trans hk); clear hk)
        go_wp2_with fail
        go_ret
        have hres : pRow X most 112 3 body c r0 = .error (4, t.p) := by
          show (match rw_ X most body [] r0 with | .error x => Except.error x | .ok (L, r') => .ok (c ++ [D.row 112 3 L], r')) = _
          rw [← uq HE, uq HEq, if_pos (uq HTS), if_pos (by rw [uq HN]; exact uq HNE)]
        rw [hres]
        exact ⟨(uq HI).fr.trans (.keep (uq HK3)), rfl⟩
      · have hnb : ((n : Int) == (most : Int)) = false := by simp; omega
        have HNN := hide hn
        clear hn
        obtain ⟨k, k1, k2, k3⟩ := (uq HR0).at (.inr (by rw [uq HTS]; exact uq hX))
        have HK1 := hide k1
        have HK2c := hide k2
        have HK3c := hide k3
        clear k1 k2 k3
        go_wp2_with fail
        refine wp_region_held_drew (S := fun w' => w'.cell? ⟨g0, 0, none⟩ = some (.pointer (some ⟨E.rb, 0, none⟩)) ∧ w'.cell? ⟨g1, 0, none⟩ = some (.string (sv X)) ∧ w'.cell? ⟨g2, 0, none⟩ = some (.pointer (some ⟨b, o, none⟩)) ∧ w'.cell? ⟨g3, 0, none⟩ = some (.int .i64 (most : Int)) ∧ w'.cell? ⟨b, o, none⟩ = some (.slice av n cap)) (by kernel_rfl) (by exact ⟨uq c0, uq c1, uq c2, uq c3, uq c5⟩) (fun hHeld => ?_)
        refine tkk 0 9 hHeld ?_; try simp only [Act.put, Ya, Yb, Yc]
        refine tkk 1 10 hHeld ?_; try simp only [Act.put, Ya, Yb, Yc]
        refine tkk 2 11 hHeld ?_; try simp only [Act.put, Ya, Yb, Yc]
        refine tkk 3 12 hHeld ?_; try simp only [Act.put, Ya, Yb, Yc]
        refine tkk 4 13 hHeld ?_; try simp only [Act.put, Ya, Yb, Yc]
        refine tkk 5 14 hHeld ?_; try simp only [Act.put, Ya, Yb, Yc]
        refine tkk 6 15 hHeld ?_; try simp only [Act.put, Ya, Yb, Yc]
        refine rdyy 7 (fun K hK => ?_)
        go_simp
        clear hHeld
        (refine (more_yes E.rb n most k t.k t.n t.p (sv t.s) (sv X) _ hne hnb (hide (nowT ((uq HR0).keep (Keep.refl _).drew))) (hide fun w' a b hk x1 x2 => the_yes E.rb a b k t.k t.n t.p (sv t.s) (sv X) w' hne (uq HK1) x1 x2 (Keep.cell' (Keep.trans (Keep.refl wr).drew hk) (uq HK2c)) (Keep.frozen' (Keep.trans (Keep.refl wr).drew hk) (uq HK2c) (uq HK3c)) (hide (nowT ((uq HR0).keep (Keep.trans (Keep.refl wr).drew hk)))))).mono ?_; rintro e w9 ⟨rfl, w2, hk, rfl⟩; have HK2 := hide (Keep.trans (Keep.refl wr).drew hk); clear hk; have HIr : Hid (RowI E w m (c ++ [dN] ++ rest) 112 3 (w2.setCell ⟨E.rb, 1, none⟩ (.int .i64 ((k + 1 : Nat) : Int))) L r' (.slice av n cap)) := hide (((uq HI).keep (uq HK2)).move ((Fr.refl _ _).set _ _ rfl) (((uq HR0).keep (uq HK2)).next (.inr (by rw [uq HTS]; exact uq hX)) (uq HI).rd.apart ((uq HK2).cell' (uq HK2c)))); have HFr : Hid (Fr (fun b => b = E.rb) wr (w2.setCell ⟨E.rb, 1, none⟩ (.int .i64 ((k + 1 : Nat) : Int)))) := hide ((Fr.keep (uq HK2)).set _ _ rfl); generalize w2.setCell ⟨E.rb, 1, none⟩ (.int .i64 ((k + 1 : Nat) : Int)) = w3 at HIr HFr ⊢; have d0 := hide ((uq B0).fr (uq HIr).fr).1; have d1 := hide ((uq B1).fr (uq HIr).fr).1; have d2 := hide ((uq B2).fr (uq HIr).fr).1; have d3 := hide ((uq B3).fr (uq HIr).fr).1; have d4 := hide ((uq B4).fr (uq HIr).fr).1; have d5 : Hid (w3.cell? ⟨b, o, none⟩ = some (.slice av n cap)) := hide (by have := (uq HIr).cel; rw [uq A0] at this; exact this))
        try go_wp2_with fail
        refine hK.out _ _ ?_ (fun hHeld => ?_)
        · exact ⟨uq d0, uq d1, uq d2, uq d3, uq d5⟩
        clear hK K
        try simp only [Act.put, Ya, Yb, Yc]
        refine tkk 8 6 hHeld ?_; try simp only [Act.put, Ya, Yb, Yc]
        refine wpAnyH_done (by kernel_rfl) ?_ _
        clear hHeld
        go_wp2_with fail
        (refine ((uq Isn) _ _).mono ?_; rintro e w3 ⟨rfl, rfl⟩)
        go_upto_region 7 with fail
        have HK4 := hide ((Keep.refl w3).alloc (.cells #[.string ⟨#[]⟩, .string ⟨#[]⟩, .int .i64 0] 112))
        have hxb : Hid ((w3.alloc (.cells #[.string ⟨#[]⟩, .string ⟨#[]⟩, .int .i64 0] 112)).heap[w3.heap.size]? = some (.cells #[.string ⟨#[]⟩, .string ⟨#[]⟩, .int .i64 0] 112 (0, 0))) := hide (heap_alloc_new w3 _)
        have HSz : Hid ((w3.alloc (.cells #[.string ⟨#[]⟩, .string ⟨#[]⟩, .int .i64 0] 112)).heap.size = w3.heap.size + 1) := hide (World.size_alloc _ _)
        generalize w3.alloc (.cells #[.string ⟨#[]⟩, .string ⟨#[]⟩, .int .i64 0] 112) = w4 at HK4 hxb HSz ⊢
        obtain ⟨xb, HXB⟩ : ∃ xb, Hid (w3.heap.size = xb) := ⟨_, rfl⟩
        rw [uq HXB] at hxb HSz ⊢
        have e4 := (uq HK4).cell' (uq d4)
        have hent' := uq hent
        unfold Ent at hent'
        go_wp2_with fail
        have hthing := (uq HT) w4 xb r' ((uq HIr).rd.1.keep (uq HK4)) (Nat.lt_of_lt_of_le (Nat.lt_of_lt_of_le ((uq HS) _ (uq HR).2.2) (uq HIr).fr.size) (uq HK4).size) (uq hxb) (fun e => by have := (uq HS) _ (uq HR).2.2; have := (uq HIr).fr.size; have := uq HXB; omega) (fun e => by have := (uq HIr).ta; have := (uq HIr).fr.size; have := uq HXB; omega)
        refine hthing.mono ?_
        clear hthing
        rintro e w5 ⟨hf5, hp5⟩
        have HF5 := hide hf5
        have HFw : Hid (Fr (fun b => b = E.rb) w3 w5) := hide (Fr.inner (.keep (uq HK4)) hf5 (fun i hi hs => by have := uq HXB; rcases hs with hs | hs <;> omega))
        clear hf5
        cases hb : body r' with
        | error x =>
          rw [hb] at hp5
          obtain rfl : e = .returned (flt x) := hp5
          have hres : pRow X most 112 3 body c r0 = .error x := by
            show (match rw_ X most body [] r0 with | .error x => Except.error x | .ok (L, r') => .ok (c ++ [D.row 112 3 L], r')) = _
            rw [← uq HE, uq HEq, if_pos (uq HTS), if_neg (by rw [uq HN]; exact uq HNN), hb]
          have HRES := hide hres
          clear hb hres
          unfold flt
          go_wp2_with fail
          go_ret
          rw [uq HRES]
          exact ⟨(uq HIr).fr.inner (uq HFw) (fun i _ e => e ▸ (uq HR).2.2), rfl⟩
        | ok q =>
          obtain ⟨ds, r2⟩ := q
          rw [hb] at hp5
          obtain ⟨rfl, p2, p3, vs, p4, p5⟩ := hp5
          obtain ⟨u0, u1, u2, rfl⟩ := parts ((rds_length _ _ _ p5).trans p3)
          have HE2 : Hid (rw_ X most body (L ++ [ds]) r2 = rw_ X most body [] r0) := hide (by rw [← uq HE, uq HEq, if_pos (uq HTS), if_neg (by rw [uq HN]; exact uq HNN), hb])
          have HMo := hide ((uq HM) _ _ _ hb)
          have HI5 : Hid (RowI E w m (c ++ [dN] ++ rest) 112 3 w5.drew L r2 (.slice av n cap)) := hide (((uq HIr).move (uq HFw) p2).keep (Keep.refl _).drew)
          have HP5 : Hid (Rds w5.drew ds (fun b => xb + 1 ≤ b) [u0, u1, u2]) := hide (Rds.move ds _ _ _ p5 (fun b hb _ => ⟨rfl, by rw [uq HSz] at hb; exact hb⟩))
          have HON := hide (rds_one _ _ _ p5)
          have HP3 := hide p3
          have HRk := hide (rk_of (uq HI5).rd.1)
          have HRk0 := hide (rk_of (uq HR0))
          have x0 : Hid (w5.drew.cell? ⟨xb, 0, none⟩ = some u0) := hide (p4 0 _ rfl)
          have x1 : Hid (w5.drew.cell? ⟨xb, 1, none⟩ = some u1) := hide (p4 1 _ rfl)
          have x2 : Hid (w5.drew.cell? ⟨xb, 2, none⟩ = some u2) := hide (p4 2 _ rfl)
          have y2 : Hid (w5.drew.cell? ⟨g2, 0, none⟩ = some (.pointer (some ⟨b, o, none⟩))) := hide ((uq B2).fr (uq HI5).fr).1
          have y5 : Hid (w5.drew.cell? ⟨b, o, none⟩ = some (.slice av n cap)) := hide (by have := (uq HI5).cel; rw [uq A0] at this; exact this)
          have y6 : Hid (w5.drew.frozen? ⟨b, o, none⟩ = false) := hide (by have := (uq HI5).frz m (uq HI5).lt; rw [uq A0] at this; exact this)
          obtain ⟨av5, cap5, xs5, hsh5, hown5⟩ := row_shape (uq HI5).row
          clear hsh5
          rw [uq HN] at hown5
          have HOWN5 := hide hown5
          clear hown5 hb p2 p3 p4 p5 hent' e4
          have hbl : E.S b := by have := ((uq HI5).part (uq HI5).lt).2.1; rw [uq A0] at this; exact this
          have HBl := hide hbl
          have hnb2 : ∀ j, (Value.slice av n cap).ownBlock = some j → ¬ E.S j ∧ w.heap.size ≤ j ∧ j < xb := fun j ej => by
            have hr := (uq HI).row
            simp only [Rd] at hr
            obtain ⟨_, q1, q2, _⟩ := hr
            have q3 := q2 j ej
            have q4 := (q1.lt j ej).2
            have := (uq HFr).size
            have := uq HXB
            exact ⟨q3.1, q3.2, by omega⟩
          have HNB := hide hnb2
          have hg2b : Hid (b ≠ g2) := hide (fun e => (uq B2).2 (e ▸ hbl))
          have hxbb : Hid (b ≠ xb) := hide (fun e => by have := (uq HS) _ hbl; have := (uq HIr).fr.size; have := uq HXB; omega)
          clear hbl hnb2
          go_wp2_with fail
          refine wp_region_held_drew (S := fun w' => w'.cell? ⟨g2, 0, none⟩ = some (.pointer (some ⟨b, o, none⟩)) ∧ w'.cell? ⟨xb, 0, none⟩ = some u0 ∧ w'.cell? ⟨xb, 1, none⟩ = some u1 ∧ w'.cell? ⟨xb, 2, none⟩ = some u2) (by kernel_rfl) (by exact ⟨uq y2, uq x0, uq x1, uq x2⟩) (fun hHeld => ?_)
          refine tkk 0 28 hHeld ?_; try simp only [Act.put, Ya, Yb, Yc]
          refine tkk 1 29 hHeld ?_; try simp only [Act.put, Ya, Yb, Yc]
          refine tkk 2 30 hHeld ?_; try simp only [Act.put, Ya, Yb, Yc]
          refine tkk 4 32 hHeld ?_; try simp only [Act.put, Ya, Yb, Yc]
          generalize w5.drew = w6 at HI5 HP5 HRk x0 x1 x2 y2 y5 y6 HOWN5 ⊢
          have hold : ∀ w', Keep w6 w' → w'.cell? ⟨g2, 0, none⟩ = some (.pointer (some ⟨b, o, none⟩)) ∧ w'.cell? ⟨xb, 0, none⟩ = some u0 ∧ w'.cell? ⟨xb, 1, none⟩ = some u1 ∧ w'.cell? ⟨xb, 2, none⟩ = some u2 := fun w' hk => ⟨hk.cell' (uq y2), hk.cell' (uq x0), hk.cell' (uq x1), hk.cell' (uq x2)⟩
          have HOLD := hide hold
          clear hold
          have z5 := uq y5
          have z5a : ∀ ob, (w6.alloc ob).cell? ⟨b, o, none⟩ = some (.slice av n cap) := fun ob => ((Keep.refl w6).alloc ob).cell' z5
          have Z5 := hide z5a
          clear z5a
          refine wpAnyH_ready (rs := [3, 5]) (by kernel_rfl) (by simp) ?_
          refine AllReadyH.cons rfl (fun K hK => ?_) (AllReadyH.cons rfl (fun K hK => ?_) AllReadyH.nil)
          · skip
            go_simp
            clear hHeld
            refine hK.out _ _ ?_ (fun hHeld => ?_)
            · exact (uq HOLD) _ (Keep.refl _)
            clear hK K
            try simp only [Act.put, Ya, Yb, Yc]
            refine rdyy 5 (fun K hK => ?_)
            go_simp
            clear hHeld
            refine hK.out _ _ ?_ (fun hHeld => ?_)
            · exact (uq HOLD) _ ((Keep.refl _).alloc _)
            clear hK K
            try simp only [Act.put, Ya, Yb, Yc]
            refine wpAnyH_ready (rs := [6]) (by kernel_rfl) (by simp) ?_
            refine AllReadyH.cons rfl (fun K hK => ?_) AllReadyH.nil
            refine wp_append_at _ _ _ rfl 0 112 i0 _ 3 40 Tryz.underlying59 (uq HI0) (uq HZ0) (uq HZ1) (uq HZ2) rfl (by decide) _ _ _ rfl ((uq HOWN5).alloc _) ⟨w6.heap.size, 0, none⟩ 1 1 [u0, u1, u2] rfl rfl (new_cells w6 [u0, u1, u2] 112) (uq HON) (by unfold maxLen; omega) (by omega) (Nat.zero_le _) ?_
            intro v' w7 hown' hgrow hat
            obtain ⟨g', cp', rfl⟩ := own_succ hown'
            have HOWN' := hide hown'
            have HGROW := hide hgrow
            have HAT := hide hat
            clear hown' hgrow hat
            have HSt : Hid (∀ q, (q < w6.heap.size ∧ ∀ j, (Value.slice av n cap).ownBlock = some j → j ≠ q) → w7.heap[q]? = w6.heap[q]?) := hide (fun q hq => by rw [(uq HGROW).block q (by rw [World.size_alloc]; omega) (fun e => hq.2 q e.symm rfl)]; exact heap_alloc_old w6 _ hq.1)
            have HSt2 : Hid (w7.cell? ⟨g2, 0, none⟩ = some (.pointer (some ⟨b, o, none⟩)) ∧ w7.cell? ⟨xb, 0, none⟩ = some u0 ∧ w7.cell? ⟨xb, 1, none⟩ = some u1 ∧ w7.cell? ⟨xb, 2, none⟩ = some u2) := hide (by
              have hg2 : w7.heap[g2]? = w6.heap[g2]? := (uq HSt) g2 ⟨cell_lt (uq y2), fun j ej e => by have := ((uq HNB) j ej).2.1; have := cell_lt (uq B2).1; simp at this; omega⟩
              have hx2 : w7.heap[xb]? = w6.heap[xb]? := (uq HSt) xb ⟨cell_lt (uq x0), fun j ej e => by have := ((uq HNB) j ej).2.2; omega⟩
              exact ⟨(cell_of (a := ⟨g2, 0, none⟩) hg2).trans (uq y2), (cell_of (a := ⟨xb, 0, none⟩) hx2).trans (uq x0), (cell_of (a := ⟨xb, 1, none⟩) hx2).trans (uq x1), (cell_of (a := ⟨xb, 2, none⟩) hx2).trans (uq x2)⟩)
            have hb7 : w7.heap[b]? = w6.heap[b]? := (uq HSt) b ⟨cell_lt (uq y5), fun j ej e => ((uq HNB) j ej).1 (e ▸ uq HBl)⟩
            have b5 : w7.cell? ⟨b, o, none⟩ = some (.slice av n cap) := (cell_of (a := ⟨b, o, none⟩) hb7).trans (uq y5)
            have b6 : w7.frozen? ⟨b, o, none⟩ = false := (World.frozen?_of_block (a := ⟨b, o, none⟩) hb7).trans (uq y6)
            clear hb7
            refine hK.out _ _ ?_ (fun hHeld => ?_)
            · exact uq HSt2
            clear hK K
            try simp only [Act.put, List.setIfInBounds_toArray, List.set_cons_zero, List.set_cons_succ]
            refine tkk 7 35 hHeld ?_; try simp only [Act.put, Ya, Yb, Yc]
            refine rdyy 8 (fun K hK => ?_)
            go_simp
            clear hHeld
            refine hK.out _ _ ?_ (fun hHeld => ?_)
            · exact ⟨(set_far w7 ⟨b, o, none⟩ ⟨g2, 0, none⟩ _ (uq hg2b)).trans (uq HSt2).1, (set_far w7 ⟨b, o, none⟩ ⟨xb, 0, none⟩ _ (uq hxbb)).trans (uq HSt2).2.1, (set_far w7 ⟨b, o, none⟩ ⟨xb, 1, none⟩ _ (uq hxbb)).trans (uq HSt2).2.2.1, (set_far w7 ⟨b, o, none⟩ ⟨xb, 2, none⟩ _ (uq hxbb)).trans (uq HSt2).2.2.2⟩
            clear hK K
            try simp only [Act.put, Ya, Yb, Yc]
            refine wpAnyH_done (by kernel_rfl) ?_ _
            clear hHeld
            go_wp2_with fail
            go_roundw
            case rel =>
              refine ⟨L ++ [ds], r2, .slice (some ⟨g', 0, none⟩) (n + 1) cp', hide ?_, HE2, hide (by rw [List.length_append]; have := uq HN; have := uq HNN; simp; omega)⟩
              have h9 := (uq HI5).app (w3 := w7) (o := .cells #[u0, u1, u2] 112) (v' := .slice (some ⟨g', 0, none⟩) (n + 1) cp') (xs := xs5) (vs := [u0, u1, u2]) (B := xb + 1) (uq HS) (fun g eg => by have := ((uq HNB) g eg).2.2; omega) (by have := (uq HIr).fr.size; have := uq HXB; omega) (uq HP5) (uq HP3) (by rw [uq HN]; exact uq HOWN5) (by rw [uq HN]; exact uq HOWN') (uq HGROW) (uq HAT)
              rw [uq A0] at h9
              exact h9
            case measure =>
              have e9 : rk E.rb (w7.setCell ⟨b, o, none⟩ (.slice (some ⟨g', 0, none⟩) (n + 1) cp')) = rk E.rb w6 := by
                unfold rk
                have hrb : w7.heap[E.rb]? = w6.heap[E.rb]? := (uq HSt) _ ⟨Nat.lt_of_lt_of_le ((uq HS) _ (uq HR).2.2) (uq HI5).fr.size, fun j ej e => ((uq HNB) j ej).1 (e ▸ (uq HR).2.2)⟩
                rw [set_far _ _ _ _ (by have := ((uq HI5).part (uq HI5).lt).2.2.1; rw [uq A0] at this; exact this), cell_of (a := ⟨E.rb, 1, none⟩) hrb]
              have q1 := uq HRk
              have q2 := uq HRk0
              have q3 := uq HMo
              simp only [List.length_cons] at q2
              first
              | (rw [e9]; omega)
              | (show 70001 - rk E.rb (w7.setCell ⟨b, o, none⟩ (.slice (some ⟨g', 0, none⟩) (n + 1) cp')) < _; rw [e9]; omega)
          · skip
            go_simp
            clear hHeld
            refine hK.out _ _ ?_ (fun hHeld => ?_)
            · exact (uq HOLD) _ ((Keep.refl _).alloc _)
            clear hK K
            try simp only [Act.put, Ya, Yb, Yc]
            have z5a := uq Z5
            clear z5
            refine rdyy 3 (fun K hK => ?_)
            go_simp
            clear hHeld
            refine hK.out _ _ ?_ (fun hHeld => ?_)
            · exact (uq HOLD) _ ((Keep.refl _).alloc _)
            clear hK K
            try simp only [Act.put, Ya, Yb, Yc]
            refine wpAnyH_ready (rs := [6]) (by kernel_rfl) (by simp) ?_
            refine AllReadyH.cons rfl (fun K hK => ?_) AllReadyH.nil
            refine wp_append_at _ _ _ rfl 0 112 i0 _ 3 40 Tryz.underlying59 (uq HI0) (uq HZ0) (uq HZ1) (uq HZ2) rfl (by decide) _ _ _ rfl ((uq HOWN5).alloc _) ⟨w6.heap.size, 0, none⟩ 1 1 [u0, u1, u2] rfl rfl (new_cells w6 [u0, u1, u2] 112) (uq HON) (by unfold maxLen; omega) (by omega) (Nat.zero_le _) ?_
            intro v' w7 hown' hgrow hat
            obtain ⟨g', cp', rfl⟩ := own_succ hown'
            have HOWN' := hide hown'
            have HGROW := hide hgrow
            have HAT := hide hat
            clear hown' hgrow hat
            have HSt : Hid (∀ q, (q < w6.heap.size ∧ ∀ j, (Value.slice av n cap).ownBlock = some j → j ≠ q) → w7.heap[q]? = w6.heap[q]?) := hide (fun q hq => by rw [(uq HGROW).block q (by rw [World.size_alloc]; omega) (fun e => hq.2 q e.symm rfl)]; exact heap_alloc_old w6 _ hq.1)
            have HSt2 : Hid (w7.cell? ⟨g2, 0, none⟩ = some (.pointer (some ⟨b, o, none⟩)) ∧ w7.cell? ⟨xb, 0, none⟩ = some u0 ∧ w7.cell? ⟨xb, 1, none⟩ = some u1 ∧ w7.cell? ⟨xb, 2, none⟩ = some u2) := hide (by
              have hg2 : w7.heap[g2]? = w6.heap[g2]? := (uq HSt) g2 ⟨cell_lt (uq y2), fun j ej e => by have := ((uq HNB) j ej).2.1; have := cell_lt (uq B2).1; simp at this; omega⟩
              have hx2 : w7.heap[xb]? = w6.heap[xb]? := (uq HSt) xb ⟨cell_lt (uq x0), fun j ej e => by have := ((uq HNB) j ej).2.2; omega⟩
              exact ⟨(cell_of (a := ⟨g2, 0, none⟩) hg2).trans (uq y2), (cell_of (a := ⟨xb, 0, none⟩) hx2).trans (uq x0), (cell_of (a := ⟨xb, 1, none⟩) hx2).trans (uq x1), (cell_of (a := ⟨xb, 2, none⟩) hx2).trans (uq x2)⟩)
            have hb7 : w7.heap[b]? = w6.heap[b]? := (uq HSt) b ⟨cell_lt (uq y5), fun j ej e => ((uq HNB) j ej).1 (e ▸ uq HBl)⟩
            have b5 : w7.cell? ⟨b, o, none⟩ = some (.slice av n cap) := (cell_of (a := ⟨b, o, none⟩) hb7).trans (uq y5)
            have b6 : w7.frozen? ⟨b, o, none⟩ = false := (World.frozen?_of_block (a := ⟨b, o, none⟩) hb7).trans (uq y6)
            clear hb7
            refine hK.out _ _ ?_ (fun hHeld => ?_)
            · exact uq HSt2
            clear hK K
            try simp only [Act.put, List.setIfInBounds_toArray, List.set_cons_zero, List.set_cons_succ]
            refine tkk 7 35 hHeld ?_; try simp only [Act.put, Ya, Yb, Yc]
            refine rdyy 8 (fun K hK => ?_)
            go_simp
            clear hHeld
            refine hK.out _ _ ?_ (fun hHeld => ?_)
            · exact ⟨(set_far w7 ⟨b, o, none⟩ ⟨g2, 0, none⟩ _ (uq hg2b)).trans (uq HSt2).1, by rw [set_far _ _ _ _ (fun e => absurd ((uq HS) _ (uq HBl)) (by have := (uq HIr).fr.size; have := uq HXB; simp at e; omega))]; exact (uq HSt2).2.1, by rw [set_far _ _ _ _ (fun e => absurd ((uq HS) _ (uq HBl)) (by have := (uq HIr).fr.size; have := uq HXB; simp at e; omega))]; exact (uq HSt2).2.2.1, by rw [set_far _ _ _ _ (fun e => absurd ((uq HS) _ (uq HBl)) (by have := (uq HIr).fr.size; have := uq HXB; simp at e; omega))]; exact (uq HSt2).2.2.2⟩
            clear hK K
            try simp only [Act.put, Ya, Yb, Yc]
            refine wpAnyH_done (by kernel_rfl) ?_ _
            clear hHeld
            go_wp2_with fail
            go_roundw
            case rel =>
              refine ⟨L ++ [ds], r2, .slice (some ⟨g', 0, none⟩) (n + 1) cp', hide ?_, HE2, hide (by rw [List.length_append]; have := uq HN; have := uq HNN; simp; omega)⟩
              have h9 := (uq HI5).app (w3 := w7) (o := .cells #[u0, u1, u2] 112) (v' := .slice (some ⟨g', 0, none⟩) (n + 1) cp') (xs := xs5) (vs := [u0, u1, u2]) (B := xb + 1) (uq HS) (fun g eg => by have := ((uq HNB) g eg).2.2; omega) (by have := (uq HIr).fr.size; have := uq HXB; omega) (uq HP5) (uq HP3) (by rw [uq HN]; exact uq HOWN5) (by rw [uq HN]; exact uq HOWN') (uq HGROW) (uq HAT)
              rw [uq A0] at h9
              exact h9
            case measure =>
              have e9 : rk E.rb (w7.setCell ⟨b, o, none⟩ (.slice (some ⟨g', 0, none⟩) (n + 1) cp')) = rk E.rb w6 := by
                unfold rk
                have hrb : w7.heap[E.rb]? = w6.heap[E.rb]? := (uq HSt) _ ⟨Nat.lt_of_lt_of_le ((uq HS) _ (uq HR).2.2) (uq HI5).fr.size, fun j ej e => ((uq HNB) j ej).1 (e ▸ (uq HR).2.2)⟩
                rw [set_far _ _ _ _ (by have := ((uq HI5).part (uq HI5).lt).2.2.1; rw [uq A0] at this; exact this), cell_of (a := ⟨E.rb, 1, none⟩) hrb]
              have q1 := uq HRk
              have q2 := uq HRk0
              have q3 := uq HMo
              simp only [List.length_cons] at q2
              first
              | (rw [e9]; omega)
              | (show 70001 - rk E.rb (w7.setCell ⟨b, o, none⟩ (.slice (some ⟨g', 0, none⟩) (n + 1) cp')) < _; rw [e9]; omega)
    · go_wp2_with fail
      refine wp_region_held_drew (S := fun w' => w'.cell? ⟨g0, 0, none⟩ = some (.pointer (some ⟨E.rb, 0, none⟩)) ∧ w'.cell? ⟨g1, 0, none⟩ = some (.string (sv X)) ∧ w'.cell? ⟨g2, 0, none⟩ = some (.pointer (some ⟨b, o, none⟩)) ∧ w'.cell? ⟨g3, 0, none⟩ = some (.int .i64 (most : Int)) ∧ w'.cell? ⟨b, o, none⟩ = some (.slice av n cap)) (by kernel_rfl) (by exact ⟨uq c0, uq c1, uq c2, uq c3, uq c5⟩) (fun hHeld => ?_)
      refine tkk 0 9 hHeld ?_; try simp only [Act.put, Ya, Yb, Yc]
      refine tkk 1 10 hHeld ?_; try simp only [Act.put, Ya, Yb, Yc]
      refine tkk 2 11 hHeld ?_; try simp only [Act.put, Ya, Yb, Yc]
      refine tkk 3 12 hHeld ?_; try simp only [Act.put, Ya, Yb, Yc]
      refine tkk 4 13 hHeld ?_; try simp only [Act.put, Ya, Yb, Yc]
      refine tkk 5 14 hHeld ?_; try simp only [Act.put, Ya, Yb, Yc]
      refine tkk 6 15 hHeld ?_; try simp only [Act.put, Ya, Yb, Yc]
      refine rdyy 7 (fun K hK => ?_)
      go_simp
      clear hHeld
      (refine (more_no E.rb n most t.k t.n t.p (sv t.s) (sv X) _ (by rw [svl, svl]; simpa using ht) (hide (nowT ((uq HR0).keep (Keep.refl _).drew))) (hide fun w' a b hk x1 x2 => the_no E.rb a b t.k t.n t.p (sv t.s) (sv X) w' (by rw [svl, svl]; simpa using ht) x1 x2 (hide (nowT ((uq HR0).keep (Keep.trans (Keep.refl wr).drew hk)))) (hide (wrongT ((uq HR0).keep (Keep.trans (Keep.refl wr).drew hk)))))).mono ?_; rintro e w2 ⟨rfl, hk⟩; have HK2 := hide (Keep.trans (Keep.refl wr).drew hk); clear hk)
      try go_wp2_with fail
      refine hK.out _ _ ?_ (fun hHeld => ?_)
      · exact ⟨(uq HK2).cell' (uq c0), (uq HK2).cell' (uq c1), (uq HK2).cell' (uq c2), (uq HK2).cell' (uq c3), (uq HK2).cell' (uq c5)⟩
      clear hK K
      try simp only [Act.put, Ya, Yb, Yc]
      refine tkk 8 6 hHeld ?_; try simp only [Act.put, Ya, Yb, Yc]
      refine wpAnyH_done (by kernel_rfl) ?_ _
      clear hHeld
      unfold flt
      go_wp2_with fail
      (refine ((uq Isw) _ _).mono ?_; rintro e w3 ⟨rfl, hk⟩; have HK3 := hide ((uq HK2).trans hk); clear hk)
      go_wp2_with fail
      go_ret
      have hres : pRow X most 112 3 body c r0 = .ok (c ++ [D.row 112 3 L], t :: r') := by
        show (match rw_ X most body [] r0 with | .error x => Except.error x | .ok (L, r') => .ok (c ++ [D.row 112 3 L], r')) = _
        rw [← uq HE, uq HEq, if_neg ht]
      rw [hres]
      have HI3 := (uq HI).keep (uq HK3)
      have hm := uq hcm
      subst hm
      exact post_ok rfl HI3.fr (by simp) HI3.rd (HI3.fin (uq HLo))
set_option maxHeartbeats 1000000 in
theorem make (a b : Option Addr) (X : ByteArray) (most : Int) (f : Value) (w : World) (hf : ∃ g xs ys, f = .func g xs ys) : Calls Tryz.prog 80 #[.pointer a, .string X, .int .i64 most, f, .pointer b] w fun e w' => e = .returned (.func (.func 102) #[] #[.pointer (some ⟨w.heap.size, 0, none⟩), .pointer (some ⟨w.heap.size + 1, 0, none⟩), .pointer (some ⟨w.heap.size + 1 + 1 + 1 + 1, 0, none⟩), .pointer (some ⟨w.heap.size + 1 + 1, 0, none⟩), .pointer (some ⟨w.heap.size + 1 + 1 + 1, 0, none⟩)]) ∧ w' = ((((w.alloc (.cells #[.pointer a] 81)).alloc (.cells #[.string X] 9)).alloc (.cells #[.int .i64 most] 3)).alloc (.cells #[f] 168)).alloc (.cells #[.pointer b] 169) := by
  obtain ⟨g, xs, ys, rfl⟩ := hf
  go_enter Tryz.func80, Tryz.ntmps80
  go_wp2
  go_ret
  exact ⟨rfl, rfl⟩
end FoeR
theorem rowFoe_any {E : Env} (X : List UInt8) (hX : X ≠ []) (most : Nat) (hmost : most ≤ 1000) (body : List Tok → Rs) {fT : FuncId} (hT : ThingM E.rb E.l E.ta E.cap fT 112 [.string ⟨#[]⟩, .string ⟨#[]⟩, .int .i64 0] body) (m b o : Nat) (hA : E.A m = (b, o)) (w : World) (hS : ∀ b, E.S b → b < w.heap.size) (hLo : E.lo ≤ w.heap.size) :
    Calls Tryz.prog 80 #[.pointer (some ⟨E.rb, 0, none⟩), .string (sv X), .int .i64 (most : Int), .func (.func fT) #[.pointer (some ⟨E.rb, 0, none⟩)] #[], .pointer (some ⟨b, o, none⟩)] w (Mk E m [dN] (pRow X most 112 3 body) w) := by
  refine (FoeR.make _ _ _ _ _ w ⟨_, _, _, rfl⟩).mono ?_
  rintro e w' ⟨rfl, rfl⟩
  obtain ⟨b1, b2, b3, b4, b5⟩ := five_boxes E w (.pointer (some ⟨E.rb, 0, none⟩)) (.string (sv X)) (.int .i64 (most : Int)) (.func (.func fT) #[.pointer (some ⟨E.rb, 0, none⟩)] #[]) (.pointer (some ⟨b, o, none⟩)) 81 9 3 168 169 hS
  have hk := five_keep w (.cells #[.pointer (some ⟨E.rb, 0, none⟩)] 81) (.cells #[.string (sv X)] 9) (.cells #[.int .i64 (most : Int)] 3) (.cells #[.func (.func fT) #[.pointer (some ⟨E.rb, 0, none⟩)] #[]] 168) (.cells #[.pointer (some ⟨b, o, none⟩)] 169)
  exact ⟨_, _, _, rfl, hk, ⟨_, _, _, rfl, fun xs w => by kernel_rfl, fun w2 c rest r hf hc hr hl => FoeR.core E _ _ _ _ _ b o m most fT X body c rest w2 r (hide (b1.fr hf)) (hide (b2.fr hf)) (hide (b5.fr hf)) (hide (b3.fr hf)) (hide (b4.fr hf)) (hide hA) (hide (Bx.hs (hs_keep hS hk) hf)) (hide (Nat.le_trans (lo_keep hLo hk) hf.size)) (hide hc) (hide hr) (hide hl) (hide hT.2.2) (hide hT.2.1) (hide hT.1) hmost (hide hX)⟩⟩
end Go.Proofs.YtmplckdpddmifaaGreatDoor
namespace Go.Proofs.YtmplckdpddmifaaGreatDoor
open Go.RowKit
attribute [local go_sem ↓] Go.wp_at_zero Go.wp_at_succ
set_option linter.unusedVariables false
set_option linter.unusedSimpArgs false
set_option maxRecDepth 10000
namespace StopR
theorem info0 : (Tryz.prog.info? 114).map (fun i => (i.zero, i.size, i.bytes)) = some (some (.agg #[.string ⟨#[]⟩, .string ⟨#[]⟩, .string ⟨#[]⟩, .int .i64 0, .int .i64 0, .int .i64 0]), 6, 72) := by kernel_rfl
theorem parts {vs : List Value} (h : vs.length = 6) : ∃ u0 u1 u2 u3 u4 u5, vs = [u0, u1, u2, u3, u4, u5] := by
  match vs, h with
  | [u0, u1, u2, u3, u4, u5], _ => exact ⟨u0, u1, u2, u3, u4, u5, rfl⟩
set_option maxHeartbeats 8000000 in
theorem core (E : Env) (g0 g1 g2 g3 g4 b o m most : Nat) (fT : FuncId) (X : List UInt8) (body : List Tok → Rs) (c rest : List D) (w : World) (r0 : List Tok)
    (B0 : Hid (Bx E w g0 (.pointer (some ⟨E.rb, 0, none⟩)))) (B1 : Hid (Bx E w g1 (.string (sv X)))) (B2 : Hid (Bx E w g2 (.pointer (some ⟨b, o, none⟩)))) (B3 : Hid (Bx E w g3 (.int .i64 (most : Int)))) (B4 : Hid (Bx E w g4 (.func (.func fT) #[.pointer (some ⟨E.rb, 0, none⟩)] #[])))
    (A0 : Hid (E.A m = (b, o))) (HS : Hid (∀ b, E.S b → b < w.heap.size)) (HLo : Hid (E.lo ≤ w.heap.size)) (hcm : Hid (c.length = m)) (HR : Hid (Rdr E w r0)) (HL : Hid (Cel E w (c ++ [dN] ++ rest)))
    (HT : Hid (Thing E.rb E.l E.ta E.cap fT 114 [.string ⟨#[]⟩, .string ⟨#[]⟩, .string ⟨#[]⟩, .int .i64 0, .int .i64 0, .int .i64 0] body)) (HM : Hid (Mon body)) (hent : Hid (Ent fT)) (hmost : most ≤ 1000) (hX : Hid (X ≠ [])) :
    Calls Tryz.prog 104 #[.pointer (some ⟨g0, 0, none⟩), .pointer (some ⟨g1, 0, none⟩), .pointer (some ⟨g2, 0, none⟩), .pointer (some ⟨g3, 0, none⟩), .pointer (some ⟨g4, 0, none⟩)] w (Post E w rest (m + 1) (pRow X most 114 6 body c r0)) := by
  obtain ⟨i0, hi, hz0, hz1, hz2⟩ := info_parts info0
  have HI0 := hide hi
  have HZ0 := hide hz0
  have HZ1 := hide hz1
  have HZ2 := hide hz2
  clear hi hz0 hz1 hz2
  have HCM := hcm
  have Isn := hide is_nil
  have Isw := hide is_want
  have Isl := hide is_long
  go_enter Tryz.func104, Tryz.ntmps104
  go_wp2_with fail
  go_loopw [5] (fun u5 wr => ∃ (L : List (List D)) (r : List Tok) (v : Value), Hid (RowI E w m (c ++ [dN] ++ rest) 114 6 wr L r v) ∧ Hid (rw_ X most body L r = rw_ X most body [] r0) ∧ Hid (L.length ≤ most)) (fun _ wr => 70001 - rk E.rb wr)
  case atStart => exact ⟨[], r0, .slice none 0 0, hide (by rw [← uq hcm]; exact RowI.start (uq HR) (uq HL)), hide rfl, hide (Nat.zero_le _)⟩
  case round =>
    obtain ⟨L, r, v, HI, HE, HLn⟩ := hrel
    obtain ⟨t, r', rfl⟩ := r0_cons (uq HI).rd.1
    obtain ⟨av, cap, xs, rfl, hown⟩ := row_shape (uq HI).row
    have HOWN := hide hown
    clear hown
    obtain ⟨n, HN⟩ : ∃ n, Hid (L.length = n) := ⟨_, rfl⟩
    have hnm : n ≤ most := by have := uq HLn; have := uq HN; omega
    rw [uq HN] at HI HOWN
    have c0 := hide ((uq B0).fr (uq HI).fr).1
    have c1 := hide ((uq B1).fr (uq HI).fr).1
    have c2 := hide ((uq B2).fr (uq HI).fr).1
    have c3 := hide ((uq B3).fr (uq HI).fr).1
    have c4 := hide ((uq B4).fr (uq HI).fr).1
    have c5 : Hid (wr.cell? ⟨b, o, none⟩ = some (.slice av n cap)) := hide (by have := (uq HI).cel; rw [uq A0] at this; exact this)
    have HR0 := hide (uq HI).rd.1
    have HEq := hide (rw_cons X most body (uq HM) L t r')
    by_cases ht : t.s = X
    · have hne : ((sv t.s).toList == (sv X).toList) = true := by rw [svl, svl, ht]; simp
      have HTS := hide ht
      clear ht
      by_cases hn : n = most
      · have HNE := hide hn
        clear hn
        go_wp2_with fail
        refine wp_region_held_drew (S := fun w' => w'.cell? ⟨g0, 0, none⟩ = some (.pointer (some ⟨E.rb, 0, none⟩)) ∧ w'.cell? ⟨g1, 0, none⟩ = some (.string (sv X)) ∧ w'.cell? ⟨g2, 0, none⟩ = some (.pointer (some ⟨b, o, none⟩)) ∧ w'.cell? ⟨g3, 0, none⟩ = some (.int .i64 (most : Int)) ∧ w'.cell? ⟨b, o, none⟩ = some (.slice av n cap)) (by kernel_rfl) (by exact ⟨uq c0, uq c1, uq c2, uq c3, uq c5⟩) (fun hHeld => ?_)
        refine tkk 0 9 hHeld ?_; try simp only [Act.put, Ya, Yb, Yc]
        refine tkk 1 10 hHeld ?_; try simp only [Act.put, Ya, Yb, Yc]
        refine tkk 2 11 hHeld ?_; try simp only [Act.put, Ya, Yb, Yc]
        refine tkk 3 12 hHeld ?_; try simp only [Act.put, Ya, Yb, Yc]
        refine tkk 4 13 hHeld ?_; try simp only [Act.put, Ya, Yb, Yc]
        refine tkk 5 14 hHeld ?_; try simp only [Act.put, Ya, Yb, Yc]
        refine tkk 6 15 hHeld ?_; try simp only [Act.put, Ya, Yb, Yc]
        refine rdyy 7 (fun K hK => ?_)
        go_simp
        clear hHeld
        (refine (more_long E.rb n most t.k t.n t.p (sv t.s) (sv X) _ hne (uq HNE) (hide (nowT ((uq HR0).keep (Keep.refl _).drew))) (hide (wrongT ((uq HR0).keep (Keep.refl _).drew)))).mono ?_; rintro e w2 ⟨rfl, hk⟩; have HK2 := hide (Keep.trans (Keep.refl wr).drew hk); clear hk)
        try go_wp2_with fail
        refine hK.out _ _ ?_ (fun hHeld => ?_)
        · exact ⟨(uq HK2).cell' (uq c0), (uq HK2).cell' (uq c1), (uq HK2).cell' (uq c2), (uq HK2).cell' (uq c3), (uq HK2).cell' (uq c5)⟩
        clear hK K
        try simp only [Act.put, Ya, Yb, Yc]
        refine tkk 8 6 hHeld ?_; try simp only [Act.put, Ya, Yb, Yc]
        refine wpAnyH_done (by kernel_rfl) ?_ _
        clear hHeld
        unfold flt
        go_wp2_with fail
        (refine ((uq Isl) _ _).mono ?_; rintro e w3 ⟨rfl, hk⟩; have HK3 := hide ((uq HK2).trans hk); clear hk)
        go_wp2_with fail
        go_ret
        have hres : pRow X most 114 6 body c r0 = .error (4, t.p) := by
          show (match rw_ X most body [] r0 with | .error x => Except.error x | .ok (L, r') => .ok (c ++ [D.row 114 6 L], r')) = _
          rw [← uq HE, uq HEq, if_pos (uq HTS), if_pos (by rw [uq HN]; exact uq HNE)]
        rw [hres]
        exact ⟨(uq HI).fr.trans (.keep (uq HK3)), rfl⟩
      · have hnb : ((n : Int) == (most : Int)) = false := by simp; omega
        have HNN := hide hn
        clear hn
        obtain ⟨k, k1, k2, k3⟩ := (uq HR0).at (.inr (by rw [uq HTS]; exact uq hX))
        have HK1 := hide k1
        have HK2c := hide k2
        have HK3c := hide k3
        clear k1 k2 k3
        go_wp2_with fail
        refine wp_region_held_drew (S := fun w' => w'.cell? ⟨g0, 0, none⟩ = some (.pointer (some ⟨E.rb, 0, none⟩)) ∧ w'.cell? ⟨g1, 0, none⟩ = some (.string (sv X)) ∧ w'.cell? ⟨g2, 0, none⟩ = some (.pointer (some ⟨b, o, none⟩)) ∧ w'.cell? ⟨g3, 0, none⟩ = some (.int .i64 (most : Int)) ∧ w'.cell? ⟨b, o, none⟩ = some (.slice av n cap)) (by kernel_rfl) (by exact ⟨uq c0, uq c1, uq c2, uq c3, uq c5⟩) (fun hHeld => ?_)
        refine tkk 0 9 hHeld ?_; try simp only [Act.put, Ya, Yb, Yc]
        refine tkk 1 10 hHeld ?_; try simp only [Act.put, Ya, Yb, Yc]
        refine tkk 2 11 hHeld ?_; try simp only [Act.put, Ya, Yb, Yc]
        refine tkk 3 12 hHeld ?_; try simp only [Act.put, Ya, Yb, Yc]
        refine tkk 4 13 hHeld ?_; try simp only [Act.put, Ya, Yb, Yc]
        refine tkk 5 14 hHeld ?_; try simp only [Act.put, Ya, Yb, Yc]
        refine tkk 6 15 hHeld ?_; try simp only [Act.put, Ya, Yb, Yc]
        refine rdyy 7 (fun K hK => ?_)
        go_simp
        clear hHeld
        (refine (more_yes E.rb n most k t.k t.n t.p (sv t.s) (sv X) _ hne hnb (hide (nowT ((uq HR0).keep (Keep.refl _).drew))) (hide fun w' a b hk x1 x2 => the_yes E.rb a b k t.k t.n t.p (sv t.s) (sv X) w' hne (uq HK1) x1 x2 (Keep.cell' (Keep.trans (Keep.refl wr).drew hk) (uq HK2c)) (Keep.frozen' (Keep.trans (Keep.refl wr).drew hk) (uq HK2c) (uq HK3c)) (hide (nowT ((uq HR0).keep (Keep.trans (Keep.refl wr).drew hk)))))).mono ?_; rintro e w9 ⟨rfl, w2, hk, rfl⟩; have HK2 := hide (Keep.trans (Keep.refl wr).drew hk); clear hk; have HIr : Hid (RowI E w m (c ++ [dN] ++ rest) 114 6 (w2.setCell ⟨E.rb, 1, none⟩ (.int .i64 ((k + 1 : Nat) : Int))) L r' (.slice av n cap)) := hide (((uq HI).keep (uq HK2)).move ((Fr.refl _ _).set _ _ rfl) (((uq HR0).keep (uq HK2)).next (.inr (by rw [uq HTS]; exact uq hX)) (uq HI).rd.apart ((uq HK2).cell' (uq HK2c)))); have HFr : Hid (Fr (fun b => b = E.rb) wr (w2.setCell ⟨E.rb, 1, none⟩ (.int .i64 ((k + 1 : Nat) : Int)))) := hide ((Fr.keep (uq HK2)).set _ _ rfl); generalize w2.setCell ⟨E.rb, 1, none⟩ (.int .i64 ((k + 1 : Nat) : Int)) = w3 at HIr HFr ⊢; have d0 := hide ((uq B0).fr (uq HIr).fr).1; have d1 := hide ((uq B1).fr (uq HIr).fr).1; have d2 := hide ((uq B2).fr (uq HIr).fr).1; have d3 := hide ((uq B3).fr (uq HIr).fr).1; have d4 := hide ((uq B4).fr (uq HIr).fr).1; have d5 : Hid (w3.cell? ⟨b, o, none⟩ = some (.slice av n cap)) := hide (by have := (uq HIr).cel; rw [uq A0] at this; exact this))
        try go_wp2_with fail
        refine hK.out _ _ ?_ (fun hHeld => ?_)
        · exact ⟨uq d0, uq d1, uq d2, uq d3, uq d5⟩
        clear hK K
        try simp only [Act.put, Ya, Yb, Yc]
        refine tkk 8 6 hHeld ?_; try simp only [Act.put, Ya, Yb, Yc]
        refine wpAnyH_done (by kernel_rfl) ?_ _
        clear hHeld
        go_wp2_with fail
        (refine ((uq Isn) _ _).mono ?_; rintro e w3 ⟨rfl, rfl⟩)
        go_upto_region 7 with fail
        have HK4 := hide ((Keep.refl w3).alloc (.cells #[.string ⟨#[]⟩, .string ⟨#[]⟩, .string ⟨#[]⟩, .int .i64 0, .int .i64 0, .int .i64 0] 114))
        have hxb : Hid ((w3.alloc (.cells #[.string ⟨#[]⟩, .string ⟨#[]⟩, .string ⟨#[]⟩, .int .i64 0, .int .i64 0, .int .i64 0] 114)).heap[w3.heap.size]? = some (.cells #[.string ⟨#[]⟩, .string ⟨#[]⟩, .string ⟨#[]⟩, .int .i64 0, .int .i64 0, .int .i64 0] 114 (0, 0))) := hide (heap_alloc_new w3 _)
        have HSz : Hid ((w3.alloc (.cells #[.string ⟨#[]⟩, .string ⟨#[]⟩, .string ⟨#[]⟩, .int .i64 0, .int .i64 0, .int .i64 0] 114)).heap.size = w3.heap.size + 1) := hide (World.size_alloc _ _)
        generalize w3.alloc (.cells #[.string ⟨#[]⟩, .string ⟨#[]⟩, .string ⟨#[]⟩, .int .i64 0, .int .i64 0, .int .i64 0] 114) = w4 at HK4 hxb HSz ⊢
        obtain ⟨xb, HXB⟩ : ∃ xb, Hid (w3.heap.size = xb) := ⟨_, rfl⟩
        rw [uq HXB] at hxb HSz ⊢
        have e4 := (uq HK4).cell' (uq d4)
        have hent' := uq hent
        unfold Ent at hent'
        go_wp2_with fail
        have hthing := (uq HT) w4 xb r' ((uq HIr).rd.1.keep (uq HK4)) (Nat.lt_of_lt_of_le (Nat.lt_of_lt_of_le ((uq HS) _ (uq HR).2.2) (uq HIr).fr.size) (uq HK4).size) (uq hxb) (fun e => by have := (uq HS) _ (uq HR).2.2; have := (uq HIr).fr.size; have := uq HXB; omega) (fun e => by have := (uq HIr).ta; have := (uq HIr).fr.size; have := uq HXB; omega)
        refine hthing.mono ?_
        clear hthing
        rintro e w5 ⟨hf5, hp5⟩
        have HF5 := hide hf5
        have HFw : Hid (Fr (fun b => b = E.rb) w3 w5) := hide (Fr.inner (.keep (uq HK4)) hf5 (fun i hi hs => by have := uq HXB; rcases hs with hs | hs <;> omega))
        clear hf5
        cases hb : body r' with
        | error x =>
          rw [hb] at hp5
          obtain rfl : e = .returned (flt x) := hp5
          have hres : pRow X most 114 6 body c r0 = .error x := by
            show (match rw_ X most body [] r0 with | .error x => Except.error x | .ok (L, r') => .ok (c ++ [D.row 114 6 L], r')) = _
            rw [← uq HE, uq HEq, if_pos (uq HTS), if_neg (by rw [uq HN]; exact uq HNN), hb]
          have HRES := hide hres
          clear hb hres
          unfold flt
          go_wp2_with fail
          go_ret
          rw [uq HRES]
          exact ⟨(uq HIr).fr.inner (uq HFw) (fun i _ e => e ▸ (uq HR).2.2), rfl⟩
        | ok q =>
          obtain ⟨ds, r2⟩ := q
          rw [hb] at hp5
          obtain ⟨rfl, p2, p3, vs, p4, p5⟩ := hp5
          obtain ⟨u0, u1, u2, u3, u4, u5, rfl⟩ := parts ((rds_length _ _ _ p5).trans p3)
          have HE2 : Hid (rw_ X most body (L ++ [ds]) r2 = rw_ X most body [] r0) := hide (by rw [← uq HE, uq HEq, if_pos (uq HTS), if_neg (by rw [uq HN]; exact uq HNN), hb])
          have HMo := hide ((uq HM) _ _ _ hb)
          have HI5 : Hid (RowI E w m (c ++ [dN] ++ rest) 114 6 w5.drew L r2 (.slice av n cap)) := hide (((uq HIr).move (uq HFw) p2).keep (Keep.refl _).drew)
          have HP5 : Hid (Rds w5.drew ds (fun b => xb + 1 ≤ b) [u0, u1, u2, u3, u4, u5]) := hide (Rds.move ds _ _ _ p5 (fun b hb _ => ⟨rfl, by rw [uq HSz] at hb; exact hb⟩))
          have HON := hide (rds_one _ _ _ p5)
          have HP3 := hide p3
          have HRk := hide (rk_of (uq HI5).rd.1)
          have HRk0 := hide (rk_of (uq HR0))
          have x0 : Hid (w5.drew.cell? ⟨xb, 0, none⟩ = some u0) := hide (p4 0 _ rfl)
          have x1 : Hid (w5.drew.cell? ⟨xb, 1, none⟩ = some u1) := hide (p4 1 _ rfl)
          have x2 : Hid (w5.drew.cell? ⟨xb, 2, none⟩ = some u2) := hide (p4 2 _ rfl)
          have x3 : Hid (w5.drew.cell? ⟨xb, 3, none⟩ = some u3) := hide (p4 3 _ rfl)
          have x4 : Hid (w5.drew.cell? ⟨xb, 4, none⟩ = some u4) := hide (p4 4 _ rfl)
          have x5 : Hid (w5.drew.cell? ⟨xb, 5, none⟩ = some u5) := hide (p4 5 _ rfl)
          have y2 : Hid (w5.drew.cell? ⟨g2, 0, none⟩ = some (.pointer (some ⟨b, o, none⟩))) := hide ((uq B2).fr (uq HI5).fr).1
          have y5 : Hid (w5.drew.cell? ⟨b, o, none⟩ = some (.slice av n cap)) := hide (by have := (uq HI5).cel; rw [uq A0] at this; exact this)
          have y6 : Hid (w5.drew.frozen? ⟨b, o, none⟩ = false) := hide (by have := (uq HI5).frz m (uq HI5).lt; rw [uq A0] at this; exact this)
          obtain ⟨av5, cap5, xs5, hsh5, hown5⟩ := row_shape (uq HI5).row
          clear hsh5
          rw [uq HN] at hown5
          have HOWN5 := hide hown5
          clear hown5 hb p2 p3 p4 p5 hent' e4
          have hbl : E.S b := by have := ((uq HI5).part (uq HI5).lt).2.1; rw [uq A0] at this; exact this
          have HBl := hide hbl
          have hnb2 : ∀ j, (Value.slice av n cap).ownBlock = some j → ¬ E.S j ∧ w.heap.size ≤ j ∧ j < xb := fun j ej => by
            have hr := (uq HI).row
            simp only [Rd] at hr
            obtain ⟨_, q1, q2, _⟩ := hr
            have q3 := q2 j ej
            have q4 := (q1.lt j ej).2
            have := (uq HFr).size
            have := uq HXB
            exact ⟨q3.1, q3.2, by omega⟩
          have HNB := hide hnb2
          have hg2b : Hid (b ≠ g2) := hide (fun e => (uq B2).2 (e ▸ hbl))
          have hxbb : Hid (b ≠ xb) := hide (fun e => by have := (uq HS) _ hbl; have := (uq HIr).fr.size; have := uq HXB; omega)
          clear hbl hnb2
          go_wp2_with fail
          refine wp_region_held_drew (S := fun w' => w'.cell? ⟨g2, 0, none⟩ = some (.pointer (some ⟨b, o, none⟩)) ∧ w'.cell? ⟨xb, 0, none⟩ = some u0 ∧ w'.cell? ⟨xb, 1, none⟩ = some u1 ∧ w'.cell? ⟨xb, 2, none⟩ = some u2 ∧ w'.cell? ⟨xb, 3, none⟩ = some u3 ∧ w'.cell? ⟨xb, 4, none⟩ = some u4 ∧ w'.cell? ⟨xb, 5, none⟩ = some u5) (by kernel_rfl) (by exact ⟨uq y2, uq x0, uq x1, uq x2, uq x3, uq x4, uq x5⟩) (fun hHeld => ?_)
          refine tkk 0 28 hHeld ?_; try simp only [Act.put, Ya, Yb, Yc]
          refine tkk 1 29 hHeld ?_; try simp only [Act.put, Ya, Yb, Yc]
          refine tkk 2 30 hHeld ?_; try simp only [Act.put, Ya, Yb, Yc]
          refine tkk 4 32 hHeld ?_; try simp only [Act.put, Ya, Yb, Yc]
          generalize w5.drew = w6 at HI5 HP5 HRk x0 x1 x2 x3 x4 x5 y2 y5 y6 HOWN5 ⊢
          have hold : ∀ w', Keep w6 w' → w'.cell? ⟨g2, 0, none⟩ = some (.pointer (some ⟨b, o, none⟩)) ∧ w'.cell? ⟨xb, 0, none⟩ = some u0 ∧ w'.cell? ⟨xb, 1, none⟩ = some u1 ∧ w'.cell? ⟨xb, 2, none⟩ = some u2 ∧ w'.cell? ⟨xb, 3, none⟩ = some u3 ∧ w'.cell? ⟨xb, 4, none⟩ = some u4 ∧ w'.cell? ⟨xb, 5, none⟩ = some u5 := fun w' hk => ⟨hk.cell' (uq y2), hk.cell' (uq x0), hk.cell' (uq x1), hk.cell' (uq x2), hk.cell' (uq x3), hk.cell' (uq x4), hk.cell' (uq x5)⟩
          have HOLD := hide hold
          clear hold
          have z5 := uq y5
          have z5a : ∀ ob, (w6.alloc ob).cell? ⟨b, o, none⟩ = some (.slice av n cap) := fun ob => ((Keep.refl w6).alloc ob).cell' z5
          have Z5 := hide z5a
          clear z5a
          refine wpAnyH_ready (rs := [3, 5]) (by kernel_rfl) (by simp) ?_
          refine AllReadyH.cons rfl (fun K hK => ?_) (AllReadyH.cons rfl (fun K hK => ?_) AllReadyH.nil)
          · skip
            go_simp
            clear hHeld
            refine hK.out _ _ ?_ (fun hHeld => ?_)
            · exact (uq HOLD) _ (Keep.refl _)
            clear hK K
            try simp only [Act.put, Ya, Yb, Yc]
            refine rdyy 5 (fun K hK => ?_)
            go_simp
            clear hHeld
            refine hK.out _ _ ?_ (fun hHeld => ?_)
            · exact (uq HOLD) _ ((Keep.refl _).alloc _)
            clear hK K
            try simp only [Act.put, Ya, Yb, Yc]
            refine wpAnyH_ready (rs := [6]) (by kernel_rfl) (by simp) ?_
            refine AllReadyH.cons rfl (fun K hK => ?_) AllReadyH.nil
            refine wp_append_at _ _ _ rfl 0 114 i0 _ 6 72 Tryz.underlying26 (uq HI0) (uq HZ0) (uq HZ1) (uq HZ2) rfl (by decide) _ _ _ rfl ((uq HOWN5).alloc _) ⟨w6.heap.size, 0, none⟩ 1 1 [u0, u1, u2, u3, u4, u5] rfl rfl (new_cells w6 [u0, u1, u2, u3, u4, u5] 114) (uq HON) (by unfold maxLen; omega) (by omega) (Nat.zero_le _) ?_
            intro v' w7 hown' hgrow hat
            obtain ⟨g', cp', rfl⟩ := own_succ hown'
            have HOWN' := hide hown'
            have HGROW := hide hgrow
            have HAT := hide hat
            clear hown' hgrow hat
            have HSt : Hid (∀ q, (q < w6.heap.size ∧ ∀ j, (Value.slice av n cap).ownBlock = some j → j ≠ q) → w7.heap[q]? = w6.heap[q]?) := hide (fun q hq => by rw [(uq HGROW).block q (by rw [World.size_alloc]; omega) (fun e => hq.2 q e.symm rfl)]; exact heap_alloc_old w6 _ hq.1)
            have HSt2 : Hid (w7.cell? ⟨g2, 0, none⟩ = some (.pointer (some ⟨b, o, none⟩)) ∧ w7.cell? ⟨xb, 0, none⟩ = some u0 ∧ w7.cell? ⟨xb, 1, none⟩ = some u1 ∧ w7.cell? ⟨xb, 2, none⟩ = some u2 ∧ w7.cell? ⟨xb, 3, none⟩ = some u3 ∧ w7.cell? ⟨xb, 4, none⟩ = some u4 ∧ w7.cell? ⟨xb, 5, none⟩ = some u5) := hide (by
              have hg2 : w7.heap[g2]? = w6.heap[g2]? := (uq HSt) g2 ⟨cell_lt (uq y2), fun j ej e => by have := ((uq HNB) j ej).2.1; have := cell_lt (uq B2).1; simp at this; omega⟩
              have hx2 : w7.heap[xb]? = w6.heap[xb]? := (uq HSt) xb ⟨cell_lt (uq x0), fun j ej e => by have := ((uq HNB) j ej).2.2; omega⟩
              exact ⟨(cell_of (a := ⟨g2, 0, none⟩) hg2).trans (uq y2), (cell_of (a := ⟨xb, 0, none⟩) hx2).trans (uq x0), (cell_of (a := ⟨xb, 1, none⟩) hx2).trans (uq x1), (cell_of (a := ⟨xb, 2, none⟩) hx2).trans (uq x2), (cell_of (a := ⟨xb, 3, none⟩) hx2).trans (uq x3), (cell_of (a := ⟨xb, 4, none⟩) hx2).trans (uq x4), (cell_of (a := ⟨xb, 5, none⟩) hx2).trans (uq x5)⟩)
            have hb7 : w7.heap[b]? = w6.heap[b]? := (uq HSt) b ⟨cell_lt (uq y5), fun j ej e => ((uq HNB) j ej).1 (e ▸ uq HBl)⟩
            have b5 : w7.cell? ⟨b, o, none⟩ = some (.slice av n cap) := (cell_of (a := ⟨b, o, none⟩) hb7).trans (uq y5)
            have b6 : w7.frozen? ⟨b, o, none⟩ = false := (World.frozen?_of_block (a := ⟨b, o, none⟩) hb7).trans (uq y6)
            clear hb7
            refine hK.out _ _ ?_ (fun hHeld => ?_)
            · exact uq HSt2
            clear hK K
            try simp only [Act.put, List.setIfInBounds_toArray, List.set_cons_zero, List.set_cons_succ]
            refine tkk 7 35 hHeld ?_; try simp only [Act.put, Ya, Yb, Yc]
            refine rdyy 8 (fun K hK => ?_)
            go_simp
            clear hHeld
            refine hK.out _ _ ?_ (fun hHeld => ?_)
            · exact ⟨(set_far w7 ⟨b, o, none⟩ ⟨g2, 0, none⟩ _ (uq hg2b)).trans (uq HSt2).1, (set_far w7 ⟨b, o, none⟩ ⟨xb, 0, none⟩ _ (uq hxbb)).trans (uq HSt2).2.1, (set_far w7 ⟨b, o, none⟩ ⟨xb, 1, none⟩ _ (uq hxbb)).trans (uq HSt2).2.2.1, (set_far w7 ⟨b, o, none⟩ ⟨xb, 2, none⟩ _ (uq hxbb)).trans (uq HSt2).2.2.2.1, (set_far w7 ⟨b, o, none⟩ ⟨xb, 3, none⟩ _ (uq hxbb)).trans (uq HSt2).2.2.2.2.1, (set_far w7 ⟨b, o, none⟩ ⟨xb, 4, none⟩ _ (uq hxbb)).trans (uq HSt2).2.2.2.2.2.1, (set_far w7 ⟨b, o, none⟩ ⟨xb, 5, none⟩ _ (uq hxbb)).trans (uq HSt2).2.2.2.2.2.2⟩
            clear hK K
            try simp only [Act.put, Ya, Yb, Yc]
            refine wpAnyH_done (by kernel_rfl) ?_ _
            clear hHeld
            go_wp2_with fail
            go_roundw
            case rel =>
              refine ⟨L ++ [ds], r2, .slice (some ⟨g', 0, none⟩) (n + 1) cp', hide ?_, HE2, hide (by rw [List.length_append]; have := uq HN; have := uq HNN; simp; omega)⟩
              have h9 := (uq HI5).app (w3 := w7) (o := .cells #[u0, u1, u2, u3, u4, u5] 114) (v' := .slice (some ⟨g', 0, none⟩) (n + 1) cp') (xs := xs5) (vs := [u0, u1, u2, u3, u4, u5]) (B := xb + 1) (uq HS) (fun g eg => by have := ((uq HNB) g eg).2.2; omega) (by have := (uq HIr).fr.size; have := uq HXB; omega) (uq HP5) (uq HP3) (by rw [uq HN]; exact uq HOWN5) (by rw [uq HN]; exact uq HOWN') (uq HGROW) (uq HAT)
              rw [uq A0] at h9
              exact h9
            case measure =>
              have e9 : rk E.rb (w7.setCell ⟨b, o, none⟩ (.slice (some ⟨g', 0, none⟩) (n + 1) cp')) = rk E.rb w6 := by
                unfold rk
                have hrb : w7.heap[E.rb]? = w6.heap[E.rb]? := (uq HSt) _ ⟨Nat.lt_of_lt_of_le ((uq HS) _ (uq HR).2.2) (uq HI5).fr.size, fun j ej e => ((uq HNB) j ej).1 (e ▸ (uq HR).2.2)⟩
                rw [set_far _ _ _ _ (by have := ((uq HI5).part (uq HI5).lt).2.2.1; rw [uq A0] at this; exact this), cell_of (a := ⟨E.rb, 1, none⟩) hrb]
              have q1 := uq HRk
              have q2 := uq HRk0
              have q3 := uq HMo
              simp only [List.length_cons] at q2
              first
              | (rw [e9]; omega)
              | (show 70001 - rk E.rb (w7.setCell ⟨b, o, none⟩ (.slice (some ⟨g', 0, none⟩) (n + 1) cp')) < _; rw [e9]; omega)
          · skip
            go_simp
            clear hHeld
            refine hK.out _ _ ?_ (fun hHeld => ?_)
            · exact (uq HOLD) _ ((Keep.refl _).alloc _)
            clear hK K
            try simp only [Act.put, Ya, Yb, Yc]
            have z5a := uq Z5
            clear z5
            refine rdyy 3 (fun K hK => ?_)
            go_simp
            clear hHeld
            refine hK.out _ _ ?_ (fun hHeld => ?_)
            · exact (uq HOLD) _ ((Keep.refl _).alloc _)
            clear hK K
            try simp only [Act.put, Ya, Yb, Yc]
            refine wpAnyH_ready (rs := [6]) (by kernel_rfl) (by simp) ?_
            refine AllReadyH.cons rfl (fun K hK => ?_) AllReadyH.nil
            refine wp_append_at _ _ _ rfl 0 114 i0 _ 6 72 Tryz.underlying26 (uq HI0) (uq HZ0) (uq HZ1) (uq HZ2) rfl (by decide) _ _ _ rfl ((uq HOWN5).alloc _) ⟨w6.heap.size, 0, none⟩ 1 1 [u0, u1, u2, u3, u4, u5] rfl rfl (new_cells w6 [u0, u1, u2, u3, u4, u5] 114) (uq HON) (by unfold maxLen; omega) (by omega) (Nat.zero_le _) ?_
            intro v' w7 hown' hgrow hat
            obtain ⟨g', cp', rfl⟩ := own_succ hown'
            have HOWN' := hide hown'
            have HGROW := hide hgrow
            have HAT := hide hat
            clear hown' hgrow hat
            have HSt : Hid (∀ q, (q < w6.heap.size ∧ ∀ j, (Value.slice av n cap).ownBlock = some j → j ≠ q) → w7.heap[q]? = w6.heap[q]?) := hide (fun q hq => by rw [(uq HGROW).block q (by rw [World.size_alloc]; omega) (fun e => hq.2 q e.symm rfl)]; exact heap_alloc_old w6 _ hq.1)
            have HSt2 : Hid (w7.cell? ⟨g2, 0, none⟩ = some (.pointer (some ⟨b, o, none⟩)) ∧ w7.cell? ⟨xb, 0, none⟩ = some u0 ∧ w7.cell? ⟨xb, 1, none⟩ = some u1 ∧ w7.cell? ⟨xb, 2, none⟩ = some u2 ∧ w7.cell? ⟨xb, 3, none⟩ = some u3 ∧ w7.cell? ⟨xb, 4, none⟩ = some u4 ∧ w7.cell? ⟨xb, 5, none⟩ = some u5) := hide (by
              have hg2 : w7.heap[g2]? = w6.heap[g2]? := (uq HSt) g2 ⟨cell_lt (uq y2), fun j ej e => by have := ((uq HNB) j ej).2.1; have := cell_lt (uq B2).1; simp at this; omega⟩
              have hx2 : w7.heap[xb]? = w6.heap[xb]? := (uq HSt) xb ⟨cell_lt (uq x0), fun j ej e => by have := ((uq HNB) j ej).2.2; omega⟩
              exact ⟨(cell_of (a := ⟨g2, 0, none⟩) hg2).trans (uq y2), (cell_of (a := ⟨xb, 0, none⟩) hx2).trans (uq x0), (cell_of (a := ⟨xb, 1, none⟩) hx2).trans (uq x1), (cell_of (a := ⟨xb, 2, none⟩) hx2).trans (uq x2), (cell_of (a := ⟨xb, 3, none⟩) hx2).trans (uq x3), (cell_of (a := ⟨xb, 4, none⟩) hx2).trans (uq x4), (cell_of (a := ⟨xb, 5, none⟩) hx2).trans (uq x5)⟩)
            have hb7 : w7.heap[b]? = w6.heap[b]? := (uq HSt) b ⟨cell_lt (uq y5), fun j ej e => ((uq HNB) j ej).1 (e ▸ uq HBl)⟩
            have b5 : w7.cell? ⟨b, o, none⟩ = some (.slice av n cap) := (cell_of (a := ⟨b, o, none⟩) hb7).trans (uq y5)
            have b6 : w7.frozen? ⟨b, o, none⟩ = false := (World.frozen?_of_block (a := ⟨b, o, none⟩) hb7).trans (uq y6)
            clear hb7
            refine hK.out _ _ ?_ (fun hHeld => ?_)
            · exact uq HSt2
            clear hK K
            try simp only [Act.put, List.setIfInBounds_toArray, List.set_cons_zero, List.set_cons_succ]
            refine tkk 7 35 hHeld ?_; try simp only [Act.put, Ya, Yb, Yc]
            refine rdyy 8 (fun K hK => ?_)
            go_simp
            clear hHeld
            refine hK.out _ _ ?_ (fun hHeld => ?_)
            · exact ⟨(set_far w7 ⟨b, o, none⟩ ⟨g2, 0, none⟩ _ (uq hg2b)).trans (uq HSt2).1, by rw [set_far _ _ _ _ (fun e => absurd ((uq HS) _ (uq HBl)) (by have := (uq HIr).fr.size; have := uq HXB; simp at e; omega))]; exact (uq HSt2).2.1, by rw [set_far _ _ _ _ (fun e => absurd ((uq HS) _ (uq HBl)) (by have := (uq HIr).fr.size; have := uq HXB; simp at e; omega))]; exact (uq HSt2).2.2.1, by rw [set_far _ _ _ _ (fun e => absurd ((uq HS) _ (uq HBl)) (by have := (uq HIr).fr.size; have := uq HXB; simp at e; omega))]; exact (uq HSt2).2.2.2.1, by rw [set_far _ _ _ _ (fun e => absurd ((uq HS) _ (uq HBl)) (by have := (uq HIr).fr.size; have := uq HXB; simp at e; omega))]; exact (uq HSt2).2.2.2.2.1, by rw [set_far _ _ _ _ (fun e => absurd ((uq HS) _ (uq HBl)) (by have := (uq HIr).fr.size; have := uq HXB; simp at e; omega))]; exact (uq HSt2).2.2.2.2.2.1, by rw [set_far _ _ _ _ (fun e => absurd ((uq HS) _ (uq HBl)) (by have := (uq HIr).fr.size; have := uq HXB; simp at e; omega))]; exact (uq HSt2).2.2.2.2.2.2⟩
            clear hK K
            try simp only [Act.put, Ya, Yb, Yc]
            refine wpAnyH_done (by kernel_rfl) ?_ _
            clear hHeld
            go_wp2_with fail
            go_roundw
            case rel =>
              refine ⟨L ++ [ds], r2, .slice (some ⟨g', 0, none⟩) (n + 1) cp', hide ?_, HE2, hide (by rw [List.length_append]; have := uq HN; have := uq HNN; simp; omega)⟩
              have h9 := (uq HI5).app (w3 := w7) (o := .cells #[u0, u1, u2, u3, u4, u5] 114) (v' := .slice (some ⟨g', 0, none⟩) (n + 1) cp') (xs := xs5) (vs := [u0, u1, u2, u3, u4, u5]) (B := xb + 1) (uq HS) (fun g eg => by have := ((uq HNB) g eg).2.2; omega) (by have := (uq HIr).fr.size; have := uq HXB; omega) (uq HP5) (uq HP3) (by rw [uq HN]; exact uq HOWN5) (by rw [uq HN]; exact uq HOWN') (uq HGROW) (uq HAT)
              rw [uq A0] at h9
              exact h9
            case measure =>
              have e9 : rk E.rb (w7.setCell ⟨b, o, none⟩ (.slice (some ⟨g', 0, none⟩) (n + 1) cp')) = rk E.rb w6 := by
                unfold rk
                have hrb : w7.heap[E.rb]? = w6.heap[E.rb]? := (uq HSt) _ ⟨Nat.lt_of_lt_of_le ((uq HS) _ (uq HR).2.2) (uq HI5).fr.size, fun j ej e => ((uq HNB) j ej).1 (e ▸ (uq HR).2.2)⟩
                rw [set_far _ _ _ _ (by have := ((uq HI5).part (uq HI5).lt).2.2.1; rw [uq A0] at this; exact this), cell_of (a := ⟨E.rb, 1, none⟩) hrb]
              have q1 := uq HRk
              have q2 := uq HRk0
              have q3 := uq HMo
              simp only [List.length_cons] at q2
              first
              | (rw [e9]; omega)
              | (show 70001 - rk E.rb (w7.setCell ⟨b, o, none⟩ (.slice (some ⟨g', 0, none⟩) (n + 1) cp')) < _; rw [e9]; omega)
    · go_wp2_with fail
      refine wp_region_held_drew (S := fun w' => w'.cell? ⟨g0, 0, none⟩ = some (.pointer (some ⟨E.rb, 0, none⟩)) ∧ w'.cell? ⟨g1, 0, none⟩ = some (.string (sv X)) ∧ w'.cell? ⟨g2, 0, none⟩ = some (.pointer (some ⟨b, o, none⟩)) ∧ w'.cell? ⟨g3, 0, none⟩ = some (.int .i64 (most : Int)) ∧ w'.cell? ⟨b, o, none⟩ = some (.slice av n cap)) (by kernel_rfl) (by exact ⟨uq c0, uq c1, uq c2, uq c3, uq c5⟩) (fun hHeld => ?_)
      refine tkk 0 9 hHeld ?_; try simp only [Act.put, Ya, Yb, Yc]
      refine tkk 1 10 hHeld ?_; try simp only [Act.put, Ya, Yb, Yc]
      refine tkk 2 11 hHeld ?_; try simp only [Act.put, Ya, Yb, Yc]
      refine tkk 3 12 hHeld ?_; try simp only [Act.put, Ya, Yb, Yc]
      refine tkk 4 13 hHeld ?_; try simp only [Act.put, Ya, Yb, Yc]
      refine tkk 5 14 hHeld ?_; try simp only [Act.put, Ya, Yb, Yc]
      refine tkk 6 15 hHeld ?_; try simp only [Act.put, Ya, Yb, Yc]
      refine rdyy 7 (fun K hK => ?_)
      go_simp
      clear hHeld
      (refine (more_no E.rb n most t.k t.n t.p (sv t.s) (sv X) _ (by rw [svl, svl]; simpa using ht) (hide (nowT ((uq HR0).keep (Keep.refl _).drew))) (hide fun w' a b hk x1 x2 => the_no E.rb a b t.k t.n t.p (sv t.s) (sv X) w' (by rw [svl, svl]; simpa using ht) x1 x2 (hide (nowT ((uq HR0).keep (Keep.trans (Keep.refl wr).drew hk)))) (hide (wrongT ((uq HR0).keep (Keep.trans (Keep.refl wr).drew hk)))))).mono ?_; rintro e w2 ⟨rfl, hk⟩; have HK2 := hide (Keep.trans (Keep.refl wr).drew hk); clear hk)
      try go_wp2_with fail
      refine hK.out _ _ ?_ (fun hHeld => ?_)
      · exact ⟨(uq HK2).cell' (uq c0), (uq HK2).cell' (uq c1), (uq HK2).cell' (uq c2), (uq HK2).cell' (uq c3), (uq HK2).cell' (uq c5)⟩
      clear hK K
      try simp only [Act.put, Ya, Yb, Yc]
      refine tkk 8 6 hHeld ?_; try simp only [Act.put, Ya, Yb, Yc]
      refine wpAnyH_done (by kernel_rfl) ?_ _
      clear hHeld
      unfold flt
      go_wp2_with fail
      (refine ((uq Isw) _ _).mono ?_; rintro e w3 ⟨rfl, hk⟩; have HK3 := hide ((uq HK2).trans hk); clear hk)
      go_wp2_with fail
      go_ret
      have hres : pRow X most 114 6 body c r0 = .ok (c ++ [D.row 114 6 L], t :: r') := by
        show (match rw_ X most body [] r0 with | .error x => Except.error x | .ok (L, r') => .ok (c ++ [D.row 114 6 L], r')) = _
        rw [← uq HE, uq HEq, if_neg ht]
      rw [hres]
      have HI3 := (uq HI).keep (uq HK3)
      have hm := uq hcm
      subst hm
      exact post_ok rfl HI3.fr (by simp) HI3.rd (HI3.fin (uq HLo))
set_option maxHeartbeats 1000000 in
theorem make (a b : Option Addr) (X : ByteArray) (most : Int) (f : Value) (w : World) (hf : ∃ g xs ys, f = .func g xs ys) : Calls Tryz.prog 84 #[.pointer a, .string X, .int .i64 most, f, .pointer b] w fun e w' => e = .returned (.func (.func 104) #[] #[.pointer (some ⟨w.heap.size, 0, none⟩), .pointer (some ⟨w.heap.size + 1, 0, none⟩), .pointer (some ⟨w.heap.size + 1 + 1 + 1 + 1, 0, none⟩), .pointer (some ⟨w.heap.size + 1 + 1, 0, none⟩), .pointer (some ⟨w.heap.size + 1 + 1 + 1, 0, none⟩)]) ∧ w' = ((((w.alloc (.cells #[.pointer a] 81)).alloc (.cells #[.string X] 9)).alloc (.cells #[.int .i64 most] 3)).alloc (.cells #[f] 173)).alloc (.cells #[.pointer b] 174) := by
  obtain ⟨g, xs, ys, rfl⟩ := hf
  go_enter Tryz.func84, Tryz.ntmps84
  go_wp2
  go_ret
  exact ⟨rfl, rfl⟩
end StopR
theorem rowStop_any {E : Env} (X : List UInt8) (hX : X ≠ []) (most : Nat) (hmost : most ≤ 1000) (body : List Tok → Rs) {fT : FuncId} (hT : ThingM E.rb E.l E.ta E.cap fT 114 [.string ⟨#[]⟩, .string ⟨#[]⟩, .string ⟨#[]⟩, .int .i64 0, .int .i64 0, .int .i64 0] body) (m b o : Nat) (hA : E.A m = (b, o)) (w : World) (hS : ∀ b, E.S b → b < w.heap.size) (hLo : E.lo ≤ w.heap.size) :
    Calls Tryz.prog 84 #[.pointer (some ⟨E.rb, 0, none⟩), .string (sv X), .int .i64 (most : Int), .func (.func fT) #[.pointer (some ⟨E.rb, 0, none⟩)] #[], .pointer (some ⟨b, o, none⟩)] w (Mk E m [dN] (pRow X most 114 6 body) w) := by
  refine (StopR.make _ _ _ _ _ w ⟨_, _, _, rfl⟩).mono ?_
  rintro e w' ⟨rfl, rfl⟩
  obtain ⟨b1, b2, b3, b4, b5⟩ := five_boxes E w (.pointer (some ⟨E.rb, 0, none⟩)) (.string (sv X)) (.int .i64 (most : Int)) (.func (.func fT) #[.pointer (some ⟨E.rb, 0, none⟩)] #[]) (.pointer (some ⟨b, o, none⟩)) 81 9 3 173 174 hS
  have hk := five_keep w (.cells #[.pointer (some ⟨E.rb, 0, none⟩)] 81) (.cells #[.string (sv X)] 9) (.cells #[.int .i64 (most : Int)] 3) (.cells #[.func (.func fT) #[.pointer (some ⟨E.rb, 0, none⟩)] #[]] 173) (.cells #[.pointer (some ⟨b, o, none⟩)] 174)
  exact ⟨_, _, _, rfl, hk, ⟨_, _, _, rfl, fun xs w => by kernel_rfl, fun w2 c rest r hf hc hr hl => StopR.core E _ _ _ _ _ b o m most fT X body c rest w2 r (hide (b1.fr hf)) (hide (b2.fr hf)) (hide (b5.fr hf)) (hide (b3.fr hf)) (hide (b4.fr hf)) (hide hA) (hide (Bx.hs (hs_keep hS hk) hf)) (hide (Nat.le_trans (lo_keep hLo hk) hf.size)) (hide hc) (hide hr) (hide hl) (hide hT.2.2) (hide hT.2.1) (hide hT.1) hmost (hide hX)⟩⟩
end Go.Proofs.YtmplckdpddmifaaGreatDoor
