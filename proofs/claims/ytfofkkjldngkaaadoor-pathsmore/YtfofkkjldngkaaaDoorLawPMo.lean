/- Proved: for every number of points, every row of edges (few of them, or no graph at all) and every edge, an edge more makes no way shorter, and changes nothing just where it is fitted already. -/
import Derived.Test.YtfofkkjldngkaaaDoorRows
import Derived.Test.YtfofkkjldngkaaaDoorCards
import Derived.Test.YtfofkkjldngkaaaDoorTie
import Derived.Test.YtfofkkjldngkaaaDoorPcE
namespace Go.Proofs.YtfofkkjldngkaaaDoor.pmore
open Go.ChangeShapes Go.WideShapes Go.ChangeAt Go.RowKit
open Go.WideMaps Go.WideElems
attribute [local go_sem ↓] Go.wp_at_zero Go.wp_at_succ
set_option linter.unusedVariables false
set_option linter.unusedSimpArgs false
set_option maxRecDepth 10000
open Pa
theorem isG_less {n : Int} {R : List E3} {x : E3} (h : isG n (R ++ [x]) = true) : isG n R = true := by
  unfold isG at h ⊢
  rw [Bool.and_eq_true] at h ⊢
  exact ⟨h.1, by have := h.2; rw [List.all_append, Bool.and_eq_true] at this; exact this.1⟩
/-- an edge more: what both tell -/
theorem more_facts {n : Int} {R : List E3} {x : E3} (h : (lg n (R ++ [x])).2 = 0) : ∃ (m : Nat) (d d' : List Int) (f t : Nat) (l : Int), n = (m : Int) ∧ 1 ≤ m ∧ m ≤ 64 ∧ lg n R = (d, 0) ∧ lg n (R ++ [x]) = (d', 0) ∧ d.length = m ∧ d'.length = m ∧ x = ((f : Int), (t : Int), l) ∧ f < m ∧ t < m ∧ 0 ≤ l ∧ l ≤ 6000 ∧ (∀ p, -1 ≤ g d p ∧ g d p ≤ 1000000000000) ∧ (∀ p, g d p ≤ g d' p) ∧ (d = d' ↔ (g d f < 0 ∨ g d f + l ≤ g d t)) := by
  obtain ⟨m, d', rfl, hG, h1, h2, hg, hd', hlg', hb'⟩ := lg_ok h
  have hG0 := isG_less hG
  obtain ⟨m', hm', _, _, hg0, h60, _⟩ := isG_gr hG0
  obtain rfl : m = m' := by omega
  obtain ⟨m', hm', _, _, _, _, hat⟩ := isG_gr hG
  obtain rfl : m = m' := by omega
  obtain ⟨f, t, l, e1, e2, e3, e4, e5, e6⟩ := hat R.length (by simp)
  have hx : x = ((f : Int), (t : Int), l) := by
    rw [← e1, List.getD_eq_getElem?_getD, List.getElem?_append_right (Nat.le_refl _), Nat.sub_self]; rfl
  have hE : nE (R ++ [x]) = nE R ++ [(f, t, l)] := by rw [nE_app, hx]; simp [nE]
  rw [hE] at hg hd'
  have hsub : ∀ e ∈ nE R, e ∈ nE R ++ [(f, t, l)] := fun e he => by simp [he]
  obtain ⟨d, hd, hlg⟩ : ∃ d, Pa.Good m (nE R) d ∧ lg (m : Int) R = (d, 0) := by
    rw [lg_yes hG0]
    rcases longest hg0 (jac_rd hg0) (Nat.le_refl m) with ⟨d, _, a1, a2, a3⟩ | ⟨_, a1⟩
    · exact ⟨d, ⟨a1, a2, a3⟩, lgd_good hg0 ⟨a1, a2, a3⟩⟩
    · exact absurd (fit_less hsub hd'.2.1) (a1 _)
  exact ⟨m, d, d', f, t, l, rfl, h1, h2, hlg, hlg', hd.1.1, hd'.1.1, hx, e3, e4, e5, e6, fun p => ⟨hd.1.2 p, by have := good_bd hg0 h60 hd p; omega⟩, more_ge hg hsub hd.2.2 hd'.2.1 hd'.1.2 hd.1.2, more_same (x := (f, t, l)) hg hd hd'⟩
theorem more_err {n : Int} {R : List E3} {x : E3} (h : (lg n R).2 ≠ 0) : (lg n (R ++ [x])).2 ≠ 0 := fun h2 => by
  obtain ⟨m, d, d', f, t, l, _, _, _, h3, _⟩ := more_facts h2
  rw [h3] at h; exact h rfl
theorem vs_block {w w' : World} {b m : Nat} {ys : List Value} (h : Vs w (.slice (some ⟨b, 0, none⟩) m m) m ys) (hb : w'.heap[b]? = w.heap[b]?) : Vs w' (.slice (some ⟨b, 0, none⟩) m m) m ys := by
  obtain ⟨a, c, e, h⟩ := h
  refine ⟨a, c, e, fun j u hj => ?_⟩
  obtain ⟨ad, e1, e2⟩ := h j u hj
  refine ⟨ad, e1, ?_⟩
  injection e with e3
  rw [e1] at e3
  injection e3 with e3
  subst e3
  rw [add_pl] at e2 ⊢
  rw [← e2]
  simp only [World.cell?, hb]
def LR (w0 : World) (E2 : Int) (L2 : List Int) (s9 s10 : Value) (wc : World) : Prop := s10 = .int .i64 E2 ∧ Keep w0 wc ∧ Iw 2 wc s9 L2
set_option maxHeartbeats 8000000 in
theorem walk (n : Int) {v : Value} {R : List E3} {w : World} (hR : Es w v R) (x : E3) (hx : -9223372036854775808 ≤ x.2.2 ∧ x.2.2 ≤ 9223372036854775807) (hT : Tab w) : Calls Tryd.prog 6 #[.int .i64 n, v, .agg #[.int .i64 x.1, .int .i64 x.2.1, .int .i64 x.2.2]] w fun e w' => e = .returned (.bool true) ∧ Below w.heap.size w w' := by
  obtain ⟨i0, hi0, hz0, hz1, hz2⟩ := info_f infoE
  have HR := hide hR
  obtain ⟨a, cap, rfl, -⟩ := hR
  have K0 := hide ((Keep.refl w).alloc (.cells #[.int .i64 x.1, .int .i64 x.2.1, .int .i64 x.2.2] 34))
  have TF := hide (few_any a R.length cap n)
  cases hF : fwB n R.length with
  | false =>
    rw [hF] at TF
    generalize R.length = m at *
    clear hF
    go_enter Tryd.func6, Tryd.ntmps6
    go_wp2_with fail
    (refine ((unhide TF) _).mono ?_; rintro e w1 ⟨rfl, rfl⟩)
    go_wp2_with fail
    go_ret
    exact ⟨rfl, (Keep.refl w).alloc _⟩
  | true =>
    have hl := fwB_le hF
    rw [hF] at TF
    have T1 := hide (fun (w' : World) (hk : Keep w w') => longest_any _ R n w' ((unhide HR).keep hk) (by omega))
    have T2 := hide (fun (u : Value) (w' : World) (hu : Es w' u (R ++ [x])) => longest_any u (R ++ [x]) n w' hu (by simp; omega))
    have TA := hide (fun (w' : World) (hk : Keep w w') => awake_any w' (hT.keep hk))
    have HC0 : Hid ((w.alloc (.cells #[.int .i64 x.1, .int .i64 x.2.1, .int .i64 x.2.2] 34)).cell? ⟨w.heap.size, 0, none⟩ = some (.int .i64 x.1) ∧ (w.alloc (.cells #[.int .i64 x.1, .int .i64 x.2.1, .int .i64 x.2.2] 34)).cell? ⟨w.heap.size, 1, none⟩ = some (.int .i64 x.2.1) ∧ (w.alloc (.cells #[.int .i64 x.1, .int .i64 x.2.1, .int .i64 x.2.2] 34)).cell? ⟨w.heap.size, 2, none⟩ = some (.int .i64 x.2.2)) := hide ⟨by simp [go_sem], by simp [go_sem], by simp [go_sem]⟩
    unfold Lq at T1 T2
    have HVs := hide (unhide HR).vs
    have HME := hide (more_err (n := n) (R := R) (x := x))
    have HMF := hide (more_facts (n := n) (R := R) (x := x))
    have HE9 : Hid (ecs R ++ ecs [x] = ecs (R ++ [x])) := hide (ecs_app R [x]).symm
    have HLx : Hid (R.length + 1 = (R ++ [x]).length) := hide (by simp)
    have HL1 : Hid ((ecs R).length = R.length * 3) := hide (ecs_len R)
    have HL2 := hide (ecs_one R)
    have HL3 : Hid ((ecs [x]).length = 1 * 3) := hide rfl
    have HL4 := hide (ecs_one [x])
    have EC : Hid (ecs [x] = [.int .i64 x.1, .int .i64 x.2.1, .int .i64 x.2.2]) := hide rfl
    obtain ⟨x1, hx1⟩ : ∃ x1, x.1 = x1 := ⟨_, rfl⟩
    obtain ⟨x2, hx2⟩ : ∃ x2, x.2.1 = x2 := ⟨_, rfl⟩
    obtain ⟨x3, hx3⟩ : ∃ x3, x.2.2 = x3 := ⟨_, rfl⟩
    rw [hx1, hx2, hx3] at K0 HC0 EC ⊢
    have HX := hide (And.intro hx1 (And.intro hx2 hx3))
    generalize R.length = rl at *
    clear hF hT hx1 hx2 hx3
    go_enter Tryd.func6, Tryd.ntmps6
    go_wp2_with fail
    (refine ((unhide TF) _).mono ?_; rintro e w1 ⟨rfl, hw1⟩)
    rw [← hw1] at K0 HC0
    obtain ⟨c, hc⟩ : ∃ c, w.heap.size = c := ⟨_, rfl⟩
    rw [hc] at HC0 ⊢
    clear hw1 hc
    go_wp2_with fail
    (refine ((unhide T1) _ (unhide K0)).mono ?_; rintro e w2 ⟨u2, rfl, hk9, hi9⟩; have K2 := hide ((unhide K0).trans hk9); have I2 := hide hi9; have C2 : Hid (w2.cell? ⟨c, 0, none⟩ = some (.int .i64 x1) ∧ w2.cell? ⟨c, 1, none⟩ = some (.int .i64 x2) ∧ w2.cell? ⟨c, 2, none⟩ = some (.int .i64 x3)) := hide ⟨kc hk9 (unhide HC0).1, kc hk9 (unhide HC0).2.1, kc hk9 (unhide HC0).2.2⟩; clear hk9 hi9 T1)
    have CK : Hid (∀ w', Keep w2 w' → w'.cell? ⟨c, 0, none⟩ = some (.int .i64 x1) ∧ w'.cell? ⟨c, 1, none⟩ = some (.int .i64 x2) ∧ w'.cell? ⟨c, 2, none⟩ = some (.int .i64 x3)) := hide (fun w' hk => ⟨kc hk (unhide C2).1, kc hk (unhide C2).2.1, kc hk (unhide C2).2.2⟩)
    go_upto_region 4 with fail
    have HIN : Hid (∀ s9 s10 wc, LR w2 (lg n (R ++ [x])).2 (lg n (R ++ [x])).1 s9 s10 wc → s10 = .int .i64 (lg n (R ++ [x])).2 ∧ Keep w2 wc ∧ Iw 2 wc s9 (lg n (R ++ [x])).1) := hide (fun _ _ _ h => h)
    have HOUT : Hid (∀ s9 s10 wc, s10 = .int .i64 (lg n (R ++ [x])).2 → Keep w2 wc → Iw 2 wc s9 (lg n (R ++ [x])).1 → LR w2 (lg n (R ++ [x])).2 (lg n (R ++ [x])).1 s9 s10 wc) := hide (fun _ _ _ h1 h2 h3 => ⟨h1, h2, h3⟩)
    generalize LR w2 (lg n (R ++ [x])).2 (lg n (R ++ [x])).1 = LRx at HIN HOUT
    go_cut [9, 10] (fun s9 s10 wc => LRx s9 s10 wc)
    case first =>
      refine wp_region_held_drew (S := (fun w' => w'.cell? ⟨c, 0, none⟩ = some (.int .i64 x1) ∧ w'.cell? ⟨c, 1, none⟩ = some (.int .i64 x2) ∧ w'.cell? ⟨c, 2, none⟩ = some (.int .i64 x3))) (by kernel_rfl) (by exact unhide CK _ (by repeat (first | (with_reducible exact Keep.refl _) | apply Keep.alloc | apply Keep.drew))) (fun hHeld => ?_)
      refine wpAnyH_take (i := 0) (v := ?_) rfl (by kernel_rfl) (by kernel_rfl) (by kernel_rfl) (fun _ _ _ h => h) (Or.inl ⟨by rfl, ?_⟩) hHeld ?_
      rotate_left
      · intro w hSw
        try dsimp only at hSw
        go_simp
        try with_reducible rfl
      show wpAnyH _ _ _ _ _ _ _ (Act.put _ (some 25) _) _
      try simp only [Act.put, List.setIfInBounds_toArray, List.set_cons_zero, List.set_cons_succ]
      refine wpAnyH_take (i := 2) (v := ?_) rfl (by kernel_rfl) (by kernel_rfl) (by kernel_rfl) (fun _ _ _ h => h) (Or.inl ⟨by rfl, ?_⟩) hHeld ?_
      rotate_left
      · intro w hSw
        try dsimp only at hSw
        go_simp
        try with_reducible rfl
      show wpAnyH _ _ _ _ _ _ _ (Act.put _ (some 27) _) _
      try simp only [Act.put, List.setIfInBounds_toArray, List.set_cons_zero, List.set_cons_succ]
      refine wpAnyH_take (i := 4) (v := ?_) rfl (by kernel_rfl) (by kernel_rfl) (by kernel_rfl) (fun _ _ _ h => h) (Or.inl ⟨by rfl, ?_⟩) hHeld ?_
      rotate_left
      · intro w hSw
        try dsimp only at hSw
        go_simp
        try with_reducible rfl
      show wpAnyH _ _ _ _ _ _ _ (Act.put _ (some 29) _) _
      try simp only [Act.put, List.setIfInBounds_toArray, List.set_cons_zero, List.set_cons_succ]
      refine wpAnyH_ready (rs := [1, 5]) (by kernel_rfl) (by simp) ?_
      refine AllReadyH.cons rfl (fun K hK => ?_) (AllReadyH.cons rfl (fun K hK => ?_) AllReadyH.nil)
      · skip
        go_simp
        clear hHeld
        refine hK.out _ _ ?_ (fun hHeld => ?_)
        · exact unhide CK _ (by repeat (first | (with_reducible exact Keep.refl _) | apply Keep.alloc | apply Keep.drew))
        clear hK K
        try simp only [Act.put, List.setIfInBounds_toArray, List.set_cons_zero, List.set_cons_succ]
        refine wpAnyH_ready (rs := [3, 5]) (by kernel_rfl) (by simp) ?_
        refine AllReadyH.cons rfl (fun K hK => ?_) (AllReadyH.cons rfl (fun K hK => ?_) AllReadyH.nil)
        · skip
          have OA : Hid ((w2.alloc (.cells #[] 34)).drew.ownsRow w2.heap.size 34 3 (.slice (some ⟨w2.heap.size, 0, none⟩) 0 0) 0 []) := hide (own_k (e_row w2 34 3) (Keep.refl _).drew)
          have KA : Hid (Keep w2 (w2.alloc (.cells #[] 34)).drew) := hide (by repeat (first | (with_reducible exact Keep.refl _) | apply Keep.alloc | apply Keep.drew))
          have VA := hide ((unhide HVs).keep ((unhide K2).trans (unhide KA)))
          clear hHeld
          refine wp_append_vs _ _ _ 22 rfl w2.heap.size 34 i0 _ 3 24 Tryd.underlying22 hi0 hz0 hz1 hz2 rfl (by decide) (by decide) _ 0 [] rfl (unhide OA) _ rl (ecs R) rfl (unhide VA) (unhide HL1) (unhide HL2) (by omega) (unhide KA).size ?_
          intro v5 w5 hown hgrow
          rw [Nat.zero_add, List.nil_append] at hown
          have O5 := hide hown
          have K5 : Hid (Keep w2 w5) := hide (Below.grown (unhide KA) hgrow (unhide KA).size (fun j ej => ((unhide OA).lt j ej).1))
          clear hgrow
          clear hown
          refine hK.out _ _ (unhide CK _ (unhide K5)) (fun hHeld => ?_)
          clear hK K
          try simp only [Act.put, List.setIfInBounds_toArray, List.set_cons_zero, List.set_cons_succ]
          have KB := hide ((unhide K5).alloc (.cells #[.int .i64 x1, .int .i64 x2, .int .i64 x3] 34))
          have OB := hide ((unhide O5).alloc (.cells #[.int .i64 x1, .int .i64 x2, .int .i64 x3] 34))
          have VB : Hid (Vs (w5.alloc (.cells #[.int .i64 x1, .int .i64 x2, .int .i64 x3] 34)) (.slice (some ⟨w5.heap.size, 0, none⟩) 1 1) 1 (ecs [x])) := hide (by rw [unhide EC]; exact ⟨_, 1, rfl, fun j u hj => ⟨_, rfl, new_v w5 _ _ j u hj⟩⟩)
          refine wpAnyH_ready (rs := [5]) (by kernel_rfl) (by simp) ?_
          refine AllReadyH.cons rfl (fun K hK => ?_) AllReadyH.nil
          go_simp
          clear hHeld
          refine hK.out _ _ ?_ (fun hHeld => ?_)
          · exact unhide CK _ (unhide KB)
          clear hK K
          try simp only [Act.put, List.setIfInBounds_toArray, List.set_cons_zero, List.set_cons_succ]
          refine wpAnyH_ready (rs := [6]) (by kernel_rfl) (by simp) ?_
          refine AllReadyH.cons rfl (fun K hK => ?_) AllReadyH.nil
          clear hHeld
          refine wp_append_vs _ _ _ 22 rfl w2.heap.size 34 i0 _ 3 24 Tryd.underlying22 hi0 hz0 hz1 hz2 rfl (by decide) (by decide) _ rl (ecs R) rfl (unhide OB) _ 1 (ecs [x]) rfl (unhide VB) (unhide HL3) (unhide HL4) (by omega) (unhide KB).size ?_
          intro v7 w7 hown hgrow
          rw [unhide HE9] at hown
          have E7 := hide (es_own hown (unhide HLx))
          have K7 : Hid (Keep w2 w7) := hide (Below.grown (unhide KB) hgrow (unhide KB).size (fun j ej => ((unhide OB).lt j ej).1))
          clear hown hgrow
          refine hK.out _ _ (unhide CK _ (unhide K7)) (fun hHeld => ?_)
          clear hK K
          try simp only [Act.put, List.setIfInBounds_toArray, List.set_cons_zero, List.set_cons_succ]
          refine wpAnyH_ready (rs := [7]) (by kernel_rfl) (by simp) ?_
          refine AllReadyH.cons rfl (fun K hK => ?_) AllReadyH.nil
          go_simp
          clear hHeld
          (refine ((unhide T2) _ _ (unhide E7)).mono ?_; rintro e w8 ⟨u8, rfl, hk9, hi9⟩; have K8 : Hid (Keep w2 w8) := hide ((unhide K7).trans hk9); have I8 := hide hi9; clear hk9 hi9)
          try go_wp2_with fail
          refine hK.out _ _ ?_ (fun hHeld => ?_)
          · exact unhide CK _ (unhide K8)
          clear hK K
          try simp only [Act.put, List.setIfInBounds_toArray, List.set_cons_zero, List.set_cons_succ]
          refine wpAnyH_take (i := 8) (v := ?_) rfl (by kernel_rfl) (by kernel_rfl) (by kernel_rfl) (fun _ _ _ h => h) (Or.inl ⟨by rfl, ?_⟩) hHeld ?_
          rotate_left
          · intro w hSw
            try dsimp only at hSw
            go_simp
            try with_reducible rfl
          show wpAnyH _ _ _ _ _ _ _ (Act.put _ (some 24) _) _
          try simp only [Act.put, List.setIfInBounds_toArray, List.set_cons_zero, List.set_cons_succ]
          refine wpAnyH_take (i := 9) (v := ?_) rfl (by kernel_rfl) (by kernel_rfl) (by kernel_rfl) (fun _ _ _ h => h) (Or.inl ⟨by rfl, ?_⟩) hHeld ?_
          rotate_left
          · intro w hSw
            try dsimp only at hSw
            go_simp
            try with_reducible rfl
          show wpAnyH _ _ _ _ _ _ _ (Act.put _ (some 33) _) _
          try simp only [Act.put, List.setIfInBounds_toArray, List.set_cons_zero, List.set_cons_succ]
          refine wpAnyH_take (i := 10) (v := ?_) rfl (by kernel_rfl) (by kernel_rfl) (by kernel_rfl) (fun _ _ _ h => h) (Or.inl ⟨by rfl, ?_⟩) hHeld ?_
          rotate_left
          · intro w hSw
            try dsimp only at hSw
            go_simp
            try with_reducible rfl
          show wpAnyH _ _ _ _ _ _ _ (Act.put _ (some 34) _) _
          try simp only [Act.put, List.setIfInBounds_toArray, List.set_cons_zero, List.set_cons_succ]
          refine wpAnyH_take (i := 11) (v := ?_) rfl (by kernel_rfl) (by kernel_rfl) (by kernel_rfl) (fun _ _ _ h => h) (Or.inl ⟨by rfl, ?_⟩) hHeld ?_
          rotate_left
          · intro w hSw
            try dsimp only at hSw
            go_simp
            try with_reducible rfl
          show wpAnyH _ _ _ _ _ _ _ (Act.put _ (some 9) _) _
          try simp only [Act.put, List.setIfInBounds_toArray, List.set_cons_zero, List.set_cons_succ]
          refine wpAnyH_take (i := 12) (v := ?_) rfl (by kernel_rfl) (by kernel_rfl) (by kernel_rfl) (fun _ _ _ h => h) (Or.inl ⟨by rfl, ?_⟩) hHeld ?_
          rotate_left
          · intro w hSw
            try dsimp only at hSw
            go_simp
            try with_reducible rfl
          show wpAnyH _ _ _ _ _ _ _ (Act.put _ (some 10) _) _
          try simp only [Act.put, List.setIfInBounds_toArray, List.set_cons_zero, List.set_cons_succ]
          refine wpAnyH_done (by kernel_rfl) ?_ _
          clear hHeld
          go_wp2_with fail
          go_meet
          exact (unhide HOUT) _ _ _ rfl (unhide K8) (unhide I8)
        · skip
          go_simp
          clear hHeld
          refine hK.out _ _ ?_ (fun hHeld => ?_)
          · exact unhide CK _ (by repeat (first | (with_reducible exact Keep.refl _) | apply Keep.alloc | apply Keep.drew))
          clear hK K
          try simp only [Act.put, List.setIfInBounds_toArray, List.set_cons_zero, List.set_cons_succ]
          have KA : Hid (Keep w2 ((w2.alloc (.cells #[] 34)).alloc (.cells #[.int .i64 x1, .int .i64 x2, .int .i64 x3] 34)).drew) := hide (by repeat (first | (with_reducible exact Keep.refl _) | apply Keep.alloc | apply Keep.drew))
          have OA : Hid (((w2.alloc (.cells #[] 34)).alloc (.cells #[.int .i64 x1, .int .i64 x2, .int .i64 x3] 34)).drew.ownsRow w2.heap.size 34 3 (.slice (some ⟨w2.heap.size, 0, none⟩) 0 0) 0 []) := hide (own_k ((e_row w2 34 3).alloc (.cells #[.int .i64 x1, .int .i64 x2, .int .i64 x3] 34)) (Keep.refl _).drew)
          have XA : Hid (Vs ((w2.alloc (.cells #[] 34)).alloc (.cells #[.int .i64 x1, .int .i64 x2, .int .i64 x3] 34)).drew (.slice (some ⟨(w2.alloc (.cells #[] 34)).heap.size, 0, none⟩) 1 1) 1 (ecs [x])) := hide (by rw [unhide EC]; exact ⟨_, 1, rfl, fun j u hj => ⟨_, rfl, kc (Keep.refl _).drew (new_v (w2.alloc (.cells #[] 34)) _ _ j u hj)⟩⟩)
          rw [World.size_alloc] at XA
          have VA := hide ((unhide HVs).keep ((unhide K2).trans (unhide KA)))
          refine wpAnyH_ready (rs := [3]) (by kernel_rfl) (by simp) ?_
          refine AllReadyH.cons rfl (fun K hK => ?_) AllReadyH.nil
          clear hHeld
          refine wp_append_vs _ _ _ 22 rfl w2.heap.size 34 i0 _ 3 24 Tryd.underlying22 hi0 hz0 hz1 hz2 rfl (by decide) (by decide) _ 0 [] rfl (unhide OA) _ rl (ecs R) rfl (unhide VA) (unhide HL1) (unhide HL2) (by omega) (unhide KA).size ?_
          intro v5 w5 hown hgrow
          rw [Nat.zero_add, List.nil_append] at hown
          have O5 := hide hown
          have K5 : Hid (Keep w2 w5) := hide (Below.grown (unhide KA) hgrow (unhide KA).size (fun j ej => ((unhide OA).lt j ej).1))
          have hx5 : w5.heap[w2.heap.size + 1]? = ((w2.alloc (.cells #[] 34)).alloc (.cells #[.int .i64 x1, .int .i64 x2, .int .i64 x3] 34)).drew.heap[w2.heap.size + 1]? := hgrow.block _ (by show _ < ((w2.alloc (.cells #[] 34)).alloc (.cells #[.int .i64 x1, .int .i64 x2, .int .i64 x3] 34)).heap.size; simp) (by intro e; injection e with e; dsimp only at e; omega)
          have X5 : Hid (Vs w5 (.slice (some ⟨w2.heap.size + 1, 0, none⟩) 1 1) 1 (ecs [x])) := hide (vs_block (unhide XA) hx5)
          clear hgrow hx5
          clear hown
          refine hK.out _ _ (unhide CK _ (unhide K5)) (fun hHeld => ?_)
          clear hK K
          try simp only [Act.put, List.setIfInBounds_toArray, List.set_cons_zero, List.set_cons_succ]
          refine wpAnyH_ready (rs := [6]) (by kernel_rfl) (by simp) ?_
          refine AllReadyH.cons rfl (fun K hK => ?_) AllReadyH.nil
          clear hHeld
          refine wp_append_vs _ _ _ 22 rfl w2.heap.size 34 i0 _ 3 24 Tryd.underlying22 hi0 hz0 hz1 hz2 rfl (by decide) (by decide) _ rl (ecs R) rfl (unhide O5) _ 1 (ecs [x]) rfl (unhide X5) (unhide HL3) (unhide HL4) (by omega) (unhide K5).size ?_
          intro v7 w7 hown hgrow
          rw [unhide HE9] at hown
          have E7 := hide (es_own hown (unhide HLx))
          have K7 : Hid (Keep w2 w7) := hide (Below.grown (unhide K5) hgrow (unhide K5).size (fun j ej => ((unhide O5).lt j ej).1))
          clear hown hgrow
          refine hK.out _ _ (unhide CK _ (unhide K7)) (fun hHeld => ?_)
          clear hK K
          try simp only [Act.put, List.setIfInBounds_toArray, List.set_cons_zero, List.set_cons_succ]
          refine wpAnyH_ready (rs := [7]) (by kernel_rfl) (by simp) ?_
          refine AllReadyH.cons rfl (fun K hK => ?_) AllReadyH.nil
          go_simp
          clear hHeld
          (refine ((unhide T2) _ _ (unhide E7)).mono ?_; rintro e w8 ⟨u8, rfl, hk9, hi9⟩; have K8 : Hid (Keep w2 w8) := hide ((unhide K7).trans hk9); have I8 := hide hi9; clear hk9 hi9)
          try go_wp2_with fail
          refine hK.out _ _ ?_ (fun hHeld => ?_)
          · exact unhide CK _ (unhide K8)
          clear hK K
          try simp only [Act.put, List.setIfInBounds_toArray, List.set_cons_zero, List.set_cons_succ]
          refine wpAnyH_take (i := 8) (v := ?_) rfl (by kernel_rfl) (by kernel_rfl) (by kernel_rfl) (fun _ _ _ h => h) (Or.inl ⟨by rfl, ?_⟩) hHeld ?_
          rotate_left
          · intro w hSw
            try dsimp only at hSw
            go_simp
            try with_reducible rfl
          show wpAnyH _ _ _ _ _ _ _ (Act.put _ (some 24) _) _
          try simp only [Act.put, List.setIfInBounds_toArray, List.set_cons_zero, List.set_cons_succ]
          refine wpAnyH_take (i := 9) (v := ?_) rfl (by kernel_rfl) (by kernel_rfl) (by kernel_rfl) (fun _ _ _ h => h) (Or.inl ⟨by rfl, ?_⟩) hHeld ?_
          rotate_left
          · intro w hSw
            try dsimp only at hSw
            go_simp
            try with_reducible rfl
          show wpAnyH _ _ _ _ _ _ _ (Act.put _ (some 33) _) _
          try simp only [Act.put, List.setIfInBounds_toArray, List.set_cons_zero, List.set_cons_succ]
          refine wpAnyH_take (i := 10) (v := ?_) rfl (by kernel_rfl) (by kernel_rfl) (by kernel_rfl) (fun _ _ _ h => h) (Or.inl ⟨by rfl, ?_⟩) hHeld ?_
          rotate_left
          · intro w hSw
            try dsimp only at hSw
            go_simp
            try with_reducible rfl
          show wpAnyH _ _ _ _ _ _ _ (Act.put _ (some 34) _) _
          try simp only [Act.put, List.setIfInBounds_toArray, List.set_cons_zero, List.set_cons_succ]
          refine wpAnyH_take (i := 11) (v := ?_) rfl (by kernel_rfl) (by kernel_rfl) (by kernel_rfl) (fun _ _ _ h => h) (Or.inl ⟨by rfl, ?_⟩) hHeld ?_
          rotate_left
          · intro w hSw
            try dsimp only at hSw
            go_simp
            try with_reducible rfl
          show wpAnyH _ _ _ _ _ _ _ (Act.put _ (some 9) _) _
          try simp only [Act.put, List.setIfInBounds_toArray, List.set_cons_zero, List.set_cons_succ]
          refine wpAnyH_take (i := 12) (v := ?_) rfl (by kernel_rfl) (by kernel_rfl) (by kernel_rfl) (fun _ _ _ h => h) (Or.inl ⟨by rfl, ?_⟩) hHeld ?_
          rotate_left
          · intro w hSw
            try dsimp only at hSw
            go_simp
            try with_reducible rfl
          show wpAnyH _ _ _ _ _ _ _ (Act.put _ (some 10) _) _
          try simp only [Act.put, List.setIfInBounds_toArray, List.set_cons_zero, List.set_cons_succ]
          refine wpAnyH_done (by kernel_rfl) ?_ _
          clear hHeld
          go_wp2_with fail
          go_meet
          exact (unhide HOUT) _ _ _ rfl (unhide K8) (unhide I8)
      · skip
        go_simp
        clear hHeld
        refine hK.out _ _ ?_ (fun hHeld => ?_)
        · exact unhide CK _ (by repeat (first | (with_reducible exact Keep.refl _) | apply Keep.alloc | apply Keep.drew))
        clear hK K
        try simp only [Act.put, List.setIfInBounds_toArray, List.set_cons_zero, List.set_cons_succ]
        refine wpAnyH_ready (rs := [1]) (by kernel_rfl) (by simp) ?_
        refine AllReadyH.cons rfl (fun K hK => ?_) AllReadyH.nil
        go_simp
        clear hHeld
        refine hK.out _ _ ?_ (fun hHeld => ?_)
        · exact unhide CK _ (by repeat (first | (with_reducible exact Keep.refl _) | apply Keep.alloc | apply Keep.drew))
        clear hK K
        try simp only [Act.put, List.setIfInBounds_toArray, List.set_cons_zero, List.set_cons_succ]
        have KA : Hid (Keep w2 ((w2.alloc (.cells #[.int .i64 x1, .int .i64 x2, .int .i64 x3] 34)).alloc (.cells #[] 34)).drew) := hide (by repeat (first | (with_reducible exact Keep.refl _) | apply Keep.alloc | apply Keep.drew))
        have OA : Hid (((w2.alloc (.cells #[.int .i64 x1, .int .i64 x2, .int .i64 x3] 34)).alloc (.cells #[] 34)).drew.ownsRow w2.heap.size 34 3 (.slice (some ⟨(w2.alloc (.cells #[.int .i64 x1, .int .i64 x2, .int .i64 x3] 34)).heap.size, 0, none⟩) 0 0) 0 []) := hide (own_k (own_mono (e_row (w2.alloc (.cells #[.int .i64 x1, .int .i64 x2, .int .i64 x3] 34)) 34 3) (by simp)) (Keep.refl _).drew)
        rw [World.size_alloc] at OA
        have XA : Hid (Vs ((w2.alloc (.cells #[.int .i64 x1, .int .i64 x2, .int .i64 x3] 34)).alloc (.cells #[] 34)).drew (.slice (some ⟨w2.heap.size, 0, none⟩) 1 1) 1 (ecs [x])) := hide (by rw [unhide EC]; exact ⟨_, 1, rfl, fun j u hj => ⟨_, rfl, kc ((Keep.refl _).alloc _).drew (new_v w2 _ _ j u hj)⟩⟩)
        have VA := hide ((unhide HVs).keep ((unhide K2).trans (unhide KA)))
        refine wpAnyH_ready (rs := [3]) (by kernel_rfl) (by simp) ?_
        refine AllReadyH.cons rfl (fun K hK => ?_) AllReadyH.nil
        clear hHeld
        refine wp_append_vs _ _ _ 22 rfl w2.heap.size 34 i0 _ 3 24 Tryd.underlying22 hi0 hz0 hz1 hz2 rfl (by decide) (by decide) _ 0 [] rfl (unhide OA) _ rl (ecs R) rfl (unhide VA) (unhide HL1) (unhide HL2) (by omega) (unhide KA).size ?_
        intro v5 w5 hown hgrow
        rw [Nat.zero_add, List.nil_append] at hown
        have O5 := hide hown
        have K5 : Hid (Keep w2 w5) := hide (Below.grown (unhide KA) hgrow (unhide KA).size (fun j ej => ((unhide OA).lt j ej).1))
        have hx5 : w5.heap[w2.heap.size]? = ((w2.alloc (.cells #[.int .i64 x1, .int .i64 x2, .int .i64 x3] 34)).alloc (.cells #[] 34)).drew.heap[w2.heap.size]? := hgrow.block _ (by show _ < ((w2.alloc (.cells #[.int .i64 x1, .int .i64 x2, .int .i64 x3] 34)).alloc (.cells #[] 34)).heap.size; simp; omega) (by intro e; injection e with e; dsimp only at e; omega)
        have X5 : Hid (Vs w5 (.slice (some ⟨w2.heap.size, 0, none⟩) 1 1) 1 (ecs [x])) := hide (vs_block (unhide XA) hx5)
        clear hgrow hx5
        clear hown
        refine hK.out _ _ (unhide CK _ (unhide K5)) (fun hHeld => ?_)
        clear hK K
        try simp only [Act.put, List.setIfInBounds_toArray, List.set_cons_zero, List.set_cons_succ]
        refine wpAnyH_ready (rs := [6]) (by kernel_rfl) (by simp) ?_
        refine AllReadyH.cons rfl (fun K hK => ?_) AllReadyH.nil
        clear hHeld
        refine wp_append_vs _ _ _ 22 rfl w2.heap.size 34 i0 _ 3 24 Tryd.underlying22 hi0 hz0 hz1 hz2 rfl (by decide) (by decide) _ rl (ecs R) rfl (unhide O5) _ 1 (ecs [x]) rfl (unhide X5) (unhide HL3) (unhide HL4) (by omega) (unhide K5).size ?_
        intro v7 w7 hown hgrow
        rw [unhide HE9] at hown
        have E7 := hide (es_own hown (unhide HLx))
        have K7 : Hid (Keep w2 w7) := hide (Below.grown (unhide K5) hgrow (unhide K5).size (fun j ej => ((unhide O5).lt j ej).1))
        clear hown hgrow
        refine hK.out _ _ (unhide CK _ (unhide K7)) (fun hHeld => ?_)
        clear hK K
        try simp only [Act.put, List.setIfInBounds_toArray, List.set_cons_zero, List.set_cons_succ]
        refine wpAnyH_ready (rs := [7]) (by kernel_rfl) (by simp) ?_
        refine AllReadyH.cons rfl (fun K hK => ?_) AllReadyH.nil
        go_simp
        clear hHeld
        (refine ((unhide T2) _ _ (unhide E7)).mono ?_; rintro e w8 ⟨u8, rfl, hk9, hi9⟩; have K8 : Hid (Keep w2 w8) := hide ((unhide K7).trans hk9); have I8 := hide hi9; clear hk9 hi9)
        try go_wp2_with fail
        refine hK.out _ _ ?_ (fun hHeld => ?_)
        · exact unhide CK _ (unhide K8)
        clear hK K
        try simp only [Act.put, List.setIfInBounds_toArray, List.set_cons_zero, List.set_cons_succ]
        refine wpAnyH_take (i := 8) (v := ?_) rfl (by kernel_rfl) (by kernel_rfl) (by kernel_rfl) (fun _ _ _ h => h) (Or.inl ⟨by rfl, ?_⟩) hHeld ?_
        rotate_left
        · intro w hSw
          try dsimp only at hSw
          go_simp
          try with_reducible rfl
        show wpAnyH _ _ _ _ _ _ _ (Act.put _ (some 24) _) _
        try simp only [Act.put, List.setIfInBounds_toArray, List.set_cons_zero, List.set_cons_succ]
        refine wpAnyH_take (i := 9) (v := ?_) rfl (by kernel_rfl) (by kernel_rfl) (by kernel_rfl) (fun _ _ _ h => h) (Or.inl ⟨by rfl, ?_⟩) hHeld ?_
        rotate_left
        · intro w hSw
          try dsimp only at hSw
          go_simp
          try with_reducible rfl
        show wpAnyH _ _ _ _ _ _ _ (Act.put _ (some 33) _) _
        try simp only [Act.put, List.setIfInBounds_toArray, List.set_cons_zero, List.set_cons_succ]
        refine wpAnyH_take (i := 10) (v := ?_) rfl (by kernel_rfl) (by kernel_rfl) (by kernel_rfl) (fun _ _ _ h => h) (Or.inl ⟨by rfl, ?_⟩) hHeld ?_
        rotate_left
        · intro w hSw
          try dsimp only at hSw
          go_simp
          try with_reducible rfl
        show wpAnyH _ _ _ _ _ _ _ (Act.put _ (some 34) _) _
        try simp only [Act.put, List.setIfInBounds_toArray, List.set_cons_zero, List.set_cons_succ]
        refine wpAnyH_take (i := 11) (v := ?_) rfl (by kernel_rfl) (by kernel_rfl) (by kernel_rfl) (fun _ _ _ h => h) (Or.inl ⟨by rfl, ?_⟩) hHeld ?_
        rotate_left
        · intro w hSw
          try dsimp only at hSw
          go_simp
          try with_reducible rfl
        show wpAnyH _ _ _ _ _ _ _ (Act.put _ (some 9) _) _
        try simp only [Act.put, List.setIfInBounds_toArray, List.set_cons_zero, List.set_cons_succ]
        refine wpAnyH_take (i := 12) (v := ?_) rfl (by kernel_rfl) (by kernel_rfl) (by kernel_rfl) (fun _ _ _ h => h) (Or.inl ⟨by rfl, ?_⟩) hHeld ?_
        rotate_left
        · intro w hSw
          try dsimp only at hSw
          go_simp
          try with_reducible rfl
        show wpAnyH _ _ _ _ _ _ _ (Act.put _ (some 10) _) _
        try simp only [Act.put, List.setIfInBounds_toArray, List.set_cons_zero, List.set_cons_succ]
        refine wpAnyH_done (by kernel_rfl) ?_ _
        clear hHeld
        go_wp2_with fail
        go_meet
        exact (unhide HOUT) _ _ _ rfl (unhide K8) (unhide I8)
    case rest =>
      obtain ⟨hs10, hk8, hi8⟩ := (unhide HIN) _ _ _ hcut
      subst hs10
      have K8 := hide ((unhide K2).trans hk8)
      have I8 := hide hi8
      have I9 := hide ((unhide I2).keep hk8)
      have CK8 : Hid (∀ w', Keep wc w' → w'.cell? ⟨c, 0, none⟩ = some (.int .i64 x1) ∧ w'.cell? ⟨c, 1, none⟩ = some (.int .i64 x2) ∧ w'.cell? ⟨c, 2, none⟩ = some (.int .i64 x3)) := hide (fun w' hk => (unhide CK) w' (hk8.trans hk))
      clear hk8 hi8 I2 C2 CK HIN HOUT
      by_cases hE : (lg n (R ++ [x])).2 = 0
      · obtain ⟨m, d, d', f, t, l, rfl, hm1, hm2, hlg, hlg', hdl, hdl', hxx, hf, ht, hl0, hl6, hbd, hge, hiff⟩ := (unhide HMF) hE
        rw [hlg'] at I8 ⊢
        rw [hlg] at I9 ⊢
        simp only at I8 I9 ⊢
        obtain ⟨g9, c9, rfl, hd9⟩ := iw_cell (unhide I9) (by rw [hdl]; omega)
        obtain ⟨g8, c8, rfl, hd8⟩ := iw_cell (unhide I8) (by rw [hdl']; omega)
        have HDc : Hid (∀ p, p < m → wc.cell? ⟨g9, p, none⟩ = some (.int .i64 (g d p)) ∧ wc.cell? ⟨g8, p, none⟩ = some (.int .i64 (g d' p))) := hide (fun p hp => ⟨by rw [hd9 p (by rw [hdl]; exact hp), g_at (by rw [hdl]; exact hp)], by rw [hd8 p (by rw [hdl']; exact hp), g_at (by rw [hdl']; exact hp)]⟩)
        have HB := hide hbd
        have HGe := hide hge
        obtain ⟨Sk, hSk⟩ : ∃ Sk : Nat → Bool, ∀ k, Sk k = decide (∀ j, j < k → g d j = g d' j) := ⟨_, fun k => rfl⟩
        have HS0 : Hid (Sk 0 = true) := hide (by rw [hSk]; exact decide_eq_true (fun j hj => by omega))
        have HSn : Hid (∀ k, Sk (k + 1) = (Sk k && (g d k == g d' k))) := hide (fun k => by
          rw [hSk, hSk]
          by_cases h1 : ∀ j, j < k → g d j = g d' j
          · rw [decide_eq_true h1, Bool.true_and]
            by_cases h2 : g d k = g d' k
            · rw [decide_eq_true (fun j hj => by
                rcases Nat.lt_or_eq_of_le (Nat.le_of_lt_succ hj) with h3 | h3
                · exact h1 j h3
                · rw [h3]; exact h2)]
              simp [h2]
            · rw [decide_eq_false (fun h3 => h2 (h3 k (Nat.lt_succ_self k)))]
              simp [h2]
          · rw [decide_eq_false h1, decide_eq_false (fun h3 => h1 (fun j hj => h3 j (by omega)))]; rfl)
        have HSm : Hid (Sk m = decide (g d f < 0 ∨ g d f + l ≤ g d t)) := hide (by
          rw [hSk]
          have : (∀ j, j < m → g d j = g d' j) ↔ d = d' := ⟨fun h => g_ext hdl hdl' (fun p => by
            by_cases hp : p < m
            · exact h p hp
            · unfold g; rw [List.getD_eq_getElem?_getD, List.getD_eq_getElem?_getD, List.getElem?_eq_none (by omega), List.getElem?_eq_none (by omega)]), fun h j _ => by rw [h]⟩
          by_cases h1 : d = d'
          · rw [decide_eq_true (this.2 h1), decide_eq_true (hiff.1 h1)]
          · rw [decide_eq_false (fun h2 => h1 (this.1 h2)), decide_eq_false (fun h2 => h1 (hiff.2 h2))])
        obtain ⟨hx1, hx2, hx3⟩ := unhide HX
        rw [hxx] at hx1 hx2 hx3
        simp only at hx1 hx2 hx3
        subst hx1 hx2 hx3
        rw [hdl, hdl']
        have hbm : ((m : Int) != (m : Int)) = false := by simp
        clear hdl hdl' hd8 hd9 hSk hiff hbd hge hlg hlg' hxx hE HME HMF I8 I9 T2 HVs HE9 HLx HL1 HL2 HL3 HL4 EC HX
        go_wp2_with fail
        go_loopw [11, 12] (fun vb vi wr => ∃ k : Nat, vi = .int .i64 (k : Int) ∧ k ≤ m ∧ vb = .bool (Sk k) ∧ Hid (Keep wc wr)) (fun _ vi _ => m - (intOf vi).toNat)
        case atStart => exact ⟨0, rfl, Nat.zero_le _, by rw [unhide HS0], hide (Keep.refl _)⟩
        case round =>
          obtain ⟨k, rfl, hk, rfl, KW⟩ := hrel
          by_cases hlt : k < m
          · have li : (k : Int) < (m : Int) := by omega
            have lz : (0 : Int) ≤ (k : Int) := by omega
            obtain ⟨y0, z0⟩ := (unhide HDc) k hlt
            have hge := (unhide HGe) k
            have hbk := (unhide HB) k
            have HSk := hide ((unhide HSn) k)
            obtain ⟨y, hy⟩ : ∃ y, g d k = y := ⟨_, rfl⟩
            obtain ⟨z, hz⟩ : ∃ z, g d' k = z := ⟨_, rfl⟩
            rw [hy] at y0 hge hbk HSk
            rw [hz] at z0 hge HSk
            clear hy hz
            have CY : Hid (∀ w', Keep wr w' → w'.cell? ⟨g9, k, none⟩ = some (.int .i64 y) ∧ w'.cell? ⟨g8, k, none⟩ = some (.int .i64 z)) := hide (fun w' hk => ⟨kc hk (kc (unhide KW) y0), kc hk (kc (unhide KW) z0)⟩)
            have hdec : decide (z < y) = false := decide_eq_false (by omega)
            clear y0 z0
            go_upto_region 13 with fail
            refine wp_region_held_drew (S := (fun w' => w'.cell? ⟨g9, k, none⟩ = some (.int .i64 y) ∧ w'.cell? ⟨g8, k, none⟩ = some (.int .i64 z))) (by kernel_rfl) (by exact unhide CY _ (by repeat (first | apply Keep.drew | exact Keep.refl _))) (fun hHeld => ?_)
            refine wpAnyH_take (i := 0) (v := ?_) rfl (by kernel_rfl) (by kernel_rfl) (by kernel_rfl) (fun _ _ _ h => h) (Or.inl ⟨by rfl, ?_⟩) hHeld ?_
            rotate_left
            · intro w hSw
              try dsimp only at hSw
              go_simp
              try with_reducible rfl
            show wpAnyH _ _ _ _ _ _ _ (Act.put _ (some 65) _) _
            try simp only [Act.put, List.setIfInBounds_toArray, List.set_cons_zero, List.set_cons_succ]
            refine wpAnyH_take (i := 1) (v := ?_) rfl (by kernel_rfl) (by kernel_rfl) (by kernel_rfl) (fun _ _ _ h => h) (Or.inl ⟨by rfl, ?_⟩) hHeld ?_
            rotate_left
            · intro w hSw
              try dsimp only at hSw
              go_simp
              try with_reducible rfl
            show wpAnyH _ _ _ _ _ _ _ (Act.put _ (some 66) _) _
            try simp only [Act.put, List.setIfInBounds_toArray, List.set_cons_zero, List.set_cons_succ]
            refine wpAnyH_take (i := 2) (v := ?_) rfl (by kernel_rfl) (by kernel_rfl) (by kernel_rfl) (fun _ _ _ h => h) (Or.inl ⟨by rfl, ?_⟩) hHeld ?_
            rotate_left
            · intro w hSw
              try dsimp only at hSw
              go_simp
              try with_reducible rfl
            show wpAnyH _ _ _ _ _ _ _ (Act.put _ (some 67) _) _
            try simp only [Act.put, List.setIfInBounds_toArray, List.set_cons_zero, List.set_cons_succ]
            refine wpAnyH_take (i := 3) (v := ?_) rfl (by kernel_rfl) (by kernel_rfl) (by kernel_rfl) (fun _ _ _ h => h) (Or.inl ⟨by rfl, ?_⟩) hHeld ?_
            rotate_left
            · intro w hSw
              try dsimp only at hSw
              go_simp
              try with_reducible rfl
            show wpAnyH _ _ _ _ _ _ _ (Act.put _ (some 68) _) _
            try simp only [Act.put, List.setIfInBounds_toArray, List.set_cons_zero, List.set_cons_succ]
            refine wpAnyH_take (i := 4) (v := ?_) rfl (by kernel_rfl) (by kernel_rfl) (by kernel_rfl) (fun _ _ _ h => h) (Or.inl ⟨by rfl, ?_⟩) hHeld ?_
            rotate_left
            · intro w hSw
              try dsimp only at hSw
              go_simp
              try with_reducible rfl
            show wpAnyH _ _ _ _ _ _ _ (Act.put _ (some 69) _) _
            try simp only [Act.put, List.setIfInBounds_toArray, List.set_cons_zero, List.set_cons_succ]
            refine wpAnyH_take (i := 5) (v := ?_) rfl (by kernel_rfl) (by kernel_rfl) (by kernel_rfl) (fun _ _ _ h => h) (Or.inl ⟨by rfl, ?_⟩) hHeld ?_
            rotate_left
            · intro w hSw
              try dsimp only at hSw
              go_simp
              try with_reducible rfl
            show wpAnyH _ _ _ _ _ _ _ (Act.put _ (some 70) _) _
            try simp only [Act.put, List.setIfInBounds_toArray, List.set_cons_zero, List.set_cons_succ]
            refine wpAnyH_take (i := 6) (v := ?_) rfl (by kernel_rfl) (by kernel_rfl) (by kernel_rfl) (fun _ _ _ h => h) (Or.inl ⟨by rfl, ?_⟩) hHeld ?_
            rotate_left
            · intro w hSw
              try dsimp only at hSw
              go_simp
              try with_reducible rfl
            show wpAnyH _ _ _ _ _ _ _ (Act.put _ (some 71) _) _
            try simp only [Act.put, List.setIfInBounds_toArray, List.set_cons_zero, List.set_cons_succ]
            refine wpAnyH_take (i := 7) (v := ?_) rfl (by kernel_rfl) (by kernel_rfl) (by kernel_rfl) (fun _ _ _ h => h) (Or.inl ⟨by rfl, ?_⟩) hHeld ?_
            rotate_left
            · intro w hSw
              try dsimp only at hSw
              go_simp
              try with_reducible rfl
            show wpAnyH _ _ _ _ _ _ _ (Act.put _ (some 72) _) _
            try simp only [Act.put, List.setIfInBounds_toArray, List.set_cons_zero, List.set_cons_succ]
            refine wpAnyH_take (i := 8) (v := ?_) rfl (by kernel_rfl) (by kernel_rfl) (by kernel_rfl) (fun _ _ _ h => h) (Or.inl ⟨by rfl, ?_⟩) hHeld ?_
            rotate_left
            · intro w hSw
              try dsimp only at hSw
              go_simp
              try with_reducible rfl
            show wpAnyH _ _ _ _ _ _ _ (Act.put _ (some 73) _) _
            try simp only [Act.put, List.setIfInBounds_toArray, List.set_cons_zero, List.set_cons_succ]
            refine wpAnyH_done (by kernel_rfl) ?_ _
            clear hHeld
            cases hS : Sk k with
            | true =>
              have HSx : Hid (Sk (k + 1) = (y == z)) := hide (by rw [unhide HSk, hS, Bool.true_and])
              clear hS HSk
              go_upto_region 15 with fail
              refine wp_region_held_drew (S := (fun w' => w'.cell? ⟨g9, k, none⟩ = some (.int .i64 y) ∧ w'.cell? ⟨g8, k, none⟩ = some (.int .i64 z))) (by kernel_rfl) (by exact unhide CY _ (by repeat (first | apply Keep.drew | exact Keep.refl _))) (fun hHeld => ?_)
              refine wpAnyH_take (i := 0) (v := ?_) rfl (by kernel_rfl) (by kernel_rfl) (by kernel_rfl) (fun _ _ _ h => h) (Or.inl ⟨by rfl, ?_⟩) hHeld ?_
              rotate_left
              · intro w hSw
                try dsimp only at hSw
                go_simp
                try with_reducible rfl
              show wpAnyH _ _ _ _ _ _ _ (Act.put _ (some 74) _) _
              try simp only [Act.put, List.setIfInBounds_toArray, List.set_cons_zero, List.set_cons_succ]
              refine wpAnyH_take (i := 1) (v := ?_) rfl (by kernel_rfl) (by kernel_rfl) (by kernel_rfl) (fun _ _ _ h => h) (Or.inl ⟨by rfl, ?_⟩) hHeld ?_
              rotate_left
              · intro w hSw
                try dsimp only at hSw
                go_simp
                try with_reducible rfl
              show wpAnyH _ _ _ _ _ _ _ (Act.put _ (some 75) _) _
              try simp only [Act.put, List.setIfInBounds_toArray, List.set_cons_zero, List.set_cons_succ]
              refine wpAnyH_take (i := 2) (v := ?_) rfl (by kernel_rfl) (by kernel_rfl) (by kernel_rfl) (fun _ _ _ h => h) (Or.inl ⟨by rfl, ?_⟩) hHeld ?_
              rotate_left
              · intro w hSw
                try dsimp only at hSw
                go_simp
                try with_reducible rfl
              show wpAnyH _ _ _ _ _ _ _ (Act.put _ (some 76) _) _
              try simp only [Act.put, List.setIfInBounds_toArray, List.set_cons_zero, List.set_cons_succ]
              refine wpAnyH_take (i := 3) (v := ?_) rfl (by kernel_rfl) (by kernel_rfl) (by kernel_rfl) (fun _ _ _ h => h) (Or.inl ⟨by rfl, ?_⟩) hHeld ?_
              rotate_left
              · intro w hSw
                try dsimp only at hSw
                go_simp
                try with_reducible rfl
              show wpAnyH _ _ _ _ _ _ _ (Act.put _ (some 77) _) _
              try simp only [Act.put, List.setIfInBounds_toArray, List.set_cons_zero, List.set_cons_succ]
              refine wpAnyH_take (i := 4) (v := ?_) rfl (by kernel_rfl) (by kernel_rfl) (by kernel_rfl) (fun _ _ _ h => h) (Or.inl ⟨by rfl, ?_⟩) hHeld ?_
              rotate_left
              · intro w hSw
                try dsimp only at hSw
                go_simp
                try with_reducible rfl
              show wpAnyH _ _ _ _ _ _ _ (Act.put _ (some 78) _) _
              try simp only [Act.put, List.setIfInBounds_toArray, List.set_cons_zero, List.set_cons_succ]
              refine wpAnyH_take (i := 5) (v := ?_) rfl (by kernel_rfl) (by kernel_rfl) (by kernel_rfl) (fun _ _ _ h => h) (Or.inl ⟨by rfl, ?_⟩) hHeld ?_
              rotate_left
              · intro w hSw
                try dsimp only at hSw
                go_simp
                try with_reducible rfl
              show wpAnyH _ _ _ _ _ _ _ (Act.put _ (some 79) _) _
              try simp only [Act.put, List.setIfInBounds_toArray, List.set_cons_zero, List.set_cons_succ]
              refine wpAnyH_take (i := 6) (v := ?_) rfl (by kernel_rfl) (by kernel_rfl) (by kernel_rfl) (fun _ _ _ h => h) (Or.inl ⟨by rfl, ?_⟩) hHeld ?_
              rotate_left
              · intro w hSw
                try dsimp only at hSw
                go_simp
                try with_reducible rfl
              show wpAnyH _ _ _ _ _ _ _ (Act.put _ (some 80) _) _
              try simp only [Act.put, List.setIfInBounds_toArray, List.set_cons_zero, List.set_cons_succ]
              refine wpAnyH_take (i := 7) (v := ?_) rfl (by kernel_rfl) (by kernel_rfl) (by kernel_rfl) (fun _ _ _ h => h) (Or.inl ⟨by rfl, ?_⟩) hHeld ?_
              rotate_left
              · intro w hSw
                try dsimp only at hSw
                go_simp
                try with_reducible rfl
              show wpAnyH _ _ _ _ _ _ _ (Act.put _ (some 81) _) _
              try simp only [Act.put, List.setIfInBounds_toArray, List.set_cons_zero, List.set_cons_succ]
              refine wpAnyH_take (i := 8) (v := ?_) rfl (by kernel_rfl) (by kernel_rfl) (by kernel_rfl) (fun _ _ _ h => h) (Or.inl ⟨by rfl, ?_⟩) hHeld ?_
              rotate_left
              · intro w hSw
                try dsimp only at hSw
                go_simp
                try with_reducible rfl
              show wpAnyH _ _ _ _ _ _ _ (Act.put _ (some 82) _) _
              try simp only [Act.put, List.setIfInBounds_toArray, List.set_cons_zero, List.set_cons_succ]
              refine wpAnyH_take (i := 9) (v := ?_) rfl (by kernel_rfl) (by kernel_rfl) (by kernel_rfl) (fun _ _ _ h => h) (Or.inl ⟨by rfl, ?_⟩) hHeld ?_
              rotate_left
              · intro w hSw
                try dsimp only at hSw
                go_simp
                try with_reducible rfl
              show wpAnyH _ _ _ _ _ _ _ (Act.put _ (some 83) _) _
              try simp only [Act.put, List.setIfInBounds_toArray, List.set_cons_zero, List.set_cons_succ]
              refine wpAnyH_take (i := 10) (v := ?_) rfl (by kernel_rfl) (by kernel_rfl) (by kernel_rfl) (fun _ _ _ h => h) (Or.inl ⟨by rfl, ?_⟩) hHeld ?_
              rotate_left
              · intro w hSw
                try dsimp only at hSw
                go_simp
                try with_reducible rfl
              show wpAnyH _ _ _ _ _ _ _ (Act.put _ (some 84) _) _
              try simp only [Act.put, List.setIfInBounds_toArray, List.set_cons_zero, List.set_cons_succ]
              refine wpAnyH_take (i := 11) (v := ?_) rfl (by kernel_rfl) (by kernel_rfl) (by kernel_rfl) (fun _ _ _ h => h) (Or.inl ⟨by rfl, ?_⟩) hHeld ?_
              rotate_left
              · intro w hSw
                try dsimp only at hSw
                go_simp
                try with_reducible rfl
              show wpAnyH _ _ _ _ _ _ _ (Act.put _ (some 85) _) _
              try simp only [Act.put, List.setIfInBounds_toArray, List.set_cons_zero, List.set_cons_succ]
              refine wpAnyH_take (i := 12) (v := ?_) rfl (by kernel_rfl) (by kernel_rfl) (by kernel_rfl) (fun _ _ _ h => h) (Or.inl ⟨by rfl, ?_⟩) hHeld ?_
              rotate_left
              · intro w hSw
                try dsimp only at hSw
                go_simp
                try with_reducible rfl
              show wpAnyH _ _ _ _ _ _ _ (Act.put _ (some 11) _) _
              try simp only [Act.put, List.setIfInBounds_toArray, List.set_cons_zero, List.set_cons_succ]
              refine wpAnyH_done (by kernel_rfl) ?_ _
              clear hHeld
              go_wp2_with fail
              go_roundw
              case rel => exact ⟨k + 1, by go_num, by omega, by rw [unhide HSx], hide (by have := unhide KW; repeat (first | exact this | apply Keep.drew))⟩
              case measure => simp [intOf]; omega
            | false =>
              have HSx : Hid (Sk (k + 1) = false) := hide (by rw [unhide HSk, hS, Bool.false_and])
              clear hS HSk
              go_upto_region 15 with fail
              refine wp_region_held_drew (S := (fun w' => w'.cell? ⟨g9, k, none⟩ = some (.int .i64 y) ∧ w'.cell? ⟨g8, k, none⟩ = some (.int .i64 z))) (by kernel_rfl) (by exact unhide CY _ (by repeat (first | apply Keep.drew | exact Keep.refl _))) (fun hHeld => ?_)
              refine wpAnyH_take (i := 0) (v := ?_) rfl (by kernel_rfl) (by kernel_rfl) (by kernel_rfl) (fun _ _ _ h => h) (Or.inl ⟨by rfl, ?_⟩) hHeld ?_
              rotate_left
              · intro w hSw
                try dsimp only at hSw
                go_simp
                try with_reducible rfl
              show wpAnyH _ _ _ _ _ _ _ (Act.put _ (some 74) _) _
              try simp only [Act.put, List.setIfInBounds_toArray, List.set_cons_zero, List.set_cons_succ]
              refine wpAnyH_take (i := 1) (v := ?_) rfl (by kernel_rfl) (by kernel_rfl) (by kernel_rfl) (fun _ _ _ h => h) (Or.inl ⟨by rfl, ?_⟩) hHeld ?_
              rotate_left
              · intro w hSw
                try dsimp only at hSw
                go_simp
                try with_reducible rfl
              show wpAnyH _ _ _ _ _ _ _ (Act.put _ (some 75) _) _
              try simp only [Act.put, List.setIfInBounds_toArray, List.set_cons_zero, List.set_cons_succ]
              refine wpAnyH_take (i := 2) (v := undef) rfl (by kernel_rfl) (by kernel_rfl) (by kernel_rfl) (fun _ _ _ h => h) (Or.inr ⟨by rfl, rfl⟩) hHeld ?_
              show wpAnyH _ _ _ _ _ _ _ (Act.put _ (some 76) _) _
              try simp only [Act.put, List.setIfInBounds_toArray, List.set_cons_zero, List.set_cons_succ]
              refine wpAnyH_take (i := 3) (v := undef) rfl (by kernel_rfl) (by kernel_rfl) (by kernel_rfl) (fun _ _ _ h => h) (Or.inr ⟨by rfl, rfl⟩) hHeld ?_
              show wpAnyH _ _ _ _ _ _ _ (Act.put _ (some 77) _) _
              try simp only [Act.put, List.setIfInBounds_toArray, List.set_cons_zero, List.set_cons_succ]
              refine wpAnyH_take (i := 4) (v := undef) rfl (by kernel_rfl) (by kernel_rfl) (by kernel_rfl) (fun _ _ _ h => h) (Or.inr ⟨by rfl, rfl⟩) hHeld ?_
              show wpAnyH _ _ _ _ _ _ _ (Act.put _ (some 78) _) _
              try simp only [Act.put, List.setIfInBounds_toArray, List.set_cons_zero, List.set_cons_succ]
              refine wpAnyH_take (i := 5) (v := undef) rfl (by kernel_rfl) (by kernel_rfl) (by kernel_rfl) (fun _ _ _ h => h) (Or.inr ⟨by rfl, rfl⟩) hHeld ?_
              show wpAnyH _ _ _ _ _ _ _ (Act.put _ (some 79) _) _
              try simp only [Act.put, List.setIfInBounds_toArray, List.set_cons_zero, List.set_cons_succ]
              refine wpAnyH_take (i := 6) (v := undef) rfl (by kernel_rfl) (by kernel_rfl) (by kernel_rfl) (fun _ _ _ h => h) (Or.inr ⟨by rfl, rfl⟩) hHeld ?_
              show wpAnyH _ _ _ _ _ _ _ (Act.put _ (some 80) _) _
              try simp only [Act.put, List.setIfInBounds_toArray, List.set_cons_zero, List.set_cons_succ]
              refine wpAnyH_take (i := 7) (v := undef) rfl (by kernel_rfl) (by kernel_rfl) (by kernel_rfl) (fun _ _ _ h => h) (Or.inr ⟨by rfl, rfl⟩) hHeld ?_
              show wpAnyH _ _ _ _ _ _ _ (Act.put _ (some 81) _) _
              try simp only [Act.put, List.setIfInBounds_toArray, List.set_cons_zero, List.set_cons_succ]
              refine wpAnyH_take (i := 8) (v := undef) rfl (by kernel_rfl) (by kernel_rfl) (by kernel_rfl) (fun _ _ _ h => h) (Or.inr ⟨by rfl, rfl⟩) hHeld ?_
              show wpAnyH _ _ _ _ _ _ _ (Act.put _ (some 82) _) _
              try simp only [Act.put, List.setIfInBounds_toArray, List.set_cons_zero, List.set_cons_succ]
              refine wpAnyH_take (i := 9) (v := undef) rfl (by kernel_rfl) (by kernel_rfl) (by kernel_rfl) (fun _ _ _ h => h) (Or.inr ⟨by rfl, rfl⟩) hHeld ?_
              show wpAnyH _ _ _ _ _ _ _ (Act.put _ (some 83) _) _
              try simp only [Act.put, List.setIfInBounds_toArray, List.set_cons_zero, List.set_cons_succ]
              refine wpAnyH_take (i := 10) (v := undef) rfl (by kernel_rfl) (by kernel_rfl) (by kernel_rfl) (fun _ _ _ h => h) (Or.inr ⟨by rfl, rfl⟩) hHeld ?_
              show wpAnyH _ _ _ _ _ _ _ (Act.put _ (some 84) _) _
              try simp only [Act.put, List.setIfInBounds_toArray, List.set_cons_zero, List.set_cons_succ]
              refine wpAnyH_take (i := 11) (v := ?_) rfl (by kernel_rfl) (by kernel_rfl) (by kernel_rfl) (fun _ _ _ h => h) (Or.inl ⟨by rfl, ?_⟩) hHeld ?_
              rotate_left
              · intro w hSw
                try dsimp only at hSw
                go_simp
                try with_reducible rfl
              show wpAnyH _ _ _ _ _ _ _ (Act.put _ (some 85) _) _
              try simp only [Act.put, List.setIfInBounds_toArray, List.set_cons_zero, List.set_cons_succ]
              refine wpAnyH_take (i := 12) (v := ?_) rfl (by kernel_rfl) (by kernel_rfl) (by kernel_rfl) (fun _ _ _ h => h) (Or.inl ⟨by rfl, ?_⟩) hHeld ?_
              rotate_left
              · intro w hSw
                try dsimp only at hSw
                go_simp
                try with_reducible rfl
              show wpAnyH _ _ _ _ _ _ _ (Act.put _ (some 11) _) _
              try simp only [Act.put, List.setIfInBounds_toArray, List.set_cons_zero, List.set_cons_succ]
              refine wpAnyH_done (by kernel_rfl) ?_ _
              clear hHeld
              go_wp2_with fail
              go_roundw
              case rel => exact ⟨k + 1, by go_num, by omega, by rw [unhide HSx], hide (by have := unhide KW; repeat (first | exact this | apply Keep.drew))⟩
              case measure => simp [intOf]; omega
          · have li : ¬ (k : Int) < (m : Int) := by omega
            obtain rfl : k = m := by omega
            rw [unhide HSm]
            obtain ⟨y0, _⟩ := (unhide HDc) f hf
            obtain ⟨z0, _⟩ := (unhide HDc) t ht
            have hbf := (unhide HB) f
            obtain ⟨y, hy⟩ : ∃ y, g d f = y := ⟨_, rfl⟩
            obtain ⟨z, hz⟩ : ∃ z, g d t = z := ⟨_, rfl⟩
            rw [hy] at y0 hbf ⊢
            rw [hz] at z0 ⊢
            clear hy hz
            have K9 := hide ((unhide K8).trans (unhide KW))
            have CY : Hid (∀ w', Keep wr w' → w'.cell? ⟨g9, f, none⟩ = some (.int .i64 y) ∧ w'.cell? ⟨g9, t, none⟩ = some (.int .i64 z) ∧ w'.cell? ⟨c, 0, none⟩ = some (.int .i64 (f : Int)) ∧ w'.cell? ⟨c, 1, none⟩ = some (.int .i64 (t : Int)) ∧ w'.cell? ⟨c, 2, none⟩ = some (.int .i64 l)) := hide (fun w' hk => ⟨kc hk (kc (unhide KW) y0), kc hk (kc (unhide KW) z0), (unhide CK8) w' ((unhide KW).trans hk)⟩)
            have fz : (0 : Int) ≤ (f : Int) := by omega
            have tz : (0 : Int) ≤ (t : Int) := by omega
            have fi : (f : Int) < (k : Int) := by omega
            have ti : (t : Int) < (k : Int) := by omega
            have hw : IntKind.i64.wrap (y + l) = y + l := by rw [IntKind.wrap_i64]; omega
            clear y0 z0
            by_cases hy0 : y < 0
            · have hd0 : decide (y < 0) = true := decide_eq_true hy0
              rw [decide_eq_true (show y < 0 ∨ y + l ≤ z from .inl hy0)]
              clear hy0
              go_upto_region 16 with fail
              refine wp_region_held_drew (S := (fun w' => w'.cell? ⟨g9, f, none⟩ = some (.int .i64 y) ∧ w'.cell? ⟨g9, t, none⟩ = some (.int .i64 z) ∧ w'.cell? ⟨c, 0, none⟩ = some (.int .i64 (f : Int)) ∧ w'.cell? ⟨c, 1, none⟩ = some (.int .i64 (t : Int)) ∧ w'.cell? ⟨c, 2, none⟩ = some (.int .i64 l))) (by kernel_rfl) (by exact unhide CY _ (by repeat (first | apply Keep.drew | exact Keep.refl _))) (fun hHeld => ?_)
              refine wpAnyH_take (i := 0) (v := ?_) rfl (by kernel_rfl) (by kernel_rfl) (by kernel_rfl) (fun _ _ _ h => h) (Or.inl ⟨by rfl, ?_⟩) hHeld ?_
              rotate_left
              · intro w hSw
                try dsimp only at hSw
                go_simp
                try with_reducible rfl
              show wpAnyH _ _ _ _ _ _ _ (Act.put _ (some 86) _) _
              try simp only [Act.put, List.setIfInBounds_toArray, List.set_cons_zero, List.set_cons_succ]
              refine wpAnyH_take (i := 1) (v := ?_) rfl (by kernel_rfl) (by kernel_rfl) (by kernel_rfl) (fun _ _ _ h => h) (Or.inl ⟨by rfl, ?_⟩) hHeld ?_
              rotate_left
              · intro w hSw
                try dsimp only at hSw
                go_simp
                try with_reducible rfl
              show wpAnyH _ _ _ _ _ _ _ (Act.put _ (some 87) _) _
              try simp only [Act.put, List.setIfInBounds_toArray, List.set_cons_zero, List.set_cons_succ]
              refine wpAnyH_take (i := 2) (v := ?_) rfl (by kernel_rfl) (by kernel_rfl) (by kernel_rfl) (fun _ _ _ h => h) (Or.inl ⟨by rfl, ?_⟩) hHeld ?_
              rotate_left
              · intro w hSw
                try dsimp only at hSw
                go_simp
                try with_reducible rfl
              show wpAnyH _ _ _ _ _ _ _ (Act.put _ (some 88) _) _
              try simp only [Act.put, List.setIfInBounds_toArray, List.set_cons_zero, List.set_cons_succ]
              refine wpAnyH_take (i := 3) (v := ?_) rfl (by kernel_rfl) (by kernel_rfl) (by kernel_rfl) (fun _ _ _ h => h) (Or.inl ⟨by rfl, ?_⟩) hHeld ?_
              rotate_left
              · intro w hSw
                try dsimp only at hSw
                go_simp
                try with_reducible rfl
              show wpAnyH _ _ _ _ _ _ _ (Act.put _ (some 89) _) _
              try simp only [Act.put, List.setIfInBounds_toArray, List.set_cons_zero, List.set_cons_succ]
              refine wpAnyH_take (i := 4) (v := ?_) rfl (by kernel_rfl) (by kernel_rfl) (by kernel_rfl) (fun _ _ _ h => h) (Or.inl ⟨by rfl, ?_⟩) hHeld ?_
              rotate_left
              · intro w hSw
                try dsimp only at hSw
                go_simp
                try with_reducible rfl
              show wpAnyH _ _ _ _ _ _ _ (Act.put _ (some 90) _) _
              try simp only [Act.put, List.setIfInBounds_toArray, List.set_cons_zero, List.set_cons_succ]
              refine wpAnyH_take (i := 5) (v := ?_) rfl (by kernel_rfl) (by kernel_rfl) (by kernel_rfl) (fun _ _ _ h => h) (Or.inl ⟨by rfl, ?_⟩) hHeld ?_
              rotate_left
              · intro w hSw
                try dsimp only at hSw
                go_simp
                try with_reducible rfl
              show wpAnyH _ _ _ _ _ _ _ (Act.put _ (some 91) _) _
              try simp only [Act.put, List.setIfInBounds_toArray, List.set_cons_zero, List.set_cons_succ]
              refine wpAnyH_take (i := 6) (v := ?_) rfl (by kernel_rfl) (by kernel_rfl) (by kernel_rfl) (fun _ _ _ h => h) (Or.inl ⟨by rfl, ?_⟩) hHeld ?_
              rotate_left
              · intro w hSw
                try dsimp only at hSw
                go_simp
                try with_reducible rfl
              show wpAnyH _ _ _ _ _ _ _ (Act.put _ (some 92) _) _
              try simp only [Act.put, List.setIfInBounds_toArray, List.set_cons_zero, List.set_cons_succ]
              refine wpAnyH_take (i := 7) (v := undef) rfl (by kernel_rfl) (by kernel_rfl) (by kernel_rfl) (fun _ _ _ h => h) (Or.inr ⟨by rfl, rfl⟩) hHeld ?_
              show wpAnyH _ _ _ _ _ _ _ (Act.put _ (some 93) _) _
              try simp only [Act.put, List.setIfInBounds_toArray, List.set_cons_zero, List.set_cons_succ]
              refine wpAnyH_take (i := 8) (v := undef) rfl (by kernel_rfl) (by kernel_rfl) (by kernel_rfl) (fun _ _ _ h => h) (Or.inr ⟨by rfl, rfl⟩) hHeld ?_
              show wpAnyH _ _ _ _ _ _ _ (Act.put _ (some 94) _) _
              try simp only [Act.put, List.setIfInBounds_toArray, List.set_cons_zero, List.set_cons_succ]
              refine wpAnyH_take (i := 9) (v := undef) rfl (by kernel_rfl) (by kernel_rfl) (by kernel_rfl) (fun _ _ _ h => h) (Or.inr ⟨by rfl, rfl⟩) hHeld ?_
              show wpAnyH _ _ _ _ _ _ _ (Act.put _ (some 95) _) _
              try simp only [Act.put, List.setIfInBounds_toArray, List.set_cons_zero, List.set_cons_succ]
              refine wpAnyH_take (i := 10) (v := undef) rfl (by kernel_rfl) (by kernel_rfl) (by kernel_rfl) (fun _ _ _ h => h) (Or.inr ⟨by rfl, rfl⟩) hHeld ?_
              show wpAnyH _ _ _ _ _ _ _ (Act.put _ (some 96) _) _
              try simp only [Act.put, List.setIfInBounds_toArray, List.set_cons_zero, List.set_cons_succ]
              refine wpAnyH_take (i := 11) (v := undef) rfl (by kernel_rfl) (by kernel_rfl) (by kernel_rfl) (fun _ _ _ h => h) (Or.inr ⟨by rfl, rfl⟩) hHeld ?_
              show wpAnyH _ _ _ _ _ _ _ (Act.put _ (some 97) _) _
              try simp only [Act.put, List.setIfInBounds_toArray, List.set_cons_zero, List.set_cons_succ]
              refine wpAnyH_take (i := 12) (v := undef) rfl (by kernel_rfl) (by kernel_rfl) (by kernel_rfl) (fun _ _ _ h => h) (Or.inr ⟨by rfl, rfl⟩) hHeld ?_
              show wpAnyH _ _ _ _ _ _ _ (Act.put _ (some 98) _) _
              try simp only [Act.put, List.setIfInBounds_toArray, List.set_cons_zero, List.set_cons_succ]
              refine wpAnyH_take (i := 13) (v := undef) rfl (by kernel_rfl) (by kernel_rfl) (by kernel_rfl) (fun _ _ _ h => h) (Or.inr ⟨by rfl, rfl⟩) hHeld ?_
              show wpAnyH _ _ _ _ _ _ _ (Act.put _ (some 99) _) _
              try simp only [Act.put, List.setIfInBounds_toArray, List.set_cons_zero, List.set_cons_succ]
              refine wpAnyH_take (i := 14) (v := undef) rfl (by kernel_rfl) (by kernel_rfl) (by kernel_rfl) (fun _ _ _ h => h) (Or.inr ⟨by rfl, rfl⟩) hHeld ?_
              show wpAnyH _ _ _ _ _ _ _ (Act.put _ (some 100) _) _
              try simp only [Act.put, List.setIfInBounds_toArray, List.set_cons_zero, List.set_cons_succ]
              refine wpAnyH_take (i := 15) (v := undef) rfl (by kernel_rfl) (by kernel_rfl) (by kernel_rfl) (fun _ _ _ h => h) (Or.inr ⟨by rfl, rfl⟩) hHeld ?_
              show wpAnyH _ _ _ _ _ _ _ (Act.put _ (some 101) _) _
              try simp only [Act.put, List.setIfInBounds_toArray, List.set_cons_zero, List.set_cons_succ]
              refine wpAnyH_take (i := 16) (v := undef) rfl (by kernel_rfl) (by kernel_rfl) (by kernel_rfl) (fun _ _ _ h => h) (Or.inr ⟨by rfl, rfl⟩) hHeld ?_
              show wpAnyH _ _ _ _ _ _ _ (Act.put _ (some 102) _) _
              try simp only [Act.put, List.setIfInBounds_toArray, List.set_cons_zero, List.set_cons_succ]
              refine wpAnyH_take (i := 17) (v := undef) rfl (by kernel_rfl) (by kernel_rfl) (by kernel_rfl) (fun _ _ _ h => h) (Or.inr ⟨by rfl, rfl⟩) hHeld ?_
              show wpAnyH _ _ _ _ _ _ _ (Act.put _ (some 103) _) _
              try simp only [Act.put, List.setIfInBounds_toArray, List.set_cons_zero, List.set_cons_succ]
              refine wpAnyH_take (i := 18) (v := undef) rfl (by kernel_rfl) (by kernel_rfl) (by kernel_rfl) (fun _ _ _ h => h) (Or.inr ⟨by rfl, rfl⟩) hHeld ?_
              show wpAnyH _ _ _ _ _ _ _ (Act.put _ (some 104) _) _
              try simp only [Act.put, List.setIfInBounds_toArray, List.set_cons_zero, List.set_cons_succ]
              refine wpAnyH_take (i := 19) (v := undef) rfl (by kernel_rfl) (by kernel_rfl) (by kernel_rfl) (fun _ _ _ h => h) (Or.inr ⟨by rfl, rfl⟩) hHeld ?_
              show wpAnyH _ _ _ _ _ _ _ (Act.put _ (some 105) _) _
              try simp only [Act.put, List.setIfInBounds_toArray, List.set_cons_zero, List.set_cons_succ]
              refine wpAnyH_take (i := 20) (v := undef) rfl (by kernel_rfl) (by kernel_rfl) (by kernel_rfl) (fun _ _ _ h => h) (Or.inr ⟨by rfl, rfl⟩) hHeld ?_
              show wpAnyH _ _ _ _ _ _ _ (Act.put _ (some 106) _) _
              try simp only [Act.put, List.setIfInBounds_toArray, List.set_cons_zero, List.set_cons_succ]
              refine wpAnyH_take (i := 21) (v := ?_) rfl (by kernel_rfl) (by kernel_rfl) (by kernel_rfl) (fun _ _ _ h => h) (Or.inl ⟨by rfl, ?_⟩) hHeld ?_
              rotate_left
              · intro w hSw
                try dsimp only at hSw
                go_simp
                try with_reducible rfl
              show wpAnyH _ _ _ _ _ _ _ (Act.put _ (some 107) _) _
              try simp only [Act.put, List.setIfInBounds_toArray, List.set_cons_zero, List.set_cons_succ]
              refine wpAnyH_take (i := 22) (v := ?_) rfl (by kernel_rfl) (by kernel_rfl) (by kernel_rfl) (fun _ _ _ h => h) (Or.inl ⟨by rfl, ?_⟩) hHeld ?_
              rotate_left
              · intro w hSw
                try dsimp only at hSw
                go_simp
                try with_reducible rfl
              show wpAnyH _ _ _ _ _ _ _ (Act.put _ (some 13) _) _
              try simp only [Act.put, List.setIfInBounds_toArray, List.set_cons_zero, List.set_cons_succ]
              refine wpAnyH_done (by kernel_rfl) ?_ _
              clear hHeld
              go_wp2_with fail
              (refine ((unhide TA) _ ((unhide K9).trans (by repeat (first | apply Keep.drew | exact Keep.refl _)))).mono ?_; rintro e w5 ⟨rfl, hk9⟩; have K10 := hide (Keep.trans ((unhide K9).trans (by repeat (first | apply Keep.drew | exact Keep.refl _))) hk9); clear hk9)
              go_wp2_with fail
              go_ret
              exact ⟨rfl, unhide K10⟩
            · have hd0 : decide (y < 0) = false := decide_eq_false hy0
              obtain ⟨B, hB⟩ : ∃ B, decide (y + l ≤ z) = B := ⟨_, rfl⟩
              rw [show decide (y < 0 ∨ y + l ≤ z) = B by rw [← hB]; simp [hy0]]
              have hBB : (B == B) = true := by simp
              clear hy0
              go_upto_region 16 with fail
              refine wp_region_held_drew (S := (fun w' => w'.cell? ⟨g9, f, none⟩ = some (.int .i64 y) ∧ w'.cell? ⟨g9, t, none⟩ = some (.int .i64 z) ∧ w'.cell? ⟨c, 0, none⟩ = some (.int .i64 (f : Int)) ∧ w'.cell? ⟨c, 1, none⟩ = some (.int .i64 (t : Int)) ∧ w'.cell? ⟨c, 2, none⟩ = some (.int .i64 l))) (by kernel_rfl) (by exact unhide CY _ (by repeat (first | apply Keep.drew | exact Keep.refl _))) (fun hHeld => ?_)
              refine wpAnyH_take (i := 0) (v := ?_) rfl (by kernel_rfl) (by kernel_rfl) (by kernel_rfl) (fun _ _ _ h => h) (Or.inl ⟨by rfl, ?_⟩) hHeld ?_
              rotate_left
              · intro w hSw
                try dsimp only at hSw
                go_simp
                try with_reducible rfl
              show wpAnyH _ _ _ _ _ _ _ (Act.put _ (some 86) _) _
              try simp only [Act.put, List.setIfInBounds_toArray, List.set_cons_zero, List.set_cons_succ]
              refine wpAnyH_take (i := 1) (v := ?_) rfl (by kernel_rfl) (by kernel_rfl) (by kernel_rfl) (fun _ _ _ h => h) (Or.inl ⟨by rfl, ?_⟩) hHeld ?_
              rotate_left
              · intro w hSw
                try dsimp only at hSw
                go_simp
                try with_reducible rfl
              show wpAnyH _ _ _ _ _ _ _ (Act.put _ (some 87) _) _
              try simp only [Act.put, List.setIfInBounds_toArray, List.set_cons_zero, List.set_cons_succ]
              refine wpAnyH_take (i := 2) (v := ?_) rfl (by kernel_rfl) (by kernel_rfl) (by kernel_rfl) (fun _ _ _ h => h) (Or.inl ⟨by rfl, ?_⟩) hHeld ?_
              rotate_left
              · intro w hSw
                try dsimp only at hSw
                go_simp
                try with_reducible rfl
              show wpAnyH _ _ _ _ _ _ _ (Act.put _ (some 88) _) _
              try simp only [Act.put, List.setIfInBounds_toArray, List.set_cons_zero, List.set_cons_succ]
              refine wpAnyH_take (i := 3) (v := ?_) rfl (by kernel_rfl) (by kernel_rfl) (by kernel_rfl) (fun _ _ _ h => h) (Or.inl ⟨by rfl, ?_⟩) hHeld ?_
              rotate_left
              · intro w hSw
                try dsimp only at hSw
                go_simp
                try with_reducible rfl
              show wpAnyH _ _ _ _ _ _ _ (Act.put _ (some 89) _) _
              try simp only [Act.put, List.setIfInBounds_toArray, List.set_cons_zero, List.set_cons_succ]
              refine wpAnyH_take (i := 4) (v := ?_) rfl (by kernel_rfl) (by kernel_rfl) (by kernel_rfl) (fun _ _ _ h => h) (Or.inl ⟨by rfl, ?_⟩) hHeld ?_
              rotate_left
              · intro w hSw
                try dsimp only at hSw
                go_simp
                try with_reducible rfl
              show wpAnyH _ _ _ _ _ _ _ (Act.put _ (some 90) _) _
              try simp only [Act.put, List.setIfInBounds_toArray, List.set_cons_zero, List.set_cons_succ]
              refine wpAnyH_take (i := 5) (v := ?_) rfl (by kernel_rfl) (by kernel_rfl) (by kernel_rfl) (fun _ _ _ h => h) (Or.inl ⟨by rfl, ?_⟩) hHeld ?_
              rotate_left
              · intro w hSw
                try dsimp only at hSw
                go_simp
                try with_reducible rfl
              show wpAnyH _ _ _ _ _ _ _ (Act.put _ (some 91) _) _
              try simp only [Act.put, List.setIfInBounds_toArray, List.set_cons_zero, List.set_cons_succ]
              refine wpAnyH_take (i := 6) (v := ?_) rfl (by kernel_rfl) (by kernel_rfl) (by kernel_rfl) (fun _ _ _ h => h) (Or.inl ⟨by rfl, ?_⟩) hHeld ?_
              rotate_left
              · intro w hSw
                try dsimp only at hSw
                go_simp
                try with_reducible rfl
              show wpAnyH _ _ _ _ _ _ _ (Act.put _ (some 92) _) _
              try simp only [Act.put, List.setIfInBounds_toArray, List.set_cons_zero, List.set_cons_succ]
              refine wpAnyH_take (i := 7) (v := ?_) rfl (by kernel_rfl) (by kernel_rfl) (by kernel_rfl) (fun _ _ _ h => h) (Or.inl ⟨by rfl, ?_⟩) hHeld ?_
              rotate_left
              · intro w hSw
                try dsimp only at hSw
                go_simp
                try with_reducible rfl
              show wpAnyH _ _ _ _ _ _ _ (Act.put _ (some 93) _) _
              try simp only [Act.put, List.setIfInBounds_toArray, List.set_cons_zero, List.set_cons_succ]
              refine wpAnyH_take (i := 8) (v := ?_) rfl (by kernel_rfl) (by kernel_rfl) (by kernel_rfl) (fun _ _ _ h => h) (Or.inl ⟨by rfl, ?_⟩) hHeld ?_
              rotate_left
              · intro w hSw
                try dsimp only at hSw
                go_simp
                try with_reducible rfl
              show wpAnyH _ _ _ _ _ _ _ (Act.put _ (some 94) _) _
              try simp only [Act.put, List.setIfInBounds_toArray, List.set_cons_zero, List.set_cons_succ]
              refine wpAnyH_take (i := 9) (v := ?_) rfl (by kernel_rfl) (by kernel_rfl) (by kernel_rfl) (fun _ _ _ h => h) (Or.inl ⟨by rfl, ?_⟩) hHeld ?_
              rotate_left
              · intro w hSw
                try dsimp only at hSw
                go_simp
                try with_reducible rfl
              show wpAnyH _ _ _ _ _ _ _ (Act.put _ (some 95) _) _
              try simp only [Act.put, List.setIfInBounds_toArray, List.set_cons_zero, List.set_cons_succ]
              refine wpAnyH_take (i := 10) (v := ?_) rfl (by kernel_rfl) (by kernel_rfl) (by kernel_rfl) (fun _ _ _ h => h) (Or.inl ⟨by rfl, ?_⟩) hHeld ?_
              rotate_left
              · intro w hSw
                try dsimp only at hSw
                go_simp
                try with_reducible rfl
              show wpAnyH _ _ _ _ _ _ _ (Act.put _ (some 96) _) _
              try simp only [Act.put, List.setIfInBounds_toArray, List.set_cons_zero, List.set_cons_succ]
              refine wpAnyH_take (i := 11) (v := ?_) rfl (by kernel_rfl) (by kernel_rfl) (by kernel_rfl) (fun _ _ _ h => h) (Or.inl ⟨by rfl, ?_⟩) hHeld ?_
              rotate_left
              · intro w hSw
                try dsimp only at hSw
                go_simp
                try with_reducible rfl
              show wpAnyH _ _ _ _ _ _ _ (Act.put _ (some 97) _) _
              try simp only [Act.put, List.setIfInBounds_toArray, List.set_cons_zero, List.set_cons_succ]
              refine wpAnyH_take (i := 12) (v := ?_) rfl (by kernel_rfl) (by kernel_rfl) (by kernel_rfl) (fun _ _ _ h => h) (Or.inl ⟨by rfl, ?_⟩) hHeld ?_
              rotate_left
              · intro w hSw
                try dsimp only at hSw
                go_simp
                try with_reducible rfl
              show wpAnyH _ _ _ _ _ _ _ (Act.put _ (some 98) _) _
              try simp only [Act.put, List.setIfInBounds_toArray, List.set_cons_zero, List.set_cons_succ]
              refine wpAnyH_take (i := 13) (v := ?_) rfl (by kernel_rfl) (by kernel_rfl) (by kernel_rfl) (fun _ _ _ h => h) (Or.inl ⟨by rfl, ?_⟩) hHeld ?_
              rotate_left
              · intro w hSw
                try dsimp only at hSw
                go_simp
                try with_reducible rfl
              show wpAnyH _ _ _ _ _ _ _ (Act.put _ (some 99) _) _
              try simp only [Act.put, List.setIfInBounds_toArray, List.set_cons_zero, List.set_cons_succ]
              refine wpAnyH_take (i := 14) (v := ?_) rfl (by kernel_rfl) (by kernel_rfl) (by kernel_rfl) (fun _ _ _ h => h) (Or.inl ⟨by rfl, ?_⟩) hHeld ?_
              rotate_left
              · intro w hSw
                try dsimp only at hSw
                go_simp
                try with_reducible rfl
              show wpAnyH _ _ _ _ _ _ _ (Act.put _ (some 100) _) _
              try simp only [Act.put, List.setIfInBounds_toArray, List.set_cons_zero, List.set_cons_succ]
              refine wpAnyH_take (i := 15) (v := ?_) rfl (by kernel_rfl) (by kernel_rfl) (by kernel_rfl) (fun _ _ _ h => h) (Or.inl ⟨by rfl, ?_⟩) hHeld ?_
              rotate_left
              · intro w hSw
                try dsimp only at hSw
                go_simp
                try with_reducible rfl
              show wpAnyH _ _ _ _ _ _ _ (Act.put _ (some 101) _) _
              try simp only [Act.put, List.setIfInBounds_toArray, List.set_cons_zero, List.set_cons_succ]
              refine wpAnyH_take (i := 16) (v := ?_) rfl (by kernel_rfl) (by kernel_rfl) (by kernel_rfl) (fun _ _ _ h => h) (Or.inl ⟨by rfl, ?_⟩) hHeld ?_
              rotate_left
              · intro w hSw
                try dsimp only at hSw
                go_simp
                try with_reducible rfl
              show wpAnyH _ _ _ _ _ _ _ (Act.put _ (some 102) _) _
              try simp only [Act.put, List.setIfInBounds_toArray, List.set_cons_zero, List.set_cons_succ]
              refine wpAnyH_take (i := 17) (v := ?_) rfl (by kernel_rfl) (by kernel_rfl) (by kernel_rfl) (fun _ _ _ h => h) (Or.inl ⟨by rfl, ?_⟩) hHeld ?_
              rotate_left
              · intro w hSw
                try dsimp only at hSw
                go_simp
                try with_reducible rfl
              show wpAnyH _ _ _ _ _ _ _ (Act.put _ (some 103) _) _
              try simp only [Act.put, List.setIfInBounds_toArray, List.set_cons_zero, List.set_cons_succ]
              refine wpAnyH_take (i := 18) (v := ?_) rfl (by kernel_rfl) (by kernel_rfl) (by kernel_rfl) (fun _ _ _ h => h) (Or.inl ⟨by rfl, ?_⟩) hHeld ?_
              rotate_left
              · intro w hSw
                try dsimp only at hSw
                go_simp
                try with_reducible rfl
              show wpAnyH _ _ _ _ _ _ _ (Act.put _ (some 104) _) _
              try simp only [Act.put, List.setIfInBounds_toArray, List.set_cons_zero, List.set_cons_succ]
              refine wpAnyH_take (i := 19) (v := ?_) rfl (by kernel_rfl) (by kernel_rfl) (by kernel_rfl) (fun _ _ _ h => h) (Or.inl ⟨by rfl, ?_⟩) hHeld ?_
              rotate_left
              · intro w hSw
                try dsimp only at hSw
                go_simp
                try with_reducible rfl
              show wpAnyH _ _ _ _ _ _ _ (Act.put _ (some 105) _) _
              try simp only [Act.put, List.setIfInBounds_toArray, List.set_cons_zero, List.set_cons_succ]
              refine wpAnyH_take (i := 20) (v := ?_) rfl (by kernel_rfl) (by kernel_rfl) (by kernel_rfl) (fun _ _ _ h => h) (Or.inl ⟨by rfl, ?_⟩) hHeld ?_
              rotate_left
              · intro w hSw
                try dsimp only at hSw
                go_simp
                try with_reducible rfl
              show wpAnyH _ _ _ _ _ _ _ (Act.put _ (some 106) _) _
              try simp only [Act.put, List.setIfInBounds_toArray, List.set_cons_zero, List.set_cons_succ]
              refine wpAnyH_take (i := 21) (v := ?_) rfl (by kernel_rfl) (by kernel_rfl) (by kernel_rfl) (fun _ _ _ h => h) (Or.inl ⟨by rfl, ?_⟩) hHeld ?_
              rotate_left
              · intro w hSw
                try dsimp only at hSw
                go_simp
                try with_reducible rfl
              show wpAnyH _ _ _ _ _ _ _ (Act.put _ (some 107) _) _
              try simp only [Act.put, List.setIfInBounds_toArray, List.set_cons_zero, List.set_cons_succ]
              refine wpAnyH_take (i := 22) (v := ?_) rfl (by kernel_rfl) (by kernel_rfl) (by kernel_rfl) (fun _ _ _ h => h) (Or.inl ⟨by rfl, ?_⟩) hHeld ?_
              rotate_left
              · intro w hSw
                try dsimp only at hSw
                go_simp
                try with_reducible rfl
              show wpAnyH _ _ _ _ _ _ _ (Act.put _ (some 13) _) _
              try simp only [Act.put, List.setIfInBounds_toArray, List.set_cons_zero, List.set_cons_succ]
              refine wpAnyH_done (by kernel_rfl) ?_ _
              clear hHeld
              go_wp2_with fail
              (refine ((unhide TA) _ ((unhide K9).trans (by repeat (first | apply Keep.drew | exact Keep.refl _)))).mono ?_; rintro e w5 ⟨rfl, hk9⟩; have K10 := hide (Keep.trans ((unhide K9).trans (by repeat (first | apply Keep.drew | exact Keep.refl _))) hk9); clear hk9)
              go_wp2_with fail
              go_ret
              exact ⟨rfl, unhide K10⟩
      · have hb2 : ((lg n (R ++ [x])).2 != 0) = true := by simpa using hE
        obtain ⟨x8, c8, h8⟩ := (unhide I8).sl
        obtain ⟨x9, c9, h9⟩ := (unhide I9).sl
        generalize (lg n (R ++ [x])).2 = E2 at *
        by_cases hE1 : (lg n R).2 = 0
        · have hb1 : ((lg n R).2 != 0) = false := by simpa using hE1
          generalize (lg n R).2 = E1 at *
          clear hE hE1 I8 I9 HME HMF T2
          go_wp2_with fail
          (refine ((unhide TA) _ (unhide K8)).mono ?_; rintro e w5 ⟨rfl, hk9⟩; have K9 := hide ((unhide K8).trans hk9); clear hk9)
          go_wp2_with fail
          go_ret
          exact ⟨rfl, unhide K9⟩
        · have hb1 : ((lg n R).2 != 0) = true := by simpa using hE1
          generalize (lg n R).2 = E1 at *
          clear hE hE1 I8 I9 HME HMF T2
          go_wp2_with fail
          (refine ((unhide TA) _ (unhide K8)).mono ?_; rintro e w5 ⟨rfl, hk9⟩; have K9 := hide ((unhide K8).trans hk9); clear hk9)
          go_wp2_with fail
          go_ret
          exact ⟨rfl, unhide K9⟩
theorem laidOut : laidOutB Tryd.prog = true := by kernel_rfl
theorem own : ownKnob Tryd.prog.godebug = none := by kernel_rfl
theorem tab_of {W : World} (h : laidMetH Tryd.prog Rows.pathsMoreRow.laid W) : Pa.Tab W := by
  have h' : laidMet Tryd.prog [("math/bits.deBruijn64tab", Rows.laid_math_bits_deBruijn64tab)] W := h
  have e : (Rows.laid_math_bits_deBruijn64tab : DataW Unit) = Lib.tabData .u8 (Lib.deBruijn64tab.map fun x : Nat => (x : Int)) := by rfl
  rw [e] at h'
  exact Pa.tab_of h'
theorem door_met (os : Os) (args : Array Value) : laidMetH Tryd.prog Rows.pathsMoreRow.laid ((World.doorLaid Tryd.prog 24 os).forCall (fun _ _ => 0) ⟨#[], args, []⟩).memory :=
  laidMetH_of_parts3 (fuel := 8) (laidMet_of_run' 8 (by kernel_rfl) (by kernel_rfl)) (by kernel_rfl) (by kernel_rfl)
set_option maxHeartbeats 400000 in
set_option maxRecDepth 100000 in
theorem lifted (os : Os) (started : os.Started) (H : Type) (enc : TypeId × Value → H) :
    ReturnsInHanded {} Tryd.checked os 6 .any (fun w args => (Rows.pathsMoreSpec.pre enc Tryd.prog Tryd.f6 [] false w args ∧ laidMetH Tryd.prog Rows.pathsMoreRow.laid w) ∧ sizedMet enc Tryd.prog Tryd.f6 (OpenSpec.ofChange Rows.pathsMoreSpec) false w args)
      (Rows.pathsMoreSpec.post enc Tryd.prog Tryd.f6 false true false false) := by
  refine returnsInHanded_of_change_and (C := Tryd.checked) (X := fun w _ => laidMetH Tryd.prog Rows.pathsMoreRow.laid w) (fun _ _ _ hh h => h.of_heap hh) own started (by kernel_rfl) Tryd.func6
    (ChangeSpec.witness_shaped (enc := enc) (C := Tryd.checked) (os := os) (X := fun w _ => laidMetH Tryd.prog Rows.pathsMoreRow.laid w) false (World.doorLaid Tryd.prog 24 os) #[.int .i64 0, .slice none 0 0, .agg #[.int .i64 0, .int .i64 0, .int .i64 0]] 8 rfl (World.shaped_of_RefB (by kernel_rfl) (by kernel_rfl)) (by kernel_rfl) (by kernel_rfl) (by kernel_rfl) (door_met os _)) ?_
  intro W base args ds gs before hval0 hW _ _ hL _
  have hval : ∀ (j : Nat) t v, Tryd.f6.params[j]? = some t → args[j]? = some v → Value.okWide Tryd.prog W .any base t v := hval0
  have hW' := hW
  obtain ⟨p, q, hA0, hV, rfl, hfz, hnd⟩ := hW
  have hA : DataW.TrodAll enc Tryd.prog W 0 (fun _ => true) true Tryd.f6.params.toList args.toList ds p := hA0
  rw [Tryd.params6] at hA hval
  obtain ⟨v0, vs0, d0, ds0, p0, q0, hargs, rfl, rfl, h0, r0⟩ := trodAll_cons hA
  obtain ⟨v1, vs1, d1, ds1, p1, q1, rfl, rfl, rfl, h1, r1⟩ := trodAll_cons r0
  obtain ⟨v2, vs2, d2, ds2, p2, q2, rfl, rfl, rfl, h2, r2⟩ := trodAll_cons r1
  obtain ⟨rfl, rfl, rfl⟩ := trodAll_nil r2
  obtain rfl : args = #[v0, v1, v2] := by cases args; simp_all
  obtain ⟨rfl, rfl⟩ := trodVars_none hV
  obtain ⟨a0, rfl, rfl, rfl, x0⟩ := open_int Tryd.underlying3 (hval 0 3 v0 rfl rfl) h0
  have k1 := h1
  have lt1 : ∀ x ∈ p1, x.block < W.heap.size := by obtain ⟨m, hm⟩ := k1; exact DataW.trod_lt m _ _ _ hm
  obtain ⟨R1, x1⟩ := Pa.open_edges (hval 1 22 v1 rfl rfl) h1
  clear h1
  have k2 := h2
  have lt2 : ∀ x ∈ p2, x.block < W.heap.size := by obtain ⟨m, hm⟩ := k2; exact DataW.trod_lt m _ _ _ hm
  obtain ⟨q2, rfl, x2⟩ := Pa.open_edge (hval 2 34 v2 rfl rfl) h2
  clear h2
  clear hA0 hval0
  refine (walk a0 x1 q2 x2 (tab_of hL)).mono fun e W' ⟨he, bel⟩ => ?_
  subst he
  exact ⟨_, rfl, _, _, _, [], _, [], hW', trodAll_mk1 (shut_bool Tryd.underlying4 _), (trodAll_cons_mk (shut_int Tryd.underlying3 x0) (trodAll_cons_mk (Below.trod laidOut (by kernel_rfl) (of_decide_eq_true (by kernel_rfl)) k1 bel lt1) (trodAll_cons_mk (Below.trod laidOut (by kernel_rfl) (of_decide_eq_true (by kernel_rfl)) k2 bel lt2) trodAll_mk0))), rfl, bel.frame _, fun h => by cases h⟩
theorem over : Rows.pathsMoreRow.holds Tryd.pinned (OpenSpec.ofChange Rows.pathsMoreSpec) :=
  OpenClaim.holds_of_wide 6 Tryd.f6 rfl rfl rfl rfl rfl rfl rfl ⟨rfl, rfl, rfl, rfl, rfl⟩ rfl rfl rfl rfl rfl (by kernel_rfl) Tryd.func6 (by kernel_rfl)
    (of_decide_eq_true (by kernel_rfl)) (by unfold Func.isWrapper; first | (rw [if_pos (by decide +kernel)]; kernel_rfl) | (rw [if_neg (by decide +kernel)]; exact ⟨rfl, rfl⟩))
    (fun os started H enc _ => lifted os started H enc)
theorem card : Claim7.holds Tryd.pinned (.plain (OpenSpec.ofChange Rows.pathsMoreSpec)) Rows.pathsMoreCard :=
  Claim7.holds_tied_plain_at .later [] [.data] true _ false
    over (fun _ h => by cases h) (by kernel_rfl) (fun _ h => by cases h) pathsMore_row_tie rfl ⟨rfl, rfl⟩ (by kernel_rfl) rfl
    (fun f fn hf hfn => by
      obtain rfl : f = 6 := Option.some.inj ((show Tryd.prog.funcNamed Rows.pathsMoreRow.func = some 6 by kernel_rfl).symm.trans hf) |>.symm
      obtain rfl : fn = Tryd.f6 := (Option.some.inj (Tryd.func6.symm.trans hfn)).symm
      exact ⟨by kernel_rfl, fun j t ht => by
        rw [Tryd.params6] at ht
        have hm : t ∈ [3, 22, 34] := by simpa using Array.mem_of_getElem? ht
        have hall : ([3, 22, 34].all fun u => !Tryd.prog.wantsStandIn u) = true := by kernel_rfl
        exact (show Tryd.prog.wantsStandIn t = false by simpa using List.all_eq_true.1 hall t hm)⟩)
    (by kernel_rfl)

end Go.Proofs.YtfofkkjldngkaaaDoor.pmore
namespace Go.Proofs.YtfofkkjldngkaaaDoor
theorem PathsMore_holds : Rows.PathsMoreCardSaid := pmore.card
end Go.Proofs.YtfofkkjldngkaaaDoor
