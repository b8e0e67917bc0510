/- Proved: for every job (of few layouts, no time being 0), no group lasts less than a ring, one pair less makes it no longer, and a time more no shorter and at most as much longer. -/
import Derived.Test.YtakandlehneciaaRows
import Derived.Test.YtakandlehneciaaGqJ
import Derived.Test.YtakandlehneciaaGpA
import Derived.WalkKit
import Derived.ProofKit
import Derived.OpenShut
import Derived.ShutString
import Derived.ChangeOld
import Derived.Below
namespace Go.Proofs.Ytakandlehneciaa.ggrows
open Go.ChangeShapes Go.WideShapes Go.ChangeAt Go.RowKit Go.Joins
open Go.WideMaps Go.WideElems
attribute [local go_sem ↓] Go.wp_at_zero Go.wp_at_succ
set_option linter.unusedVariables false
set_option linter.unusedSimpArgs false
set_option maxRecDepth 10000
open Pa Gp
theorem own_empty (w : World) (e : TypeId) : (w.alloc (.cells #[] e)).ownsRow w.heap.size e 1 (.slice (some ⟨w.heap.size, 0, none⟩) 0 0) 0 [] :=
  World.ownsRow_made w _ 0 (Nat.le_refl _) (by unfold maxLen; omega) (by simp)
theorem row_made {wf w1 w7 : World} {R0 : List Int} {k q : Nat} {v v7 : Value} (hk : Keep wf w1) (hq : wf.heap.size ≤ q) (O1 : w1.ownsRow q T2 1 v 0 []) (hown : w7.ownsRow q T2 1 v7 (0 + k) ([] ++ ics R0)) (hgrow : w1.grownBy w7 v.ownBlock) (hn : R0.length = k) (hpos : 1 ≤ k) : ∃ g c arr, v7 = .slice (some ⟨g, 0, none⟩) k c ∧ w7.heap[g]? = some (.cells arr T2 (0, 0)) ∧ (∀ j, j < k → arr[j]? = some (.int .i64 (R0.getD j 0))) ∧ Keep wf w7 ∧ wf.heap.size ≤ g := by
  have K7 := Below.grown hk hgrow (Below.size hk) (fun j ej => by have h1 := (O1.lt j ej).1; omega)
  rw [Nat.zero_add, List.nil_append] at hown
  have hI := iw_own hown hn.symm
  rcases hI with ⟨_, e⟩ | ⟨g, c, arr, rfl, h1, h2⟩
  · rw [e] at hn; simp at hn; omega
  · refine ⟨g, c, arr, by rw [hn], h1, fun j hj => h2 j (by omega), K7, ?_⟩
    have := (hown.lt g rfl).1
    omega
theorem ir_more {w : World} {RR : List (List Int)} {Rn : List Int} {q m : Nat} {v row : Value} {US : List Value} (hown : w.ownsRow q 39 1 v m ([row] ++ US)) (hm : RR.length = m) (h1 : 1 ≤ m) (hU : US.length = m - 1) (hrow : Is w row Rn) (hus : ∀ j, j < m - 1 → Is w (US.getD j undef) (RR.getD (j + 1) [])) : Ir w v (Rn :: RR.drop 1) := by
  obtain ⟨a, cap, rfl, hc⟩ := Od.own_cell hown
  obtain ⟨g, rfl, _, _, hcap, hx⟩ := hc (by omega)
  have hl : (Rn :: RR.drop 1).length = m := by rw [List.length_cons, List.length_drop]; omega
  refine ⟨some ⟨g, 0, none⟩, cap, by rw [hl], by rw [hl]; exact hcap, fun j hj => ?_⟩
  rw [hl] at hj
  have e1 : (⟨g, 0, none⟩ : Addr).add j = ⟨g, j, none⟩ := by unfold Addr.add; split <;> simp_all
  cases j with
  | zero => exact ⟨_, row, rfl, by rw [e1]; exact hx 0 _ rfl, hrow⟩
  | succ j =>
    have hlt : j < US.length := by omega
    refine ⟨_, US.getD j undef, rfl, ?_, ?_⟩
    · rw [e1]
      exact hx (j + 1) _ (by rw [List.getD_eq_getElem?_getD, List.getElem?_eq_getElem hlt]; simp [hlt])
    · have e2 : (RR.drop 1).getD j [] = RR.getD (j + 1) [] := by
        rw [List.getD_eq_getElem?_getD, List.getElem?_drop, ← List.getD_eq_getElem?_getD, Nat.add_comm 1 j]
      rw [List.getD_cons_succ, e2]
      exact hus j (by omega)
theorem row8 {w : World} {a : Option Addr} {n c : Nat} {LL : List (List Int)} (h : Ir w (.slice a n c) LL) {k : Nat} (hk : k < LL.length) : ∃ ad ua uc, a = some ad ∧ w.cell? (ad.add k) = some (.slice ua (LL.getD k []).length uc) ∧ ∀ j, j < (LL.getD k []).length → ∃ ad2, ua = some ad2 ∧ w.cell? (ad2.add j) = some (.int .i64 ((LL.getD k []).getD j 0)) := by
  obtain ⟨a9, c9, e, _, h⟩ := h
  injection e with e1 e2 e3
  subst e1
  obtain ⟨ad, u, e, h1, ua, uc, rfl, h2⟩ := h k hk
  exact ⟨ad, ua, uc, e, h1, h2⟩
theorem ps_take {w : World} {aa : Option Addr} {n ca np : Nat} {AP : List P2} (h : Ps w (.slice aa n ca) AP) (hn : np ≤ AP.length) : Ps w (.slice aa np ca) (AP.take np) := by
  obtain ⟨a, c, e, hc, h⟩ := h
  injection e with e1 e2 e3
  subst e1 e3
  have hl : (AP.take np).length = np := by rw [List.length_take]; omega
  refine ⟨aa, ca, by rw [hl], by rw [hl]; omega, fun k hk => ?_⟩
  rw [hl] at hk
  obtain ⟨ad, e, h2⟩ := h k (by omega)
  refine ⟨ad, e, ?_⟩
  rw [List.getD_eq_getElem?_getD, List.getElem?_take_of_lt hk, ← List.getD_eq_getElem?_getD]
  exact h2
set_option maxHeartbeats 16000000 in
theorem walk {w : World} {ds : List Gp.D} {us : List Value} (hs : ShL jobT ds) (hr : Rvs w ds us) (at9 : Int) (hat : -9223372036854775808 ≤ at9 ∧ at9 ≤ 9223372036854775807) (more : Int) (hmo : -9223372036854775808 ≤ more ∧ more ≤ 9223372036854775807) : Calls Try.prog 7 #[.agg us.toArray, .int .i64 at9, .int .i64 more] w fun e w' => e = .returned (.bool true) ∧ Below w.heap.size w w' := by
  obtain ⟨vr, vf, va, RR, FR, AP, rfl, hJ, -, -, -, -⟩ := job_of hs hr
  clear hs hr
  show Calls Try.prog _ #[.agg #[vr, vf, va], .int .i64 at9, .int .i64 more] w _
  have HJ := hide hJ
  obtain ⟨hR, hF, hA⟩ := hJ.at
  have HR := hide hR
  have HF := hide hF
  have HA := hide hA
  have J0 : Jc w.heap.size vr vf va (w.alloc (.cells #[vr, vf, va] 26)) := ⟨box_c w [vr, vf, va] _ 0 _ rfl, box_c w [vr, vf, va] _ 1 _ rfl, box_c w [vr, vf, va] _ 2 _ rfl⟩
  have K0 := (Keep.refl w).alloc (.cells #[vr, vf, va] 26)
  have CK := hide (fun (w' : World) (hk : Keep (w.alloc (.cells #[vr, vf, va] 26)) w') => J0.keep hk)
  have EK := hide (fun (w' : World) (hk : Keep (w.alloc (.cells #[vr, vf, va] 26)) w') => K0.trans hk)
  obtain ⟨np, hnp⟩ : ∃ n, AP.length - 1 = n := ⟨_, rfl⟩
  obtain ⟨Bo, sn, er, hL⟩ : ∃ a b c, layN RR FR AP (mostN RR FR AP) = (a, b, c) := ⟨_, _, _, rfl⟩
  obtain ⟨Bl, sl, el, hL2⟩ : ∃ a b c, layN RR FR (AP.take np) (mostN RR FR (AP.take np)) = (a, b, c) := ⟨_, _, _, rfl⟩
  have hX := most_hi RR FR AP
  have hX2 := most_hi RR FR (AP.take np)
  have RES := hide (fun h => gr_res h hL hL2)
  have HRT2 : Hid (jobR RR FR AP = true → Rt RR FR AP) := hide rt_of
  have HRT : Hid (jobR RR FR AP = true → 1 ≤ RR.length ∧ 1 ≤ (RR.getD 0 []).length ∧ (RR.getD 0 []).length ≤ 4 ∧ ∀ t ∈ RR.getD 0 [], 0 ≤ t ∧ t ≤ 6000) := hide (fun h => by
    have h1 := rt_of h
    have h2 : 0 < RR.length := by rcases h1.rows with h | h <;> omega
    have h3 := h1.row _ (getD_mem (z := []) h2)
    exact ⟨h2, h3.1, h3.2.1, h3.2.2⟩)
  have MORE := hide (fun hJ hz k hk hp ht => fun (he : er = 0) Bg sg eg h2 => gr_more (more := more) (k := k) (Bg := Bg) (sg := sg) (eg := eg) hJ hz hk hp ht hL he h2)
  have TF := hide (fun (w' : World) (hk : Keep w w') => few15_any vr vf va RR FR AP w' (hJ.keep hk))
  have TN := hide (fun (hf : FewJ RR FR AP) (w' : World) (hk : Keep w w') => nought_any vr vf va RR FR AP w' (hJ.keep hk) hf.1 hf.2.2.2)
  have TX : Hid (FewJ RR FR AP → ∀ w', Keep w w' → (Calls Try.prog 10 #[.agg #[vr, vf, va]] w' fun e w2 => e = .returned (.int .i64 (mostN RR FR AP)) ∧ Keep w' w2) ∧ (Calls Try.prog 9 #[.agg #[vr, vf, va], .int .i64 (mostN RR FR AP)] w' fun e w2 => ∃ v, e = .returned (.tuple #[v, .int .i64 sn, .int .i64 er]) ∧ Keep w' w2 ∧ Ft RR w2 v Bo) ∧ (Calls Try.prog 15 #[.agg #[vr, vf, va]] w' fun e w2 => e = .returned (.bool (jobR RR FR AP)) ∧ Keep w' w2)) := hide (fun hf w' hk => by
    have h1 : RR.length ≤ 1000 := Nat.le_trans hf.1 (by omega)
    have h2 : ∀ L ∈ RR, L.length ≤ 1000 := fun L hL => Nat.le_trans (few_all hf L hL) (by omega)
    have h3 : AP.length ≤ 1000 := Nat.le_trans hf.2.1 (by omega)
    have hl := lay_any _ RR FR AP (mostN RR FR AP) w' ((unhide HJ).keep hk) h1 h2 h3 (by omega)
    unfold LyQ at hl
    rw [hL] at hl
    exact ⟨most_any _ RR FR AP w' ((unhide HJ).keep hk) h1 h2 h3, hl, rright15_any _ RR FR AP w' ((unhide HJ).keep hk) h1 h2 h3⟩)
  obtain ⟨ar, cr, rfl, -, -⟩ := hR
  obtain ⟨af, cf, rfl, -⟩ := hF
  obtain ⟨aa, ca, rfl, hlc, -⟩ := hA
  have TY : Hid (FewJ RR FR AP → ∀ w', Keep w w' → (Calls Try.prog 10 #[.agg #[.slice ar RR.length cr, .slice af FR.length cf, .slice aa np ca]] w' fun e w2 => e = .returned (.int .i64 (mostN RR FR (AP.take np))) ∧ Keep w' w2) ∧ (Calls Try.prog 9 #[.agg #[.slice ar RR.length cr, .slice af FR.length cf, .slice aa np ca], .int .i64 (mostN RR FR (AP.take np))] w' fun e w2 => ∃ v, e = .returned (.tuple #[v, .int .i64 sl, .int .i64 el]) ∧ Keep w' w2 ∧ Ft RR w2 v Bl)) := hide (fun hf w' hk => by
    have h1 : RR.length ≤ 1000 := Nat.le_trans hf.1 (by omega)
    have h2 : ∀ L ∈ RR, L.length ≤ 1000 := fun L hL => Nat.le_trans (few_all hf L hL) (by omega)
    have h3 : (AP.take np).length ≤ 1000 := by rw [List.length_take]; have := hf.2.1; omega
    have hj2 : Jb w' (.agg #[.slice ar RR.length cr, .slice af FR.length cf, .slice aa np ca]) RR FR (AP.take np) := ⟨_, _, _, rfl, (unhide HR).keep hk, (unhide HF).keep hk, ps_take ((unhide HA).keep hk) (by omega)⟩
    have hl := lay_any _ RR FR (AP.take np) (mostN RR FR (AP.take np)) w' hj2 h1 h2 h3 (by omega)
    unfold LyQ at hl
    rw [hL2] at hl
    exact ⟨most_any _ RR FR (AP.take np) w' hj2 h1 h2 h3, hl⟩)
  obtain ⟨c0, c1, c2⟩ := unhide CK _ (Keep.refl _)
  have HNP := hide hnp
  have HAL : Hid (FewJ RR FR AP → AP.length ≤ 4 ∧ RR.length ≤ 5) := hide (fun h => ⟨h.2.1, h.1⟩)
  clear J0 K0 hJ hL hL2 hnp
  generalize hFJ : FewJ RR FR AP = FJ at *
  clear hFJ
  generalize hX9 : mostN RR FR AP = X at *
  clear hX9
  generalize hX8 : mostN RR FR (AP.take np) = X1 at *
  clear hX8
  generalize hm9 : RR.length = m at *
  have LM := hide hm9
  clear hm9
  generalize FR.length = fl at *
  generalize AP.length = al at *
  generalize jobR RR FR AP = JR at *
  go_enter Try.func7, Try.ntmps7
  go_wp2_with fail
  generalize w.alloc (.cells #[.slice ar m cr, .slice af fl cf, .slice aa al ca] 26) = w1 at CK EK c0 c1 c2 ⊢
  generalize w.heap.size = b0 at CK c0 c1 c2 ⊢
  (refine ((unhide TF) _ (unhide EK _ (Keep.refl _))).mono ?_; rintro e w2 ⟨fw, rfl, hk9, hfw⟩; have K2 := hide hk9; have HFW := hide hfw; clear hk9 hfw)
  clear c0 c1 c2 TF
  have SS : Hid (∀ w', Keep w1 w' → w'.cell? ⟨b0, 0, none⟩ = some (.slice ar m cr) ∧ w'.cell? ⟨b0, 1, none⟩ = some (.slice af fl cf) ∧ w'.cell? ⟨b0, 2, none⟩ = some (.slice aa al ca)) := hide (fun w' hk => unhide CK _ hk)
  clear CK
  cases fw with
  | false =>
    go_wp2_with fail
    (refine (awake_any _).mono ?_; rintro e w9 ⟨rfl, hk9⟩; have k9 := hide ((unhide K2).trans hk9); clear hk9)
    go_wp2_with fail
    try go_ret
    exact ⟨rfl, unhide EK _ (unhide k9)⟩
  | true =>
    have hfj := unhide HFW rfl
    have TX2 := hide (unhide TX hfj)
    have TY2 := hide (unhide TY hfj)
    have TN2 := hide (unhide TN hfj)
    obtain ⟨hal4, hm5⟩ := unhide HAL hfj
    have TM := hide (fun w' hk => (unhide TX2 w' hk).1)
    have TL := hide (fun w' hk => (unhide TX2 w' hk).2.1)
    have TR := hide (fun w' hk => (unhide TX2 w' hk).2.2)
    have TM2 := hide (fun w' hk => (unhide TY2 w' hk).1)
    have TL2 := hide (fun w' hk => (unhide TY2 w' hk).2)
    clear TX TY TN TX2 TY2 HFW HAL hfj
    obtain ⟨c0, c1, c2⟩ := unhide SS _ (unhide K2)
    go_wp2_with fail
    (refine ((unhide TR) _ (unhide EK _ (unhide K2))).mono ?_; rintro e w3 ⟨rfl, hk9⟩; have K3 := hide ((unhide K2).trans hk9); clear hk9 K2 TR c0 c1 c2)
    cases JR with
    | false =>
      go_wp2_with fail
      (refine (awake_any _).mono ?_; rintro e w9 ⟨rfl, hk9⟩; have k9 := hide ((unhide K3).trans hk9); clear hk9)
      go_wp2_with fail
      try go_ret
      exact ⟨rfl, unhide EK _ (unhide k9)⟩
    | true =>
      by_cases ha : at9 < 0
      · have d1 : decide (at9 < 0) = true := decide_eq_true ha
        go_wp2_with fail
        (refine (awake_any _).mono ?_; rintro e w9 ⟨rfl, hk9⟩; have k9 := hide ((unhide K3).trans hk9); clear hk9)
        go_wp2_with fail
        try go_ret
        exact ⟨rfl, unhide EK _ (unhide k9)⟩
      have d1 : decide (at9 < 0) = false := decide_eq_false ha
      by_cases hm0 : more < 0
      · have d2 : decide (more < 0) = true := decide_eq_true hm0
        go_wp2_with fail
        (refine (awake_any _).mono ?_; rintro e w9 ⟨rfl, hk9⟩; have k9 := hide ((unhide K3).trans hk9); clear hk9)
        go_wp2_with fail
        try go_ret
        exact ⟨rfl, unhide EK _ (unhide k9)⟩
      have d2 : decide (more < 0) = false := decide_eq_false hm0
      by_cases hm1 : 50 < more
      · have d3 : decide (50 < more) = true := decide_eq_true hm1
        go_wp2_with fail
        (refine (awake_any _).mono ?_; rintro e w9 ⟨rfl, hk9⟩; have k9 := hide ((unhide K3).trans hk9); clear hk9)
        go_wp2_with fail
        try go_ret
        exact ⟨rfl, unhide EK _ (unhide k9)⟩
      have d3 : decide (50 < more) = false := decide_eq_false hm1
      obtain ⟨c0, c1, c2⟩ := unhide SS _ (unhide K3)
      go_wp2_with fail
      (refine ((unhide TN2) _ (unhide EK _ (unhide K3))).mono ?_; rintro e wa ⟨nz, rfl, hk9, hnz⟩; have K4 := hide ((unhide K3).trans hk9); have HNZ := hide hnz; clear hk9 hnz K3 TN2 c0 c1 c2)
      cases nz with
      | true =>
        go_wp2_with fail
        (refine (awake_any _).mono ?_; rintro e w9 ⟨rfl, hk9⟩; have k9 := hide ((unhide K4).trans hk9); clear hk9)
        go_wp2_with fail
        try go_ret
        exact ⟨rfl, unhide EK _ (unhide k9)⟩
      | false =>
        have HZ := hide (unhide HNZ rfl)
        have SS4 := hide (fun w' (hk : Keep wa w') => unhide SS _ ((unhide K4).trans hk))
        have KK4 := hide (fun w' (hk : Keep wa w') => unhide EK _ ((unhide K4).trans hk))
        have RES2 := hide (unhide RES trivial)
        clear HNZ d1 d2 d3 RES
        go_upto_region 3 with fail
        go_cut [7, 8, 9] (fun vp vn ve wc => ∃ fb, vp = .pointer (some ⟨fb, 0, none⟩) ∧ vn = .int .i64 sn ∧ ve = .int .i64 er ∧ Hid (Bxf RR Bo wa wc fb))
        case first =>
          refine wp_region_held_drew (S := (fun w' => w'.cell? ⟨b0, 0, none⟩ = some (.slice ar m cr) ∧ w'.cell? ⟨b0, 1, none⟩ = some (.slice af fl cf) ∧ w'.cell? ⟨b0, 2, none⟩ = some (.slice aa al ca))) (by kernel_rfl) (by exact unhide SS4 _ ((Keep.refl _).drew)) (fun hHeld => ?_)
          refine wpAnyH_take (i := 0) (v := ?_) rfl (by kernel_rfl) (by kernel_rfl) (by kernel_rfl) (fun _ _ _ h => h) (Or.inl ⟨by rfl, ?_⟩) hHeld ?_
          rotate_left
          · intro w hSw
            try dsimp only at hSw
            go_simp
            try with_reducible rfl
          show wpAnyH _ _ _ _ _ _ _ (Act.put _ (some 48) _) _
          try simp only [Act.put, List.setIfInBounds_toArray, List.set_cons_zero, List.set_cons_succ]
          refine wpAnyH_take (i := 1) (v := ?_) rfl (by kernel_rfl) (by kernel_rfl) (by kernel_rfl) (fun _ _ _ h => h) (Or.inl ⟨by rfl, ?_⟩) hHeld ?_
          rotate_left
          · intro w hSw
            try dsimp only at hSw
            go_simp
            try with_reducible rfl
          show wpAnyH _ _ _ _ _ _ _ (Act.put _ (some 49) _) _
          try simp only [Act.put, List.setIfInBounds_toArray, List.set_cons_zero, List.set_cons_succ]
          refine wpAnyH_ready (rs := [2, 8]) (by kernel_rfl) (by simp) ?_
          refine AllReadyH.cons rfl (fun K hK => ?_) (AllReadyH.cons rfl (fun K hK => ?_) AllReadyH.nil)
          ·
            go_simp
            clear hHeld
            (refine ((unhide TM) _ (unhide KK4 _ (((Keep.refl wa).drew)))).mono ?_; rintro e w3 ⟨rfl, hk9⟩; have k3 := hide ((((Keep.refl wa).drew)).trans hk9); clear hk9)
            try go_wp2_with fail
            refine hK.out _ _ ?_ (fun hHeld => ?_)
            · exact unhide SS4 _ (unhide k3)
            clear hK K
            try simp only [Act.put, List.setIfInBounds_toArray, List.set_cons_zero, List.set_cons_succ]
            refine wpAnyH_ready (rs := [3, 8]) (by kernel_rfl) (by simp) ?_
            refine AllReadyH.cons rfl (fun K hK => ?_) (AllReadyH.cons rfl (fun K hK => ?_) AllReadyH.nil)
            ·
              go_simp
              clear hHeld
              (refine ((unhide TL) _ (unhide KK4 _ ((unhide k3)))).mono ?_; rintro e w4 ⟨v9, rfl, hk9, hft⟩; have k4 := hide (((unhide k3)).trans hk9); obtain ⟨x4, ao4, lo4, co4, as4, ls4, cs4, rfl⟩ := ft_shape hft; have FT4 := hide hft; clear hft)
              try go_wp2_with fail
              refine hK.out _ _ ?_ (fun hHeld => ?_)
              · exact unhide SS4 _ (unhide k4)
              clear hK K
              try simp only [Act.put, List.setIfInBounds_toArray, List.set_cons_zero, List.set_cons_succ]
              clear hk9
              refine wpAnyH_take (i := 4) (v := ?_) rfl (by kernel_rfl) (by kernel_rfl) (by kernel_rfl) (fun _ _ _ h => h) (Or.inl ⟨by rfl, ?_⟩) hHeld ?_
              rotate_left
              · intro w hSw
                try dsimp only at hSw
                go_simp
                try with_reducible rfl
              show wpAnyH _ _ _ _ _ _ _ (Act.put _ (some 47) _) _
              try simp only [Act.put, List.setIfInBounds_toArray, List.set_cons_zero, List.set_cons_succ]
              refine wpAnyH_take (i := 5) (v := ?_) rfl (by kernel_rfl) (by kernel_rfl) (by kernel_rfl) (fun _ _ _ h => h) (Or.inl ⟨by rfl, ?_⟩) hHeld ?_
              rotate_left
              · intro w hSw
                try dsimp only at hSw
                go_simp
                try with_reducible rfl
              show wpAnyH _ _ _ _ _ _ _ (Act.put _ (some 52) _) _
              try simp only [Act.put, List.setIfInBounds_toArray, List.set_cons_zero, List.set_cons_succ]
              refine wpAnyH_take (i := 6) (v := ?_) rfl (by kernel_rfl) (by kernel_rfl) (by kernel_rfl) (fun _ _ _ h => h) (Or.inl ⟨by rfl, ?_⟩) hHeld ?_
              rotate_left
              · intro w hSw
                try dsimp only at hSw
                go_simp
                try with_reducible rfl
              show wpAnyH _ _ _ _ _ _ _ (Act.put _ (some 53) _) _
              try simp only [Act.put, List.setIfInBounds_toArray, List.set_cons_zero, List.set_cons_succ]
              refine wpAnyH_take (i := 7) (v := ?_) rfl (by kernel_rfl) (by kernel_rfl) (by kernel_rfl) (fun _ _ _ h => h) (Or.inl ⟨by rfl, ?_⟩) hHeld ?_
              rotate_left
              · intro w hSw
                try dsimp only at hSw
                go_simp
                try with_reducible rfl
              show wpAnyH _ _ _ _ _ _ _ (Act.put _ (some 54) _) _
              try simp only [Act.put, List.setIfInBounds_toArray, List.set_cons_zero, List.set_cons_succ]
              have HB5 := hide (heap_alloc_new w4 (.cells #[.int .i64 0, .slice none 0 0, .slice none 0 0] 30))
              have K5 := hide ((unhide k4).alloc (.cells #[.int .i64 0, .slice none 0 0, .slice none 0 0] 30))
              have FT5 := hide ((unhide FT4).keep ((Keep.refl w4).alloc (.cells #[.int .i64 0, .slice none 0 0, .slice none 0 0] 30)))
              have LW5 : Hid (wa.heap.size ≤ w4.heap.size) := hide (Below.size (unhide k4))
              refine wpAnyH_ready (rs := [8]) (by kernel_rfl) (by simp) ?_
              refine AllReadyH.cons rfl (fun K hK => ?_) AllReadyH.nil
              go_simp
              clear hHeld
              refine hK.out _ _ ?_ (fun hHeld => ?_)
              · exact unhide SS4 _ (unhide K5)
              clear hK K
              try simp only [Act.put, List.setIfInBounds_toArray, List.set_cons_zero, List.set_cons_succ]
              generalize w4.alloc (.cells #[.int .i64 0, .slice none 0 0, .slice none 0 0] 30) = w5 at *
              generalize w4.heap.size = fb5 at *
              obtain ⟨f0, f1, f2⟩ := fit_fz (unhide HB5)
              obtain ⟨e0, e1, e2⟩ := fit_sz (unhide HB5)
              have BE := hide (lay_end (RR := RR) (unhide K5) (unhide LW5) (unhide HB5) (unhide FT5))
              refine wpAnyH_ready (rs := [9]) (by kernel_rfl) (by simp) ?_
              refine AllReadyH.cons rfl (fun K hK => ?_) AllReadyH.nil
              go_simp
              clear hHeld
              refine hK.out _ _ ?_ (fun hHeld => ?_)
              · exact unhide SS4 _ (unhide BE).kp
              clear hK K
              try simp only [Act.put, List.setIfInBounds_toArray, List.set_cons_zero, List.set_cons_succ]
              clear f0 f1 f2 e0 e1 e2
              refine wpAnyH_take (i := 10) (v := ?_) rfl (by kernel_rfl) (by kernel_rfl) (by kernel_rfl) (fun _ _ _ h => h) (Or.inl ⟨by rfl, ?_⟩) hHeld ?_
              rotate_left
              · intro w hSw
                try dsimp only at hSw
                go_simp
                try with_reducible rfl
              show wpAnyH _ _ _ _ _ _ _ (Act.put _ (some 8) _) _
              try simp only [Act.put, List.setIfInBounds_toArray, List.set_cons_zero, List.set_cons_succ]
              refine wpAnyH_take (i := 11) (v := ?_) rfl (by kernel_rfl) (by kernel_rfl) (by kernel_rfl) (fun _ _ _ h => h) (Or.inl ⟨by rfl, ?_⟩) hHeld ?_
              rotate_left
              · intro w hSw
                try dsimp only at hSw
                go_simp
                try with_reducible rfl
              show wpAnyH _ _ _ _ _ _ _ (Act.put _ (some 9) _) _
              try simp only [Act.put, List.setIfInBounds_toArray, List.set_cons_zero, List.set_cons_succ]
              refine wpAnyH_done (by kernel_rfl) ?_ _
              clear hHeld
              go_wp2_with fail
              go_meet
              exact ⟨_, rfl, rfl, rfl, BE⟩
            ·
              have HB4 := hide (heap_alloc_new w3 (.cells #[.int .i64 0, .slice none 0 0, .slice none 0 0] 30))
              have k4 := hide ((unhide k3).alloc (.cells #[.int .i64 0, .slice none 0 0, .slice none 0 0] 30))
              have LW5 : Hid (wa.heap.size ≤ w3.heap.size) := hide (Below.size (unhide k3))
              go_simp
              clear hHeld
              refine hK.out _ _ ?_ (fun hHeld => ?_)
              · exact unhide SS4 _ (unhide k4)
              clear hK K
              try simp only [Act.put, List.setIfInBounds_toArray, List.set_cons_zero, List.set_cons_succ]
              generalize w3.alloc (.cells #[.int .i64 0, .slice none 0 0, .slice none 0 0] 30) = w4 at *
              generalize w3.heap.size = fb5 at *
              refine wpAnyH_ready (rs := [3]) (by kernel_rfl) (by simp) ?_
              refine AllReadyH.cons rfl (fun K hK => ?_) AllReadyH.nil
              go_simp
              clear hHeld
              (refine ((unhide TL) _ (unhide KK4 _ ((unhide k4)))).mono ?_; rintro e w5 ⟨v9, rfl, hk9, hft⟩; have K5 := hide (((unhide k4)).trans hk9); obtain ⟨x4, ao4, lo4, co4, as4, ls4, cs4, rfl⟩ := ft_shape hft; have FT4 := hide hft; clear hft)
              try go_wp2_with fail
              refine hK.out _ _ ?_ (fun hHeld => ?_)
              · exact unhide SS4 _ (unhide K5)
              clear hK K
              try simp only [Act.put, List.setIfInBounds_toArray, List.set_cons_zero, List.set_cons_succ]
              have HB5 := hide (kblk (unhide HB4) hk9)
              have FT5 := FT4
              clear hk9
              refine wpAnyH_take (i := 4) (v := ?_) rfl (by kernel_rfl) (by kernel_rfl) (by kernel_rfl) (fun _ _ _ h => h) (Or.inl ⟨by rfl, ?_⟩) hHeld ?_
              rotate_left
              · intro w hSw
                try dsimp only at hSw
                go_simp
                try with_reducible rfl
              show wpAnyH _ _ _ _ _ _ _ (Act.put _ (some 47) _) _
              try simp only [Act.put, List.setIfInBounds_toArray, List.set_cons_zero, List.set_cons_succ]
              refine wpAnyH_take (i := 5) (v := ?_) rfl (by kernel_rfl) (by kernel_rfl) (by kernel_rfl) (fun _ _ _ h => h) (Or.inl ⟨by rfl, ?_⟩) hHeld ?_
              rotate_left
              · intro w hSw
                try dsimp only at hSw
                go_simp
                try with_reducible rfl
              show wpAnyH _ _ _ _ _ _ _ (Act.put _ (some 52) _) _
              try simp only [Act.put, List.setIfInBounds_toArray, List.set_cons_zero, List.set_cons_succ]
              refine wpAnyH_take (i := 6) (v := ?_) rfl (by kernel_rfl) (by kernel_rfl) (by kernel_rfl) (fun _ _ _ h => h) (Or.inl ⟨by rfl, ?_⟩) hHeld ?_
              rotate_left
              · intro w hSw
                try dsimp only at hSw
                go_simp
                try with_reducible rfl
              show wpAnyH _ _ _ _ _ _ _ (Act.put _ (some 53) _) _
              try simp only [Act.put, List.setIfInBounds_toArray, List.set_cons_zero, List.set_cons_succ]
              refine wpAnyH_take (i := 7) (v := ?_) rfl (by kernel_rfl) (by kernel_rfl) (by kernel_rfl) (fun _ _ _ h => h) (Or.inl ⟨by rfl, ?_⟩) hHeld ?_
              rotate_left
              · intro w hSw
                try dsimp only at hSw
                go_simp
                try with_reducible rfl
              show wpAnyH _ _ _ _ _ _ _ (Act.put _ (some 54) _) _
              try simp only [Act.put, List.setIfInBounds_toArray, List.set_cons_zero, List.set_cons_succ]
              obtain ⟨f0, f1, f2⟩ := fit_fz (unhide HB5)
              obtain ⟨e0, e1, e2⟩ := fit_sz (unhide HB5)
              have BE := hide (lay_end (RR := RR) (unhide K5) (unhide LW5) (unhide HB5) (unhide FT5))
              refine wpAnyH_ready (rs := [9]) (by kernel_rfl) (by simp) ?_
              refine AllReadyH.cons rfl (fun K hK => ?_) AllReadyH.nil
              go_simp
              clear hHeld
              refine hK.out _ _ ?_ (fun hHeld => ?_)
              · exact unhide SS4 _ (unhide BE).kp
              clear hK K
              try simp only [Act.put, List.setIfInBounds_toArray, List.set_cons_zero, List.set_cons_succ]
              clear f0 f1 f2 e0 e1 e2
              refine wpAnyH_take (i := 10) (v := ?_) rfl (by kernel_rfl) (by kernel_rfl) (by kernel_rfl) (fun _ _ _ h => h) (Or.inl ⟨by rfl, ?_⟩) hHeld ?_
              rotate_left
              · intro w hSw
                try dsimp only at hSw
                go_simp
                try with_reducible rfl
              show wpAnyH _ _ _ _ _ _ _ (Act.put _ (some 8) _) _
              try simp only [Act.put, List.setIfInBounds_toArray, List.set_cons_zero, List.set_cons_succ]
              refine wpAnyH_take (i := 11) (v := ?_) rfl (by kernel_rfl) (by kernel_rfl) (by kernel_rfl) (fun _ _ _ h => h) (Or.inl ⟨by rfl, ?_⟩) hHeld ?_
              rotate_left
              · intro w hSw
                try dsimp only at hSw
                go_simp
                try with_reducible rfl
              show wpAnyH _ _ _ _ _ _ _ (Act.put _ (some 9) _) _
              try simp only [Act.put, List.setIfInBounds_toArray, List.set_cons_zero, List.set_cons_succ]
              refine wpAnyH_done (by kernel_rfl) ?_ _
              clear hHeld
              go_wp2_with fail
              go_meet
              exact ⟨_, rfl, rfl, rfl, BE⟩
          ·
            have HB3 : Hid ((wa.alloc (.cells #[.int .i64 0, .slice none 0 0, .slice none 0 0] 30)).drew.heap[wa.heap.size]? = some (.cells #[.int .i64 0, .slice none 0 0, .slice none 0 0] 30)) := hide (heap_alloc_new wa (.cells #[.int .i64 0, .slice none 0 0, .slice none 0 0] 30))
            have k3 := hide ((Keep.refl wa).alloc (.cells #[.int .i64 0, .slice none 0 0, .slice none 0 0] 30)).drew
            have LW5 : Hid (wa.heap.size ≤ wa.heap.size) := hide (Nat.le_refl _)
            go_simp
            clear hHeld
            refine hK.out _ _ ?_ (fun hHeld => ?_)
            · exact unhide SS4 _ (unhide k3)
            clear hK K
            try simp only [Act.put, List.setIfInBounds_toArray, List.set_cons_zero, List.set_cons_succ]
            generalize (wa.alloc (.cells #[.int .i64 0, .slice none 0 0, .slice none 0 0] 30)).drew = w3 at *
            obtain ⟨fb5, hfb5⟩ : ∃ f, wa.heap.size = f := ⟨_, rfl⟩
            have LW6 : Hid (wa.heap.size ≤ fb5) := hide (by rw [hfb5]; exact Nat.le_refl _)
            rw [hfb5] at HB3
            simp only [hfb5]
            clear LW5 hfb5
            have LW5 := LW6
            refine wpAnyH_ready (rs := [2]) (by kernel_rfl) (by simp) ?_
            refine AllReadyH.cons rfl (fun K hK => ?_) AllReadyH.nil
            go_simp
            clear hHeld
            (refine ((unhide TM) _ (unhide KK4 _ ((unhide k3)))).mono ?_; rintro e w4 ⟨rfl, hk9⟩; have k4 := hide (((unhide k3)).trans hk9); have HB4 := hide (kblk (unhide HB3) hk9); clear hk9)
            try go_wp2_with fail
            refine hK.out _ _ ?_ (fun hHeld => ?_)
            · exact unhide SS4 _ (unhide k4)
            clear hK K
            try simp only [Act.put, List.setIfInBounds_toArray, List.set_cons_zero, List.set_cons_succ]
            refine wpAnyH_ready (rs := [3]) (by kernel_rfl) (by simp) ?_
            refine AllReadyH.cons rfl (fun K hK => ?_) AllReadyH.nil
            go_simp
            clear hHeld
            (refine ((unhide TL) _ (unhide KK4 _ ((unhide k4)))).mono ?_; rintro e w5 ⟨v9, rfl, hk9, hft⟩; have K5 := hide (((unhide k4)).trans hk9); obtain ⟨x4, ao4, lo4, co4, as4, ls4, cs4, rfl⟩ := ft_shape hft; have FT4 := hide hft; clear hft)
            try go_wp2_with fail
            refine hK.out _ _ ?_ (fun hHeld => ?_)
            · exact unhide SS4 _ (unhide K5)
            clear hK K
            try simp only [Act.put, List.setIfInBounds_toArray, List.set_cons_zero, List.set_cons_succ]
            have HB5 := hide (kblk (unhide HB4) hk9)
            have FT5 := FT4
            clear hk9
            refine wpAnyH_take (i := 4) (v := ?_) rfl (by kernel_rfl) (by kernel_rfl) (by kernel_rfl) (fun _ _ _ h => h) (Or.inl ⟨by rfl, ?_⟩) hHeld ?_
            rotate_left
            · intro w hSw
              try dsimp only at hSw
              go_simp
              try with_reducible rfl
            show wpAnyH _ _ _ _ _ _ _ (Act.put _ (some 47) _) _
            try simp only [Act.put, List.setIfInBounds_toArray, List.set_cons_zero, List.set_cons_succ]
            refine wpAnyH_take (i := 5) (v := ?_) rfl (by kernel_rfl) (by kernel_rfl) (by kernel_rfl) (fun _ _ _ h => h) (Or.inl ⟨by rfl, ?_⟩) hHeld ?_
            rotate_left
            · intro w hSw
              try dsimp only at hSw
              go_simp
              try with_reducible rfl
            show wpAnyH _ _ _ _ _ _ _ (Act.put _ (some 52) _) _
            try simp only [Act.put, List.setIfInBounds_toArray, List.set_cons_zero, List.set_cons_succ]
            refine wpAnyH_take (i := 6) (v := ?_) rfl (by kernel_rfl) (by kernel_rfl) (by kernel_rfl) (fun _ _ _ h => h) (Or.inl ⟨by rfl, ?_⟩) hHeld ?_
            rotate_left
            · intro w hSw
              try dsimp only at hSw
              go_simp
              try with_reducible rfl
            show wpAnyH _ _ _ _ _ _ _ (Act.put _ (some 53) _) _
            try simp only [Act.put, List.setIfInBounds_toArray, List.set_cons_zero, List.set_cons_succ]
            refine wpAnyH_take (i := 7) (v := ?_) rfl (by kernel_rfl) (by kernel_rfl) (by kernel_rfl) (fun _ _ _ h => h) (Or.inl ⟨by rfl, ?_⟩) hHeld ?_
            rotate_left
            · intro w hSw
              try dsimp only at hSw
              go_simp
              try with_reducible rfl
            show wpAnyH _ _ _ _ _ _ _ (Act.put _ (some 54) _) _
            try simp only [Act.put, List.setIfInBounds_toArray, List.set_cons_zero, List.set_cons_succ]
            obtain ⟨f0, f1, f2⟩ := fit_fz (unhide HB5)
            obtain ⟨e0, e1, e2⟩ := fit_sz (unhide HB5)
            have BE := hide (lay_end (RR := RR) (unhide K5) (unhide LW5) (unhide HB5) (unhide FT5))
            refine wpAnyH_ready (rs := [9]) (by kernel_rfl) (by simp) ?_
            refine AllReadyH.cons rfl (fun K hK => ?_) AllReadyH.nil
            go_simp
            clear hHeld
            refine hK.out _ _ ?_ (fun hHeld => ?_)
            · exact unhide SS4 _ (unhide BE).kp
            clear hK K
            try simp only [Act.put, List.setIfInBounds_toArray, List.set_cons_zero, List.set_cons_succ]
            clear f0 f1 f2 e0 e1 e2
            refine wpAnyH_take (i := 10) (v := ?_) rfl (by kernel_rfl) (by kernel_rfl) (by kernel_rfl) (fun _ _ _ h => h) (Or.inl ⟨by rfl, ?_⟩) hHeld ?_
            rotate_left
            · intro w hSw
              try dsimp only at hSw
              go_simp
              try with_reducible rfl
            show wpAnyH _ _ _ _ _ _ _ (Act.put _ (some 8) _) _
            try simp only [Act.put, List.setIfInBounds_toArray, List.set_cons_zero, List.set_cons_succ]
            refine wpAnyH_take (i := 11) (v := ?_) rfl (by kernel_rfl) (by kernel_rfl) (by kernel_rfl) (fun _ _ _ h => h) (Or.inl ⟨by rfl, ?_⟩) hHeld ?_
            rotate_left
            · intro w hSw
              try dsimp only at hSw
              go_simp
              try with_reducible rfl
            show wpAnyH _ _ _ _ _ _ _ (Act.put _ (some 9) _) _
            try simp only [Act.put, List.setIfInBounds_toArray, List.set_cons_zero, List.set_cons_succ]
            refine wpAnyH_done (by kernel_rfl) ?_ _
            clear hHeld
            go_wp2_with fail
            go_meet
            exact ⟨_, rfl, rfl, rfl, BE⟩
        case rest =>
          obtain ⟨fb, rfl, rfl, rfl, BX⟩ := hcut
          have k5 := hide (unhide BX).kp
          have FX : Hid (∀ w', Keep wc w' → (w'.cell? ⟨b0, 0, none⟩ = some (.slice ar m cr) ∧ w'.cell? ⟨b0, 1, none⟩ = some (.slice af fl cf) ∧ w'.cell? ⟨b0, 2, none⟩ = some (.slice aa al ca)) ∧ w'.cell? ⟨fb, 0, none⟩ = some (.int .i64 (xb Bo)) ∧ Keep w w') := hide (fun w' hk => ⟨unhide SS4 _ ((unhide k5).trans hk), kc hk (bxf_x (unhide BX)), unhide KK4 _ ((unhide k5).trans hk)⟩)
          obtain ⟨wb, hwb⟩ : ∃ x, x = wc := ⟨_, rfl⟩
          subst hwb
          clear BX SS4 KK4 k5 K4
          generalize xb Bo = f0 at *
          obtain ⟨⟨c0, c1, c2⟩, -, -⟩ := unhide FX _ (Keep.refl _)
          have q2 := kc ((Keep.refl wb).alloc (.cells #[.slice ar m cr, .slice af fl cf, .slice aa al ca] 26)) c2
          go_upto_region 5 with fail
          go_cut [64] (fun s wq => s = .pointer (some ⟨wb.heap.size, 2, none⟩) ∧ wq = wb.alloc (.cells #[.slice ar m cr, .slice af fl cf, .slice aa np ca] 26))
          case first =>
            clear c0 c1 c2
            have hlc2 : (al : Int) - 1 ≤ (ca : Int) := by omega
            have hlc3 : al - 1 ≤ ca := by omega
            go_wp2_with fail
            all_goals (
              have hnp := unhide HNP
              first
              | (have h0 : al - 1 = np := hnp
                 rw [h0]
                 go_meet
                 exact ⟨rfl, rfl⟩)
              | (have h0 : np = 0 := by omega
                 subst h0
                 go_meet
                 exact ⟨rfl, rfl⟩))
          case rest =>
            obtain ⟨rfl, hwq⟩ := hcut
            have K6 : Hid (Keep wb wc) := hide (by rw [hwq]; exact (Keep.refl wb).alloc _)
            have B6 : Hid (wc.heap[wb.heap.size]? = some (.cells #[.slice ar m cr, .slice af fl cf, .slice aa np ca] 26 (0, 0))) := hide (by rw [hwq]; exact heap_alloc_new _ _)
            obtain ⟨we, hwe⟩ : ∃ x, x = wc := ⟨_, rfl⟩
            subst hwe
            clear hwq
            generalize wb.heap.size = b2 at *
            have SS6 : Hid (∀ w', Keep we w' → w'.cell? ⟨b2, 0, none⟩ = some (.slice ar m cr) ∧ w'.cell? ⟨b2, 1, none⟩ = some (.slice af fl cf) ∧ w'.cell? ⟨b2, 2, none⟩ = some (.slice aa np ca)) := hide (fun w' hk => fit_sz (kblk (unhide B6) hk))
            have KK6 := hide (fun w' (hk : Keep we w') => (unhide FX w' ((unhide K6).trans hk)).2.2)
            clear q2 hlc
            go_upto_region 6 with fail
            go_cut [11, 12, 13] (fun vp vn ve wc => ∃ fb, vp = .pointer (some ⟨fb, 0, none⟩) ∧ vn = .int .i64 sl ∧ ve = .int .i64 el ∧ Hid (Bxf RR Bl we wc fb))
            case first =>
              refine wp_region_held_drew (S := (fun w' => w'.cell? ⟨b2, 0, none⟩ = some (.slice ar m cr) ∧ w'.cell? ⟨b2, 1, none⟩ = some (.slice af fl cf) ∧ w'.cell? ⟨b2, 2, none⟩ = some (.slice aa np ca))) (by kernel_rfl) (by exact unhide SS6 _ ((Keep.refl _).drew)) (fun hHeld => ?_)
              refine wpAnyH_take (i := 0) (v := ?_) rfl (by kernel_rfl) (by kernel_rfl) (by kernel_rfl) (fun _ _ _ h => h) (Or.inl ⟨by rfl, ?_⟩) hHeld ?_
              rotate_left
              · intro w hSw
                try dsimp only at hSw
                go_simp
                try with_reducible rfl
              show wpAnyH _ _ _ _ _ _ _ (Act.put _ (some 66) _) _
              try simp only [Act.put, List.setIfInBounds_toArray, List.set_cons_zero, List.set_cons_succ]
              refine wpAnyH_take (i := 1) (v := ?_) rfl (by kernel_rfl) (by kernel_rfl) (by kernel_rfl) (fun _ _ _ h => h) (Or.inl ⟨by rfl, ?_⟩) hHeld ?_
              rotate_left
              · intro w hSw
                try dsimp only at hSw
                go_simp
                try with_reducible rfl
              show wpAnyH _ _ _ _ _ _ _ (Act.put _ (some 67) _) _
              try simp only [Act.put, List.setIfInBounds_toArray, List.set_cons_zero, List.set_cons_succ]
              refine wpAnyH_ready (rs := [2, 8]) (by kernel_rfl) (by simp) ?_
              refine AllReadyH.cons rfl (fun K hK => ?_) (AllReadyH.cons rfl (fun K hK => ?_) AllReadyH.nil)
              ·
                go_simp
                clear hHeld
                (refine ((unhide TM2) _ (unhide KK6 _ (((Keep.refl we).drew)))).mono ?_; rintro e w3 ⟨rfl, hk9⟩; have k3 := hide ((((Keep.refl we).drew)).trans hk9); clear hk9)
                try go_wp2_with fail
                refine hK.out _ _ ?_ (fun hHeld => ?_)
                · exact unhide SS6 _ (unhide k3)
                clear hK K
                try simp only [Act.put, List.setIfInBounds_toArray, List.set_cons_zero, List.set_cons_succ]
                refine wpAnyH_ready (rs := [3, 8]) (by kernel_rfl) (by simp) ?_
                refine AllReadyH.cons rfl (fun K hK => ?_) (AllReadyH.cons rfl (fun K hK => ?_) AllReadyH.nil)
                ·
                  go_simp
                  clear hHeld
                  (refine ((unhide TL2) _ (unhide KK6 _ ((unhide k3)))).mono ?_; rintro e w4 ⟨v9, rfl, hk9, hft⟩; have k4 := hide (((unhide k3)).trans hk9); obtain ⟨x4, ao4, lo4, co4, as4, ls4, cs4, rfl⟩ := ft_shape hft; have FT4 := hide hft; clear hft)
                  try go_wp2_with fail
                  refine hK.out _ _ ?_ (fun hHeld => ?_)
                  · exact unhide SS6 _ (unhide k4)
                  clear hK K
                  try simp only [Act.put, List.setIfInBounds_toArray, List.set_cons_zero, List.set_cons_succ]
                  clear hk9
                  refine wpAnyH_take (i := 4) (v := ?_) rfl (by kernel_rfl) (by kernel_rfl) (by kernel_rfl) (fun _ _ _ h => h) (Or.inl ⟨by rfl, ?_⟩) hHeld ?_
                  rotate_left
                  · intro w hSw
                    try dsimp only at hSw
                    go_simp
                    try with_reducible rfl
                  show wpAnyH _ _ _ _ _ _ _ (Act.put _ (some 65) _) _
                  try simp only [Act.put, List.setIfInBounds_toArray, List.set_cons_zero, List.set_cons_succ]
                  refine wpAnyH_take (i := 5) (v := ?_) rfl (by kernel_rfl) (by kernel_rfl) (by kernel_rfl) (fun _ _ _ h => h) (Or.inl ⟨by rfl, ?_⟩) hHeld ?_
                  rotate_left
                  · intro w hSw
                    try dsimp only at hSw
                    go_simp
                    try with_reducible rfl
                  show wpAnyH _ _ _ _ _ _ _ (Act.put _ (some 70) _) _
                  try simp only [Act.put, List.setIfInBounds_toArray, List.set_cons_zero, List.set_cons_succ]
                  refine wpAnyH_take (i := 6) (v := ?_) rfl (by kernel_rfl) (by kernel_rfl) (by kernel_rfl) (fun _ _ _ h => h) (Or.inl ⟨by rfl, ?_⟩) hHeld ?_
                  rotate_left
                  · intro w hSw
                    try dsimp only at hSw
                    go_simp
                    try with_reducible rfl
                  show wpAnyH _ _ _ _ _ _ _ (Act.put _ (some 71) _) _
                  try simp only [Act.put, List.setIfInBounds_toArray, List.set_cons_zero, List.set_cons_succ]
                  refine wpAnyH_take (i := 7) (v := ?_) rfl (by kernel_rfl) (by kernel_rfl) (by kernel_rfl) (fun _ _ _ h => h) (Or.inl ⟨by rfl, ?_⟩) hHeld ?_
                  rotate_left
                  · intro w hSw
                    try dsimp only at hSw
                    go_simp
                    try with_reducible rfl
                  show wpAnyH _ _ _ _ _ _ _ (Act.put _ (some 72) _) _
                  try simp only [Act.put, List.setIfInBounds_toArray, List.set_cons_zero, List.set_cons_succ]
                  have HB5 := hide (heap_alloc_new w4 (.cells #[.int .i64 0, .slice none 0 0, .slice none 0 0] 30))
                  have K5 := hide ((unhide k4).alloc (.cells #[.int .i64 0, .slice none 0 0, .slice none 0 0] 30))
                  have FT5 := hide ((unhide FT4).keep ((Keep.refl w4).alloc (.cells #[.int .i64 0, .slice none 0 0, .slice none 0 0] 30)))
                  have LW5 : Hid (we.heap.size ≤ w4.heap.size) := hide (Below.size (unhide k4))
                  refine wpAnyH_ready (rs := [8]) (by kernel_rfl) (by simp) ?_
                  refine AllReadyH.cons rfl (fun K hK => ?_) AllReadyH.nil
                  go_simp
                  clear hHeld
                  refine hK.out _ _ ?_ (fun hHeld => ?_)
                  · exact unhide SS6 _ (unhide K5)
                  clear hK K
                  try simp only [Act.put, List.setIfInBounds_toArray, List.set_cons_zero, List.set_cons_succ]
                  generalize w4.alloc (.cells #[.int .i64 0, .slice none 0 0, .slice none 0 0] 30) = w5 at *
                  generalize w4.heap.size = fb5 at *
                  obtain ⟨f0, f1, f2⟩ := fit_fz (unhide HB5)
                  obtain ⟨e0, e1, e2⟩ := fit_sz (unhide HB5)
                  have BE := hide (lay_end (RR := RR) (unhide K5) (unhide LW5) (unhide HB5) (unhide FT5))
                  refine wpAnyH_ready (rs := [9]) (by kernel_rfl) (by simp) ?_
                  refine AllReadyH.cons rfl (fun K hK => ?_) AllReadyH.nil
                  go_simp
                  clear hHeld
                  refine hK.out _ _ ?_ (fun hHeld => ?_)
                  · exact unhide SS6 _ (unhide BE).kp
                  clear hK K
                  try simp only [Act.put, List.setIfInBounds_toArray, List.set_cons_zero, List.set_cons_succ]
                  clear f0 f1 f2 e0 e1 e2
                  refine wpAnyH_take (i := 10) (v := ?_) rfl (by kernel_rfl) (by kernel_rfl) (by kernel_rfl) (fun _ _ _ h => h) (Or.inl ⟨by rfl, ?_⟩) hHeld ?_
                  rotate_left
                  · intro w hSw
                    try dsimp only at hSw
                    go_simp
                    try with_reducible rfl
                  show wpAnyH _ _ _ _ _ _ _ (Act.put _ (some 12) _) _
                  try simp only [Act.put, List.setIfInBounds_toArray, List.set_cons_zero, List.set_cons_succ]
                  refine wpAnyH_take (i := 11) (v := ?_) rfl (by kernel_rfl) (by kernel_rfl) (by kernel_rfl) (fun _ _ _ h => h) (Or.inl ⟨by rfl, ?_⟩) hHeld ?_
                  rotate_left
                  · intro w hSw
                    try dsimp only at hSw
                    go_simp
                    try with_reducible rfl
                  show wpAnyH _ _ _ _ _ _ _ (Act.put _ (some 13) _) _
                  try simp only [Act.put, List.setIfInBounds_toArray, List.set_cons_zero, List.set_cons_succ]
                  refine wpAnyH_done (by kernel_rfl) ?_ _
                  clear hHeld
                  go_wp2_with fail
                  go_meet
                  exact ⟨_, rfl, rfl, rfl, BE⟩
                ·
                  have HB4 := hide (heap_alloc_new w3 (.cells #[.int .i64 0, .slice none 0 0, .slice none 0 0] 30))
                  have k4 := hide ((unhide k3).alloc (.cells #[.int .i64 0, .slice none 0 0, .slice none 0 0] 30))
                  have LW5 : Hid (we.heap.size ≤ w3.heap.size) := hide (Below.size (unhide k3))
                  go_simp
                  clear hHeld
                  refine hK.out _ _ ?_ (fun hHeld => ?_)
                  · exact unhide SS6 _ (unhide k4)
                  clear hK K
                  try simp only [Act.put, List.setIfInBounds_toArray, List.set_cons_zero, List.set_cons_succ]
                  generalize w3.alloc (.cells #[.int .i64 0, .slice none 0 0, .slice none 0 0] 30) = w4 at *
                  generalize w3.heap.size = fb5 at *
                  refine wpAnyH_ready (rs := [3]) (by kernel_rfl) (by simp) ?_
                  refine AllReadyH.cons rfl (fun K hK => ?_) AllReadyH.nil
                  go_simp
                  clear hHeld
                  (refine ((unhide TL2) _ (unhide KK6 _ ((unhide k4)))).mono ?_; rintro e w5 ⟨v9, rfl, hk9, hft⟩; have K5 := hide (((unhide k4)).trans hk9); obtain ⟨x4, ao4, lo4, co4, as4, ls4, cs4, rfl⟩ := ft_shape hft; have FT4 := hide hft; clear hft)
                  try go_wp2_with fail
                  refine hK.out _ _ ?_ (fun hHeld => ?_)
                  · exact unhide SS6 _ (unhide K5)
                  clear hK K
                  try simp only [Act.put, List.setIfInBounds_toArray, List.set_cons_zero, List.set_cons_succ]
                  have HB5 := hide (kblk (unhide HB4) hk9)
                  have FT5 := FT4
                  clear hk9
                  refine wpAnyH_take (i := 4) (v := ?_) rfl (by kernel_rfl) (by kernel_rfl) (by kernel_rfl) (fun _ _ _ h => h) (Or.inl ⟨by rfl, ?_⟩) hHeld ?_
                  rotate_left
                  · intro w hSw
                    try dsimp only at hSw
                    go_simp
                    try with_reducible rfl
                  show wpAnyH _ _ _ _ _ _ _ (Act.put _ (some 65) _) _
                  try simp only [Act.put, List.setIfInBounds_toArray, List.set_cons_zero, List.set_cons_succ]
                  refine wpAnyH_take (i := 5) (v := ?_) rfl (by kernel_rfl) (by kernel_rfl) (by kernel_rfl) (fun _ _ _ h => h) (Or.inl ⟨by rfl, ?_⟩) hHeld ?_
                  rotate_left
                  · intro w hSw
                    try dsimp only at hSw
                    go_simp
                    try with_reducible rfl
                  show wpAnyH _ _ _ _ _ _ _ (Act.put _ (some 70) _) _
                  try simp only [Act.put, List.setIfInBounds_toArray, List.set_cons_zero, List.set_cons_succ]
                  refine wpAnyH_take (i := 6) (v := ?_) rfl (by kernel_rfl) (by kernel_rfl) (by kernel_rfl) (fun _ _ _ h => h) (Or.inl ⟨by rfl, ?_⟩) hHeld ?_
                  rotate_left
                  · intro w hSw
                    try dsimp only at hSw
                    go_simp
                    try with_reducible rfl
                  show wpAnyH _ _ _ _ _ _ _ (Act.put _ (some 71) _) _
                  try simp only [Act.put, List.setIfInBounds_toArray, List.set_cons_zero, List.set_cons_succ]
                  refine wpAnyH_take (i := 7) (v := ?_) rfl (by kernel_rfl) (by kernel_rfl) (by kernel_rfl) (fun _ _ _ h => h) (Or.inl ⟨by rfl, ?_⟩) hHeld ?_
                  rotate_left
                  · intro w hSw
                    try dsimp only at hSw
                    go_simp
                    try with_reducible rfl
                  show wpAnyH _ _ _ _ _ _ _ (Act.put _ (some 72) _) _
                  try simp only [Act.put, List.setIfInBounds_toArray, List.set_cons_zero, List.set_cons_succ]
                  obtain ⟨f0, f1, f2⟩ := fit_fz (unhide HB5)
                  obtain ⟨e0, e1, e2⟩ := fit_sz (unhide HB5)
                  have BE := hide (lay_end (RR := RR) (unhide K5) (unhide LW5) (unhide HB5) (unhide FT5))
                  refine wpAnyH_ready (rs := [9]) (by kernel_rfl) (by simp) ?_
                  refine AllReadyH.cons rfl (fun K hK => ?_) AllReadyH.nil
                  go_simp
                  clear hHeld
                  refine hK.out _ _ ?_ (fun hHeld => ?_)
                  · exact unhide SS6 _ (unhide BE).kp
                  clear hK K
                  try simp only [Act.put, List.setIfInBounds_toArray, List.set_cons_zero, List.set_cons_succ]
                  clear f0 f1 f2 e0 e1 e2
                  refine wpAnyH_take (i := 10) (v := ?_) rfl (by kernel_rfl) (by kernel_rfl) (by kernel_rfl) (fun _ _ _ h => h) (Or.inl ⟨by rfl, ?_⟩) hHeld ?_
                  rotate_left
                  · intro w hSw
                    try dsimp only at hSw
                    go_simp
                    try with_reducible rfl
                  show wpAnyH _ _ _ _ _ _ _ (Act.put _ (some 12) _) _
                  try simp only [Act.put, List.setIfInBounds_toArray, List.set_cons_zero, List.set_cons_succ]
                  refine wpAnyH_take (i := 11) (v := ?_) rfl (by kernel_rfl) (by kernel_rfl) (by kernel_rfl) (fun _ _ _ h => h) (Or.inl ⟨by rfl, ?_⟩) hHeld ?_
                  rotate_left
                  · intro w hSw
                    try dsimp only at hSw
                    go_simp
                    try with_reducible rfl
                  show wpAnyH _ _ _ _ _ _ _ (Act.put _ (some 13) _) _
                  try simp only [Act.put, List.setIfInBounds_toArray, List.set_cons_zero, List.set_cons_succ]
                  refine wpAnyH_done (by kernel_rfl) ?_ _
                  clear hHeld
                  go_wp2_with fail
                  go_meet
                  exact ⟨_, rfl, rfl, rfl, BE⟩
              ·
                have HB3 : Hid ((we.alloc (.cells #[.int .i64 0, .slice none 0 0, .slice none 0 0] 30)).drew.heap[we.heap.size]? = some (.cells #[.int .i64 0, .slice none 0 0, .slice none 0 0] 30)) := hide (heap_alloc_new we (.cells #[.int .i64 0, .slice none 0 0, .slice none 0 0] 30))
                have k3 := hide ((Keep.refl we).alloc (.cells #[.int .i64 0, .slice none 0 0, .slice none 0 0] 30)).drew
                have LW5 : Hid (we.heap.size ≤ we.heap.size) := hide (Nat.le_refl _)
                go_simp
                clear hHeld
                refine hK.out _ _ ?_ (fun hHeld => ?_)
                · exact unhide SS6 _ (unhide k3)
                clear hK K
                try simp only [Act.put, List.setIfInBounds_toArray, List.set_cons_zero, List.set_cons_succ]
                generalize (we.alloc (.cells #[.int .i64 0, .slice none 0 0, .slice none 0 0] 30)).drew = w3 at *
                obtain ⟨fb5, hfb5⟩ : ∃ f, we.heap.size = f := ⟨_, rfl⟩
                have LW6 : Hid (we.heap.size ≤ fb5) := hide (by rw [hfb5]; exact Nat.le_refl _)
                rw [hfb5] at HB3
                simp only [hfb5]
                clear LW5 hfb5
                have LW5 := LW6
                refine wpAnyH_ready (rs := [2]) (by kernel_rfl) (by simp) ?_
                refine AllReadyH.cons rfl (fun K hK => ?_) AllReadyH.nil
                go_simp
                clear hHeld
                (refine ((unhide TM2) _ (unhide KK6 _ ((unhide k3)))).mono ?_; rintro e w4 ⟨rfl, hk9⟩; have k4 := hide (((unhide k3)).trans hk9); have HB4 := hide (kblk (unhide HB3) hk9); clear hk9)
                try go_wp2_with fail
                refine hK.out _ _ ?_ (fun hHeld => ?_)
                · exact unhide SS6 _ (unhide k4)
                clear hK K
                try simp only [Act.put, List.setIfInBounds_toArray, List.set_cons_zero, List.set_cons_succ]
                refine wpAnyH_ready (rs := [3]) (by kernel_rfl) (by simp) ?_
                refine AllReadyH.cons rfl (fun K hK => ?_) AllReadyH.nil
                go_simp
                clear hHeld
                (refine ((unhide TL2) _ (unhide KK6 _ ((unhide k4)))).mono ?_; rintro e w5 ⟨v9, rfl, hk9, hft⟩; have K5 := hide (((unhide k4)).trans hk9); obtain ⟨x4, ao4, lo4, co4, as4, ls4, cs4, rfl⟩ := ft_shape hft; have FT4 := hide hft; clear hft)
                try go_wp2_with fail
                refine hK.out _ _ ?_ (fun hHeld => ?_)
                · exact unhide SS6 _ (unhide K5)
                clear hK K
                try simp only [Act.put, List.setIfInBounds_toArray, List.set_cons_zero, List.set_cons_succ]
                have HB5 := hide (kblk (unhide HB4) hk9)
                have FT5 := FT4
                clear hk9
                refine wpAnyH_take (i := 4) (v := ?_) rfl (by kernel_rfl) (by kernel_rfl) (by kernel_rfl) (fun _ _ _ h => h) (Or.inl ⟨by rfl, ?_⟩) hHeld ?_
                rotate_left
                · intro w hSw
                  try dsimp only at hSw
                  go_simp
                  try with_reducible rfl
                show wpAnyH _ _ _ _ _ _ _ (Act.put _ (some 65) _) _
                try simp only [Act.put, List.setIfInBounds_toArray, List.set_cons_zero, List.set_cons_succ]
                refine wpAnyH_take (i := 5) (v := ?_) rfl (by kernel_rfl) (by kernel_rfl) (by kernel_rfl) (fun _ _ _ h => h) (Or.inl ⟨by rfl, ?_⟩) hHeld ?_
                rotate_left
                · intro w hSw
                  try dsimp only at hSw
                  go_simp
                  try with_reducible rfl
                show wpAnyH _ _ _ _ _ _ _ (Act.put _ (some 70) _) _
                try simp only [Act.put, List.setIfInBounds_toArray, List.set_cons_zero, List.set_cons_succ]
                refine wpAnyH_take (i := 6) (v := ?_) rfl (by kernel_rfl) (by kernel_rfl) (by kernel_rfl) (fun _ _ _ h => h) (Or.inl ⟨by rfl, ?_⟩) hHeld ?_
                rotate_left
                · intro w hSw
                  try dsimp only at hSw
                  go_simp
                  try with_reducible rfl
                show wpAnyH _ _ _ _ _ _ _ (Act.put _ (some 71) _) _
                try simp only [Act.put, List.setIfInBounds_toArray, List.set_cons_zero, List.set_cons_succ]
                refine wpAnyH_take (i := 7) (v := ?_) rfl (by kernel_rfl) (by kernel_rfl) (by kernel_rfl) (fun _ _ _ h => h) (Or.inl ⟨by rfl, ?_⟩) hHeld ?_
                rotate_left
                · intro w hSw
                  try dsimp only at hSw
                  go_simp
                  try with_reducible rfl
                show wpAnyH _ _ _ _ _ _ _ (Act.put _ (some 72) _) _
                try simp only [Act.put, List.setIfInBounds_toArray, List.set_cons_zero, List.set_cons_succ]
                obtain ⟨f0, f1, f2⟩ := fit_fz (unhide HB5)
                obtain ⟨e0, e1, e2⟩ := fit_sz (unhide HB5)
                have BE := hide (lay_end (RR := RR) (unhide K5) (unhide LW5) (unhide HB5) (unhide FT5))
                refine wpAnyH_ready (rs := [9]) (by kernel_rfl) (by simp) ?_
                refine AllReadyH.cons rfl (fun K hK => ?_) AllReadyH.nil
                go_simp
                clear hHeld
                refine hK.out _ _ ?_ (fun hHeld => ?_)
                · exact unhide SS6 _ (unhide BE).kp
                clear hK K
                try simp only [Act.put, List.setIfInBounds_toArray, List.set_cons_zero, List.set_cons_succ]
                clear f0 f1 f2 e0 e1 e2
                refine wpAnyH_take (i := 10) (v := ?_) rfl (by kernel_rfl) (by kernel_rfl) (by kernel_rfl) (fun _ _ _ h => h) (Or.inl ⟨by rfl, ?_⟩) hHeld ?_
                rotate_left
                · intro w hSw
                  try dsimp only at hSw
                  go_simp
                  try with_reducible rfl
                show wpAnyH _ _ _ _ _ _ _ (Act.put _ (some 12) _) _
                try simp only [Act.put, List.setIfInBounds_toArray, List.set_cons_zero, List.set_cons_succ]
                refine wpAnyH_take (i := 11) (v := ?_) rfl (by kernel_rfl) (by kernel_rfl) (by kernel_rfl) (fun _ _ _ h => h) (Or.inl ⟨by rfl, ?_⟩) hHeld ?_
                rotate_left
                · intro w hSw
                  try dsimp only at hSw
                  go_simp
                  try with_reducible rfl
                show wpAnyH _ _ _ _ _ _ _ (Act.put _ (some 13) _) _
                try simp only [Act.put, List.setIfInBounds_toArray, List.set_cons_zero, List.set_cons_succ]
                refine wpAnyH_done (by kernel_rfl) ?_ _
                clear hHeld
                go_wp2_with fail
                go_meet
                exact ⟨_, rfl, rfl, rfl, BE⟩
            case rest =>
              obtain ⟨fb2, rfl, rfl, rfl, BX⟩ := hcut
              have k5 := hide (unhide BX).kp
              have FY : Hid (∀ w', Keep wc w' → (w'.cell? ⟨b0, 0, none⟩ = some (.slice ar m cr) ∧ w'.cell? ⟨b0, 1, none⟩ = some (.slice af fl cf) ∧ w'.cell? ⟨b0, 2, none⟩ = some (.slice aa al ca)) ∧ w'.cell? ⟨fb, 0, none⟩ = some (.int .i64 f0) ∧ w'.cell? ⟨fb2, 0, none⟩ = some (.int .i64 (xb Bl)) ∧ Keep w w') := hide (fun w' hk => ⟨(unhide FX w' ((unhide K6).trans ((unhide k5).trans hk))).1, (unhide FX w' ((unhide K6).trans ((unhide k5).trans hk))).2.1, kc hk (bxf_x (unhide BX)), (unhide FX w' ((unhide K6).trans ((unhide k5).trans hk))).2.2⟩)
              clear BX SS6 KK6 k5 K6 B6 FX
              generalize xb Bl = g0 at *
              obtain ⟨wf, hwf⟩ : ∃ x, x = wc := ⟨_, rfl⟩
              subst hwf
              obtain ⟨⟨c0, c1, c2⟩, y0, y1, -⟩ := unhide FY _ (Keep.refl _)
              rcases unhide RES2 with he | ⟨he, hel, r1, r2, r3, r4⟩
              · subst he
                clear TM TL TM2 TL2 RES2 MORE
                go_wp2_with fail
                (refine (awake_any _).mono ?_; rintro e w9 ⟨rfl, hk9⟩; have k9 := hide (unhide FY _ hk9).2.2.2; clear hk9)
                go_wp2_with fail
                try go_ret
                exact ⟨rfl, unhide k9⟩
              · subst hel
                have HER := hide he
                subst he
                have dg : decide (f0 < g0) = false := decide_eq_false (by omega)
                obtain ⟨hm1, hn1, hn4, htt⟩ := unhide HRT trivial
                have HB := hide (fun k hk => sum_bd htt k hk)
                have HT := hide (fun k => rg_at htt k)
                have HS : Hid (∀ k, k < (RR.getD 0 []).length → ((RR.getD 0 []).take (k + 1)).foldl (· + ·) (0 : Int) = ((RR.getD 0 []).take k).foldl (· + ·) 0 + (RR.getD 0 []).getD k 0) := hide (fun k hk => fold_more _ _ 0 (RR.getD 0 []) k hk)
                have HE : Hid (sumN (RR.getD 0 []) = ((RR.getD 0 []).take (RR.getD 0 []).length).foldl (· + ·) 0) := hide (by rw [take_all]; rfl)
                obtain ⟨ad0, ur, uc, rfl, yr00, hur⟩ := row8 (unhide HR) (k := 0) (by rw [unhide LM]; exact hm1)
                have yr00 := add_0 yr00
                have HUR := hide hur
                have YR := hide yr00
                have r2' := hide r2
                clear r1 r2 RES2 HRT htt hur yr00 TM TL TM2 TL2
                generalize hR0 : RR.getD 0 [] = R0 at *
                have HR0 := hide hR0
                clear hR0
                generalize hf : (fun k => (R0.take k).foldl (· + ·) (0 : Int)) = f
                have hf2 : ∀ k, (R0.take k).foldl (· + ·) (0 : Int) = f k := fun k => by rw [← hf]
                simp only [hf2] at HS HB HE
                have HZ0 : Hid (f 0 = 0) := hide (by rw [← hf]; rfl)
                clear hf hf2
                rw [unhide HE] at r2'
                generalize hn : R0.length = n at *
                have HN := hide hn
                clear hn
                have l0m : (0 : Int) < (m : Int) := by omega
                have l0m2 : 0 < m := by omega
                have KF : Hid (Keep wf wf) := hide (Keep.refl _)
                have yr := kc (unhide FY _ (Keep.refl _)).2.2.2 (unhide YR)
                go_wp2_with fail
                clear dg y0 y1 c0 c1 c2
                go_loopw [14, 15] (fun vs vi wr => ∃ k : Nat, k ≤ n ∧ vi = .int .i64 (k : Int) ∧ vs = .int .i64 (f k) ∧ Hid (Keep wf wr)) (fun vs vi _ => n - (intOf vi).toNat)
                case atStart => exact ⟨0, Nat.zero_le _, rfl, by rw [unhide HZ0], KF⟩
                case round =>
                  clear KF yr
                  obtain ⟨k, hk, rfl, rfl, KW⟩ := hrel
                  obtain ⟨⟨c0, c1, c2⟩, y0, y1, ke⟩ := unhide FY _ (unhide KW)
                  have yr := kc ke (unhide YR)
                  by_cases hlt : k < n
                  · have li : (k : Int) < (n : Int) := by omega
                    obtain ⟨ad, rfl, e0⟩ := (unhide HUR) k hlt
                    have z0 := kc ke e0
                    have hn := unhide HS k hlt
                    have hb := unhide HB k (by omega)
                    have ht := unhide HT k
                    clear e0 ke
                    generalize R0.getD k 0 = y at z0 hn ht
                    obtain ⟨z, hz⟩ : ∃ z, f (k + 1) = z := ⟨_, rfl⟩
                    have HZ1 := hide hz
                    rw [hz] at hn
                    clear hz
                    generalize f k = x at hn hb ⊢
                    have hw : IntKind.i64.wrap (x + y) = z := by rw [IntKind.wrap_i64]; omega
                    clear hb ht
                    go_wp2_with fail
                    go_roundw
                    case rel => exact ⟨k + 1, hlt, by go_num, by rw [unhide HZ1, hn], KW⟩
                    case measure => simp [intOf]; omega
                  · have li : ¬ (k : Int) < (n : Int) := by omega
                    obtain rfl : k = n := by omega
                    obtain ⟨i0, hi0, hz00, hz01, hz02⟩ := info_f infoW
                    have hk9 : ∃ kk : Nat, at9.tmod (k : Int) = (kk : Int) ∧ kk < k := by
                      rw [Int.tmod_eq_emod_of_nonneg (by omega)]
                      have h1 := Int.emod_nonneg at9 (show (k : Int) ≠ 0 by omega)
                      have h2 := Int.emod_lt_of_pos at9 (show (0 : Int) < (k : Int) by omega)
                      exact ⟨(at9 % (k : Int)).toNat, by omega, by omega⟩
                    obtain ⟨kk, hkk, hkn⟩ := hk9
                    have hnz : ((k : Int) == 0) = false := by simp; omega
                    have hnz2 : ¬ (k : Int) = 0 := by omega
                    have O1 : Hid ((wr.alloc (.cells #[] T2)).ownsRow wr.heap.size T2 1 (.slice (some ⟨wr.heap.size, 0, none⟩) 0 0) 0 []) := hide (own_empty wr T2)
                    have V1 : Hid (Vs (wr.alloc (.cells #[] T2)) (.slice ur k uc) k (ics R0)) := hide ⟨ur, uc, rfl, fun j u hj => by
                      have hlj : j < k := by have := (List.getElem?_eq_some_iff.1 hj).1; rw [ics_len, unhide HN] at this; exact this
                      rw [ics_at (by rw [unhide HN]; exact hlj)] at hj
                      injection hj with hj
                      subst hj
                      obtain ⟨ad2, e, h⟩ := unhide HUR j hlj
                      exact ⟨ad2, e, kc (ke.trans ((Keep.refl wr).alloc _)) h⟩⟩
                    have hys : (ics R0).length = k * 1 := by rw [ics_len, unhide HN, Nat.mul_one]
                    have HYS := hide hys
                    have K1 := hide ((unhide KW).alloc (.cells #[] T2))
                    have hqs : wr.heap.size ≤ (wr.alloc (.cells #[] T2)).heap.size := by rw [World.size_alloc]; omega
                    have HQS := hide hqs
                    have HWF : Hid (wf.heap.size ≤ wr.heap.size) := hide (Below.size (unhide KW))
                    clear hys hqs
                    have p0 := kc ((Keep.refl wr).alloc (.cells #[] T2)) c0
                    have pr := kc ((Keep.refl wr).alloc (.cells #[] T2)) yr
                    have ht := unhide HT kk
                    obtain ⟨t, htt⟩ : ∃ t, R0.getD kk 0 = t := ⟨_, rfl⟩
                    have HTT := hide htt
                    rw [htt] at ht
                    clear htt
                    have wt : wrap64 (t + more) = t + more := by unfold wrap64; omega
                    have lkk : (kk : Int) < (k : Int) := by omega
                    have lkk0 : (0 : Int) ≤ (kk : Int) := by omega
                    have HN1 := hide hn1
                    have HBM := hide (And.intro hm0 hm1)
                    by_cases hgt : 6000 < t + more
                    · have dgt : decide (6000 < t + more) = true := decide_eq_true hgt
                      go_wp2_with (at_builtin; refine wpList_append_vs _ rfl _ _ 39 rfl wr.heap.size T2 i0 _ 1 8 Try.underlying39 hi0 hz00 hz01 hz02 rfl (by decide) (by decide) _ _ _ rfl (unhide O1) _ _ _ rfl (unhide V1) (unhide HYS) (ics_one R0) (by omega) (unhide HQS) ?_; intro v7 w7 hown hgrow; obtain ⟨g7, e7, arr7, rfl, hb7, hc7, hk7, hl7⟩ := row_made (unhide K1) (unhide HWF) (unhide O1) hown hgrow (unhide HN) (unhide HN1); have x7 : w7.cell? ⟨g7, kk, none⟩ = some (.int .i64 t) := (by have h9 := hc7 kk hkn; rw [unhide HTT] at h9; simp [World.cell?, hb7, h9]); have f7 : w7.frozen? ⟨g7, kk, none⟩ = false := (by simp [World.frozen?, hb7]); have K8 : Hid (Keep wf (w7.setCell ⟨g7, kk, none⟩ (.int .i64 (t + more)))) := hide (Below.setCell hk7 hl7 _); have B8 : Hid ((w7.setCell ⟨g7, kk, none⟩ (.int .i64 (t + more))).heap[g7]? = some (.cells (arr7.setIfInBounds kk (.int .i64 (t + more))) T2 (0, 0))) := hide (heap_setCell_same _ g7 kk _ _ _ hb7); have C7 := hide hc7; obtain ⟨⟨s0, s1, s2⟩, -, -⟩ := unhide FY _ (unhide K8); clear hown hgrow hb7 hc7 hk7 hl7)
                      (refine (awake_any _).mono ?_; rintro e w9 ⟨rfl, hk9⟩; have k9 := hide (unhide FY _ ((unhide K8).trans hk9)).2.2.2; clear hk9)
                      go_wp2_with fail
                      try go_ret
                      exact ⟨rfl, unhide k9⟩
                    · have dgt : decide (6000 < t + more) = false := decide_eq_false hgt
                      go_upto_region 21 with (at_builtin; refine wpList_append_vs _ rfl _ _ 39 rfl wr.heap.size T2 i0 _ 1 8 Try.underlying39 hi0 hz00 hz01 hz02 rfl (by decide) (by decide) _ _ _ rfl (unhide O1) _ _ _ rfl (unhide V1) (unhide HYS) (ics_one R0) (by omega) (unhide HQS) ?_; intro v7 w7 hown hgrow; obtain ⟨g7, e7, arr7, rfl, hb7, hc7, hk7, hl7⟩ := row_made (unhide K1) (unhide HWF) (unhide O1) hown hgrow (unhide HN) (unhide HN1); have x7 : w7.cell? ⟨g7, kk, none⟩ = some (.int .i64 t) := (by have h9 := hc7 kk hkn; rw [unhide HTT] at h9; simp [World.cell?, hb7, h9]); have f7 : w7.frozen? ⟨g7, kk, none⟩ = false := (by simp [World.frozen?, hb7]); have K8 : Hid (Keep wf (w7.setCell ⟨g7, kk, none⟩ (.int .i64 (t + more)))) := hide (Below.setCell hk7 hl7 _); have B8 : Hid ((w7.setCell ⟨g7, kk, none⟩ (.int .i64 (t + more))).heap[g7]? = some (.cells (arr7.setIfInBounds kk (.int .i64 (t + more))) T2 (0, 0))) := hide (heap_setCell_same _ g7 kk _ _ _ hb7); have C7 := hide hc7; obtain ⟨⟨s0, s1, s2⟩, -, -⟩ := unhide FY _ (unhide K8); clear hown hgrow hb7 hc7 hk7 hl7)
                      have SM : Hid (∀ (w' : World), w'.heap[g7]? = some (.cells (arr7.setIfInBounds kk (.int .i64 (t + more))) T2 (0, 0)) → Is w' (.slice (some ⟨g7, 0, none⟩) k e7) (R0.set kk (t + more))) := hide (fun w' hk => ⟨some ⟨g7, 0, none⟩, e7, by rw [List.length_set, unhide HN], fun j hj => by
                        rw [List.length_set, unhide HN] at hj
                        refine ⟨_, rfl, ?_⟩
                        have hb := hk
                        have hsz : kk < arr7.size := (Array.getElem?_eq_some_iff.1 (unhide C7 kk hkn)).1
                        have e1 : (⟨g7, 0, none⟩ : Addr).add j = ⟨g7, j, none⟩ := by unfold Addr.add; split <;> simp_all
                        rw [e1]
                        simp only [World.cell?, hb]
                        by_cases e : kk = j
                        · subst e
                          rw [Array.getElem?_setIfInBounds_self_of_lt hsz, List.getD_eq_getElem?_getD, List.getElem?_set_self (by rw [unhide HN]; exact hj)]
                          rfl
                        · rw [Array.getElem?_setIfInBounds_ne e, unhide C7 j hj, List.getD_eq_getElem?_getD, List.getD_eq_getElem?_getD, List.getElem?_set_ne e]
                          rfl⟩)
                      generalize w7.setCell ⟨g7, kk, none⟩ (.int .i64 (t + more)) = w8 at K8 B8 s0 s1 s2 SM ⊢
                      go_upto_region 22 with fail
                      have B9 := hide (heap_alloc_new w8 (.cells #[.slice (some ad0) m cr, .slice af fl cf, .slice aa al ca] 26))
                      have L9 := hide (Array.getElem?_eq_some_iff.1 (unhide B9)).1
                      have K9 := hide ((unhide K8).alloc (.cells #[.slice (some ad0) m cr, .slice af fl cf, .slice aa al ca] 26))
                      have J9 := hide ((Keep.refl w8).alloc (.cells #[.slice (some ad0) m cr, .slice af fl cf, .slice aa al ca] 26))
                      clear s0 s1 s2 p0 pr x7 f7 c0 c1 c2 yr y0 y1
                      generalize w8.alloc (.cells #[.slice (some ad0) m cr, .slice af fl cf, .slice aa al ca] 26) = w9 at B9 L9 K9 J9 ⊢
                      obtain ⟨b3, hb3⟩ : ∃ b, w8.heap.size = b := ⟨_, rfl⟩
                      have HB3 := hide hb3
                      rw [hb3] at B9 L9 ⊢
                      clear hb3
                      have HCR : Hid (m ≤ cr) := hide (by
                        obtain ⟨a9, c9, e, hc, -⟩ := unhide HR
                        injection e with e1 e2 e3
                        rw [unhide LM] at hc
                        omega)
                      have K10 := hide ((unhide K9).alloc (.cells #[.slice (some ⟨g7, 0, none⟩) k e7] 39))
                      obtain ⟨⟨q0, q1, q2⟩, -, -⟩ := unhide FY _ (unhide K10)
                      have O2 := hide (own_lit w9 (.slice (some ⟨g7, 0, none⟩) k e7) 39)
                      obtain ⟨j0, hj0, hy0, hy1, hy2⟩ := info_f infoL
                      obtain ⟨US, hUl, hUS⟩ := Gp.list_of (P := fun j u => w.cell? (ad0.add (j + 1)) = some u ∧ Is w u (RR.getD (j + 1) [])) undef (m - 1) (fun j hj => by
                        obtain ⟨ad9, ua9, uc9, e, h1, h2⟩ := row8 (unhide HR) (k := j + 1) (by rw [unhide LM]; omega)
                        injection e with e
                        subst e
                        exact ⟨_, h1, ua9, uc9, rfl, h2⟩)
                      have HUL := hide hUl
                      have HUS := hide hUS
                      have HONE : Hid (∀ u ∈ US, u.oneCell' = true) := hide (fun u hu => by
                        obtain ⟨j, hj, rfl⟩ := List.getElem_of_mem hu
                        have h9 := (hUS j (by omega)).2
                        rw [List.getD_eq_getElem?_getD, List.getElem?_eq_getElem hj] at h9
                        obtain ⟨a9, c9, e, -⟩ := h9
                        simp only [Option.getD_some] at e
                        rw [e]; rfl)
                      have HYS2 : Hid (US.length = (m - 1) * 1) := hide (by rw [hUl, Nat.mul_one])
                      have HQS2 : Hid (w9.heap.size ≤ (w9.alloc (.cells #[.slice (some ⟨g7, 0, none⟩) k e7] 39)).heap.size) := hide (by rw [World.size_alloc]; omega)
                      have HW9 : Hid (wf.heap.size ≤ w9.heap.size) := hide (Below.size (unhide K9))
                      have HB9 : Hid (wf.heap.size ≤ b3) := hide (by rw [← unhide HB3]; exact Below.size (unhide K8))
                      have hcr := unhide HCR
                      clear hUl hUS
                      have VA : Hid (cr = 1 → ∀ c, Vs (w9.alloc (.cells #[.slice (some ⟨g7, 0, none⟩) k e7] 39)) (.slice (some ad0) (m - 1) c) (m - 1) US) := hide (fun hc1 c => ⟨some ad0, c, rfl, fun j u hj => by
                        have := (List.getElem?_eq_some_iff.1 hj).1
                        rw [unhide HUL] at this
                        omega⟩)
                      have VB : Hid (∀ c, Vs (w9.alloc (.cells #[.slice (some ⟨g7, 0, none⟩) k e7] 39)) (.slice (some ⟨ad0.block, ad0.off + 1, none⟩) (m - 1) c) (m - 1) US) := hide (fun c => ⟨some ⟨ad0.block, ad0.off + 1, none⟩, c, rfl, fun j u hj => by
                        obtain ⟨hlj, hju⟩ := List.getElem?_eq_some_iff.1 hj
                        rw [unhide HUL] at hlj
                        have h9 := (unhide HUS j hlj).1
                        rw [List.getD_eq_getElem?_getD, hj] at h9
                        simp only [Option.getD_some] at h9
                        refine ⟨_, rfl, ?_⟩
                        have e1 : (⟨ad0.block, ad0.off + 1, none⟩ : Addr).add j = ad0.add (j + 1) := by
                          unfold Addr.add
                          by_cases h0 : j = 0
                          · subst h0; simp
                          · simp [h0]; omega
                        rw [e1]
                        exact kc (unhide FY _ (unhide K10)).2.2.2 h9⟩)
                      have l1m : (1 : Int) ≤ (m : Int) := by omega
                      have l2m : (m : Int) ≤ (cr : Int) := by omega
                      go_cut [18, 141] (fun s18 s wq => s18 = .pointer (some ⟨b3, 0, none⟩) ∧ ∃ (w11 : World) (a11 : Option Addr) (c11 : Nat), wq = w11.setCell ⟨b3, 0, none⟩ (.slice a11 m c11) ∧ Hid (w11.ownsRow w9.heap.size 39 1 (.slice a11 m c11) m ([.slice (some ⟨g7, 0, none⟩) k e7] ++ US)) ∧ Hid ((w9.alloc (.cells #[.slice (some ⟨g7, 0, none⟩) k e7] 39)).grownBy w11 (some w9.heap.size)))
                      case first =>
                        by_cases hc1 : cr = 1
                        · have V2 := hide (unhide VA hc1)
                          clear VA VB
                          have hm1' : m = 1 := by omega
                          subst hc1
                          subst hm1'
                          have V2 : Hid (∀ c, Vs (w9.alloc (.cells #[.slice (some ⟨g7, 0, none⟩) k e7] 39)) (.slice (some ad0) 0 c) 0 US) := V2
                          go_wp2_with (at_builtin; refine wpList_append_vs _ rfl _ _ 22 rfl w9.heap.size 39 j0 _ 1 24 Try.underlying22 hj0 hy0 hy1 hy2 rfl (by decide) (by decide) _ _ _ rfl (unhide O2) _ _ _ rfl (unhide V2 _) (unhide HYS2) (unhide HONE) (by omega) (unhide HQS2) ?_; intro v11 w11 hown hgrow; rw [show 1 + 0 = 1 from rfl] at hown; have hb11 := box_own (box_alloc (unhide B9) (.cells #[.slice (some ⟨g7, 0, none⟩) k e7] 39)) (unhide O2) (unhide L9) hgrow; obtain ⟨f0, f1, f2⟩ := fit_fz hb11; obtain ⟨e0, e1, e2⟩ := fit_sz hb11; obtain ⟨a11, c11, rfl⟩ := own_l hown; have O11 := hide hown; have G11 := hide hgrow; clear hown hgrow hb11)
                          go_meet
                          exact ⟨rfl, w11, _, _, rfl, O11, G11⟩
                        · have V2 := VB
                          clear VA VB
                          go_wp2_with (at_builtin; refine wpList_append_vs _ rfl _ _ 22 rfl w9.heap.size 39 j0 _ 1 24 Try.underlying22 hj0 hy0 hy1 hy2 rfl (by decide) (by decide) _ _ _ rfl (unhide O2) _ _ _ rfl (unhide V2 _) (unhide HYS2) (unhide HONE) (by omega) (unhide HQS2) ?_; intro v11 w11 hown hgrow; rw [show 1 + (m - 1) = m by omega] at hown; have hb11 := box_own (box_alloc (unhide B9) (.cells #[.slice (some ⟨g7, 0, none⟩) k e7] 39)) (unhide O2) (unhide L9) hgrow; obtain ⟨f0, f1, f2⟩ := fit_fz hb11; obtain ⟨e0, e1, e2⟩ := fit_sz hb11; obtain ⟨a11, c11, rfl⟩ := own_l hown; have O11 := hide hown; have G11 := hide hgrow; clear hown hgrow hb11)
                          go_meet
                          exact ⟨rfl, w11, _, _, rfl, O11, G11⟩
                      case rest =>
                        obtain ⟨rfl, w11, a11, c11, hwq, O11, G11⟩ := hcut
                        have K11 : Hid (Keep wf w11) := hide (Below.grown (unhide K10) (unhide G11) (Below.size (unhide K10)) (fun j ej => by injection ej with ej; have := unhide HW9; omega))
                        have B11 : Hid (w11.heap[b3]? = some (.cells #[.slice (some ad0) m cr, .slice af fl cf, .slice aa al ca] 26 (0, 0))) := hide (box_own (box_alloc (unhide B9) (.cells #[.slice (some ⟨g7, 0, none⟩) k e7] 39)) (unhide O2) (unhide L9) (unhide G11))
                        have K12 : Hid (Keep wf wc) := hide (by rw [hwq]; exact Below.setCell (unhide K11) (unhide HB9) _)
                        have B12 : Hid (wc.heap[b3]? = some (.cells #[.slice a11 m c11, .slice af fl cf, .slice aa al ca] 26 (0, 0))) := hide (by rw [hwq]; exact heap_setCell_same _ b3 0 _ _ _ (unhide B11))
                        have O12 : Hid (wc.ownsRow w9.heap.size 39 1 (.slice a11 m c11) m ([.slice (some ⟨g7, 0, none⟩) k e7] ++ US)) := hide (by rw [hwq]; exact own_kt (unhide O11) (Kt.set (A := fun e => e = 26) (i := 0) (u := .slice a11 m c11) (unhide B11) rfl) (by decide))
                        have K8c : Hid (Kt (fun e => e = 39 ∨ e = 26) w8 wc) := hide (by
                          rw [hwq]
                          have a1 := Kt.of (A := fun e => e = 39 ∨ e = 26) (unhide J9)
                          have a2 := Kt.of (A := fun e => e = 39 ∨ e = 26) ((Keep.refl w9).alloc (.cells #[.slice (some ⟨g7, 0, none⟩) k e7] 39))
                          have a3 := Kt.grown (A := fun e => e = 39 ∨ e = 26) (unhide O2) (.inl rfl) (unhide G11)
                          exact ((a1.trans a2).trans a3).trans (Kt.set (A := fun e => e = 39 ∨ e = 26) (i := 0) (u := .slice a11 m c11) (unhide B11) (.inr rfl)))
                        obtain ⟨wg, hwg⟩ : ∃ x, x = wc := ⟨_, rfl⟩
                        subst hwg
                        have hrt := unhide HRT2 trivial
                        have HIS : Hid (Is wg (.slice (some ⟨g7, 0, none⟩) k e7) (R0.set kk (t + more))) := hide (unhide SM wg ((unhide K8c).block _ _ _ (unhide B8) (by decide)))
                        have HIR : Hid (Ir wg (.slice a11 m c11) (mor RR kk more)) := hide (by
                          have h9 := ir_more (unhide O12) (unhide LM) hm1 (unhide HUL) (unhide HIS) (fun j hj => (unhide HUS j hj).2.keep (unhide FY _ (unhide K12)).2.2.2)
                          unfold mor
                          rw [unhide HR0, unhide HTT]
                          exact h9)
                        have hbm := unhide HBM
                        have hp0 : 0 ≤ more := by omega
                        have ht6 : R0.getD kk 0 + more ≤ 6000 := by rw [unhide HTT]; omega
                        have hkR : kk < (RR.getD 0 []).length := by rw [unhide HR0, unhide HN]; exact hkn
                        have hr3 := mor_rt hrt hkR hp0 (by rw [unhide HR0]; exact ht6)
                        obtain ⟨Bg, sg, eg, hL3⟩ : ∃ a b c, layN (mor RR kk more) FR AP (mostN (mor RR kk more) FR AP) = (a, b, c) := ⟨_, _, _, rfl⟩
                        have hG := unhide MORE trivial (unhide HZ) kk hkn hp0 ht6 trivial Bg sg eg hL3
                        have hX3 := most_hi (mor RR kk more) FR AP
                        have TX3 : Hid (∀ w', Keep wg w' → (Calls Try.prog 10 #[.agg #[.slice a11 m c11, .slice af fl cf, .slice aa al ca]] w' fun e w2 => e = .returned (.int .i64 (mostN (mor RR kk more) FR AP)) ∧ Keep w' w2) ∧ (Calls Try.prog 9 #[.agg #[.slice a11 m c11, .slice af fl cf, .slice aa al ca], .int .i64 (mostN (mor RR kk more) FR AP)] w' fun e w2 => ∃ v, e = .returned (.tuple #[v, .int .i64 sg, .int .i64 eg]) ∧ Keep w' w2 ∧ Ft (mor RR kk more) w2 v Bg)) := hide (fun w' hk => by
                          have h1 : (mor RR kk more).length ≤ 1000 := by rcases hr3.rows with h | h <;> omega
                          have h2 : ∀ L ∈ mor RR kk more, L.length ≤ 1000 := fun L hL => Nat.le_trans (hr3.row L hL).2.1 (by omega)
                          have h3 : AP.length ≤ 1000 := Nat.le_trans hr3.few (by omega)
                          have kw := (unhide FY _ ((unhide K12).trans hk)).2.2.2
                          have hj3 : Jb w' (.agg #[.slice a11 m c11, .slice af fl cf, .slice aa al ca]) (mor RR kk more) FR AP := ⟨_, _, _, rfl, (unhide HIR).keep hk, (unhide HF).keep kw, (unhide HA).keep kw⟩
                          have hl := lay_any _ (mor RR kk more) FR AP (mostN (mor RR kk more) FR AP) w' hj3 h1 h2 h3 (by omega)
                          unfold LyQ at hl
                          rw [hL3] at hl
                          exact ⟨most_any _ (mor RR kk more) FR AP w' hj3 h1 h2 h3, hl⟩)
                        obtain ⟨G1, G2, G3⟩ := hG
                        subst G1
                        have HG2 := hide (And.intro G2 G3)
                        clear hL3 hX3 G2 G3 hr3 hrt ht6 hkR
                        generalize mostN (mor RR kk more) FR AP = X3 at TX3
                        generalize mor RR kk more = R3 at *
                        have TM3 := hide (fun w' hk => (unhide TX3 w' hk).1)
                        have TL3 := hide (fun w' hk => (unhide TX3 w' hk).2)
                        have SS3 : Hid (∀ w', Keep wg w' → w'.cell? ⟨b3, 0, none⟩ = some (.slice a11 m c11) ∧ w'.cell? ⟨b3, 1, none⟩ = some (.slice af fl cf) ∧ w'.cell? ⟨b3, 2, none⟩ = some (.slice aa al ca)) := hide (fun w' hk => fit_sz (kblk (unhide B12) hk))
                        have KK3 := hide (fun w' (hk : Keep wg w') => hk)
                        clear TX3 hwq O11 G11 K11 B11 O12 K8c HIS HIR q0 q1 q2 hcr
                        go_upto_region 23 with fail
                        go_cut [19, 20, 21] (fun vp vn ve wc => ∃ fb, vp = .pointer (some ⟨fb, 0, none⟩) ∧ vn = .int .i64 sg ∧ ve = .int .i64 0 ∧ Hid (Bxf R3 Bg wg wc fb))
                        case first =>
                          refine wp_region_held_drew (S := (fun w' => w'.cell? ⟨b3, 0, none⟩ = some (.slice a11 m c11) ∧ w'.cell? ⟨b3, 1, none⟩ = some (.slice af fl cf) ∧ w'.cell? ⟨b3, 2, none⟩ = some (.slice aa al ca))) (by kernel_rfl) (by exact unhide SS3 _ ((Keep.refl _).drew)) (fun hHeld => ?_)
                          refine wpAnyH_take (i := 0) (v := ?_) rfl (by kernel_rfl) (by kernel_rfl) (by kernel_rfl) (fun _ _ _ h => h) (Or.inl ⟨by rfl, ?_⟩) hHeld ?_
                          rotate_left
                          · intro w hSw
                            try dsimp only at hSw
                            go_simp
                            try with_reducible rfl
                          show wpAnyH _ _ _ _ _ _ _ (Act.put _ (some 146) _) _
                          try simp only [Act.put, List.setIfInBounds_toArray, List.set_cons_zero, List.set_cons_succ]
                          refine wpAnyH_take (i := 1) (v := ?_) rfl (by kernel_rfl) (by kernel_rfl) (by kernel_rfl) (fun _ _ _ h => h) (Or.inl ⟨by rfl, ?_⟩) hHeld ?_
                          rotate_left
                          · intro w hSw
                            try dsimp only at hSw
                            go_simp
                            try with_reducible rfl
                          show wpAnyH _ _ _ _ _ _ _ (Act.put _ (some 147) _) _
                          try simp only [Act.put, List.setIfInBounds_toArray, List.set_cons_zero, List.set_cons_succ]
                          refine wpAnyH_ready (rs := [2, 8]) (by kernel_rfl) (by simp) ?_
                          refine AllReadyH.cons rfl (fun K hK => ?_) (AllReadyH.cons rfl (fun K hK => ?_) AllReadyH.nil)
                          ·
                            go_simp
                            clear hHeld
                            (refine ((unhide TM3) _ (unhide KK3 _ (((Keep.refl wg).drew)))).mono ?_; rintro e w3 ⟨rfl, hk9⟩; have k3 := hide ((((Keep.refl wg).drew)).trans hk9); clear hk9)
                            try go_wp2_with fail
                            refine hK.out _ _ ?_ (fun hHeld => ?_)
                            · exact unhide SS3 _ (unhide k3)
                            clear hK K
                            try simp only [Act.put, List.setIfInBounds_toArray, List.set_cons_zero, List.set_cons_succ]
                            refine wpAnyH_ready (rs := [3, 8]) (by kernel_rfl) (by simp) ?_
                            refine AllReadyH.cons rfl (fun K hK => ?_) (AllReadyH.cons rfl (fun K hK => ?_) AllReadyH.nil)
                            ·
                              go_simp
                              clear hHeld
                              (refine ((unhide TL3) _ (unhide KK3 _ ((unhide k3)))).mono ?_; rintro e w4 ⟨v9, rfl, hk9, hft⟩; have k4 := hide (((unhide k3)).trans hk9); obtain ⟨x4, ao4, lo4, co4, as4, ls4, cs4, rfl⟩ := ft_shape hft; have FT4 := hide hft; clear hft)
                              try go_wp2_with fail
                              refine hK.out _ _ ?_ (fun hHeld => ?_)
                              · exact unhide SS3 _ (unhide k4)
                              clear hK K
                              try simp only [Act.put, List.setIfInBounds_toArray, List.set_cons_zero, List.set_cons_succ]
                              clear hk9
                              refine wpAnyH_take (i := 4) (v := ?_) rfl (by kernel_rfl) (by kernel_rfl) (by kernel_rfl) (fun _ _ _ h => h) (Or.inl ⟨by rfl, ?_⟩) hHeld ?_
                              rotate_left
                              · intro w hSw
                                try dsimp only at hSw
                                go_simp
                                try with_reducible rfl
                              show wpAnyH _ _ _ _ _ _ _ (Act.put _ (some 145) _) _
                              try simp only [Act.put, List.setIfInBounds_toArray, List.set_cons_zero, List.set_cons_succ]
                              refine wpAnyH_take (i := 5) (v := ?_) rfl (by kernel_rfl) (by kernel_rfl) (by kernel_rfl) (fun _ _ _ h => h) (Or.inl ⟨by rfl, ?_⟩) hHeld ?_
                              rotate_left
                              · intro w hSw
                                try dsimp only at hSw
                                go_simp
                                try with_reducible rfl
                              show wpAnyH _ _ _ _ _ _ _ (Act.put _ (some 150) _) _
                              try simp only [Act.put, List.setIfInBounds_toArray, List.set_cons_zero, List.set_cons_succ]
                              refine wpAnyH_take (i := 6) (v := ?_) rfl (by kernel_rfl) (by kernel_rfl) (by kernel_rfl) (fun _ _ _ h => h) (Or.inl ⟨by rfl, ?_⟩) hHeld ?_
                              rotate_left
                              · intro w hSw
                                try dsimp only at hSw
                                go_simp
                                try with_reducible rfl
                              show wpAnyH _ _ _ _ _ _ _ (Act.put _ (some 151) _) _
                              try simp only [Act.put, List.setIfInBounds_toArray, List.set_cons_zero, List.set_cons_succ]
                              refine wpAnyH_take (i := 7) (v := ?_) rfl (by kernel_rfl) (by kernel_rfl) (by kernel_rfl) (fun _ _ _ h => h) (Or.inl ⟨by rfl, ?_⟩) hHeld ?_
                              rotate_left
                              · intro w hSw
                                try dsimp only at hSw
                                go_simp
                                try with_reducible rfl
                              show wpAnyH _ _ _ _ _ _ _ (Act.put _ (some 152) _) _
                              try simp only [Act.put, List.setIfInBounds_toArray, List.set_cons_zero, List.set_cons_succ]
                              have HB5 := hide (heap_alloc_new w4 (.cells #[.int .i64 0, .slice none 0 0, .slice none 0 0] 30))
                              have K5 := hide ((unhide k4).alloc (.cells #[.int .i64 0, .slice none 0 0, .slice none 0 0] 30))
                              have FT5 := hide ((unhide FT4).keep ((Keep.refl w4).alloc (.cells #[.int .i64 0, .slice none 0 0, .slice none 0 0] 30)))
                              have LW5 : Hid (wg.heap.size ≤ w4.heap.size) := hide (Below.size (unhide k4))
                              refine wpAnyH_ready (rs := [8]) (by kernel_rfl) (by simp) ?_
                              refine AllReadyH.cons rfl (fun K hK => ?_) AllReadyH.nil
                              go_simp
                              clear hHeld
                              refine hK.out _ _ ?_ (fun hHeld => ?_)
                              · exact unhide SS3 _ (unhide K5)
                              clear hK K
                              try simp only [Act.put, List.setIfInBounds_toArray, List.set_cons_zero, List.set_cons_succ]
                              generalize w4.alloc (.cells #[.int .i64 0, .slice none 0 0, .slice none 0 0] 30) = w5 at *
                              generalize w4.heap.size = fb5 at *
                              obtain ⟨f0, f1, f2⟩ := fit_fz (unhide HB5)
                              obtain ⟨e0, e1, e2⟩ := fit_sz (unhide HB5)
                              have BE := hide (lay_end (RR := R3) (unhide K5) (unhide LW5) (unhide HB5) (unhide FT5))
                              refine wpAnyH_ready (rs := [9]) (by kernel_rfl) (by simp) ?_
                              refine AllReadyH.cons rfl (fun K hK => ?_) AllReadyH.nil
                              go_simp
                              clear hHeld
                              refine hK.out _ _ ?_ (fun hHeld => ?_)
                              · exact unhide SS3 _ (unhide BE).kp
                              clear hK K
                              try simp only [Act.put, List.setIfInBounds_toArray, List.set_cons_zero, List.set_cons_succ]
                              clear f0 f1 f2 e0 e1 e2
                              refine wpAnyH_take (i := 10) (v := ?_) rfl (by kernel_rfl) (by kernel_rfl) (by kernel_rfl) (fun _ _ _ h => h) (Or.inl ⟨by rfl, ?_⟩) hHeld ?_
                              rotate_left
                              · intro w hSw
                                try dsimp only at hSw
                                go_simp
                                try with_reducible rfl
                              show wpAnyH _ _ _ _ _ _ _ (Act.put _ (some 20) _) _
                              try simp only [Act.put, List.setIfInBounds_toArray, List.set_cons_zero, List.set_cons_succ]
                              refine wpAnyH_take (i := 11) (v := ?_) rfl (by kernel_rfl) (by kernel_rfl) (by kernel_rfl) (fun _ _ _ h => h) (Or.inl ⟨by rfl, ?_⟩) hHeld ?_
                              rotate_left
                              · intro w hSw
                                try dsimp only at hSw
                                go_simp
                                try with_reducible rfl
                              show wpAnyH _ _ _ _ _ _ _ (Act.put _ (some 21) _) _
                              try simp only [Act.put, List.setIfInBounds_toArray, List.set_cons_zero, List.set_cons_succ]
                              refine wpAnyH_done (by kernel_rfl) ?_ _
                              clear hHeld
                              go_wp2_with fail
                              go_meet
                              exact ⟨_, rfl, rfl, rfl, BE⟩
                            ·
                              have HB4 := hide (heap_alloc_new w3 (.cells #[.int .i64 0, .slice none 0 0, .slice none 0 0] 30))
                              have k4 := hide ((unhide k3).alloc (.cells #[.int .i64 0, .slice none 0 0, .slice none 0 0] 30))
                              have LW5 : Hid (wg.heap.size ≤ w3.heap.size) := hide (Below.size (unhide k3))
                              go_simp
                              clear hHeld
                              refine hK.out _ _ ?_ (fun hHeld => ?_)
                              · exact unhide SS3 _ (unhide k4)
                              clear hK K
                              try simp only [Act.put, List.setIfInBounds_toArray, List.set_cons_zero, List.set_cons_succ]
                              generalize w3.alloc (.cells #[.int .i64 0, .slice none 0 0, .slice none 0 0] 30) = w4 at *
                              generalize w3.heap.size = fb5 at *
                              refine wpAnyH_ready (rs := [3]) (by kernel_rfl) (by simp) ?_
                              refine AllReadyH.cons rfl (fun K hK => ?_) AllReadyH.nil
                              go_simp
                              clear hHeld
                              (refine ((unhide TL3) _ (unhide KK3 _ ((unhide k4)))).mono ?_; rintro e w5 ⟨v9, rfl, hk9, hft⟩; have K5 := hide (((unhide k4)).trans hk9); obtain ⟨x4, ao4, lo4, co4, as4, ls4, cs4, rfl⟩ := ft_shape hft; have FT4 := hide hft; clear hft)
                              try go_wp2_with fail
                              refine hK.out _ _ ?_ (fun hHeld => ?_)
                              · exact unhide SS3 _ (unhide K5)
                              clear hK K
                              try simp only [Act.put, List.setIfInBounds_toArray, List.set_cons_zero, List.set_cons_succ]
                              have HB5 := hide (kblk (unhide HB4) hk9)
                              have FT5 := FT4
                              clear hk9
                              refine wpAnyH_take (i := 4) (v := ?_) rfl (by kernel_rfl) (by kernel_rfl) (by kernel_rfl) (fun _ _ _ h => h) (Or.inl ⟨by rfl, ?_⟩) hHeld ?_
                              rotate_left
                              · intro w hSw
                                try dsimp only at hSw
                                go_simp
                                try with_reducible rfl
                              show wpAnyH _ _ _ _ _ _ _ (Act.put _ (some 145) _) _
                              try simp only [Act.put, List.setIfInBounds_toArray, List.set_cons_zero, List.set_cons_succ]
                              refine wpAnyH_take (i := 5) (v := ?_) rfl (by kernel_rfl) (by kernel_rfl) (by kernel_rfl) (fun _ _ _ h => h) (Or.inl ⟨by rfl, ?_⟩) hHeld ?_
                              rotate_left
                              · intro w hSw
                                try dsimp only at hSw
                                go_simp
                                try with_reducible rfl
                              show wpAnyH _ _ _ _ _ _ _ (Act.put _ (some 150) _) _
                              try simp only [Act.put, List.setIfInBounds_toArray, List.set_cons_zero, List.set_cons_succ]
                              refine wpAnyH_take (i := 6) (v := ?_) rfl (by kernel_rfl) (by kernel_rfl) (by kernel_rfl) (fun _ _ _ h => h) (Or.inl ⟨by rfl, ?_⟩) hHeld ?_
                              rotate_left
                              · intro w hSw
                                try dsimp only at hSw
                                go_simp
                                try with_reducible rfl
                              show wpAnyH _ _ _ _ _ _ _ (Act.put _ (some 151) _) _
                              try simp only [Act.put, List.setIfInBounds_toArray, List.set_cons_zero, List.set_cons_succ]
                              refine wpAnyH_take (i := 7) (v := ?_) rfl (by kernel_rfl) (by kernel_rfl) (by kernel_rfl) (fun _ _ _ h => h) (Or.inl ⟨by rfl, ?_⟩) hHeld ?_
                              rotate_left
                              · intro w hSw
                                try dsimp only at hSw
                                go_simp
                                try with_reducible rfl
                              show wpAnyH _ _ _ _ _ _ _ (Act.put _ (some 152) _) _
                              try simp only [Act.put, List.setIfInBounds_toArray, List.set_cons_zero, List.set_cons_succ]
                              obtain ⟨f0, f1, f2⟩ := fit_fz (unhide HB5)
                              obtain ⟨e0, e1, e2⟩ := fit_sz (unhide HB5)
                              have BE := hide (lay_end (RR := R3) (unhide K5) (unhide LW5) (unhide HB5) (unhide FT5))
                              refine wpAnyH_ready (rs := [9]) (by kernel_rfl) (by simp) ?_
                              refine AllReadyH.cons rfl (fun K hK => ?_) AllReadyH.nil
                              go_simp
                              clear hHeld
                              refine hK.out _ _ ?_ (fun hHeld => ?_)
                              · exact unhide SS3 _ (unhide BE).kp
                              clear hK K
                              try simp only [Act.put, List.setIfInBounds_toArray, List.set_cons_zero, List.set_cons_succ]
                              clear f0 f1 f2 e0 e1 e2
                              refine wpAnyH_take (i := 10) (v := ?_) rfl (by kernel_rfl) (by kernel_rfl) (by kernel_rfl) (fun _ _ _ h => h) (Or.inl ⟨by rfl, ?_⟩) hHeld ?_
                              rotate_left
                              · intro w hSw
                                try dsimp only at hSw
                                go_simp
                                try with_reducible rfl
                              show wpAnyH _ _ _ _ _ _ _ (Act.put _ (some 20) _) _
                              try simp only [Act.put, List.setIfInBounds_toArray, List.set_cons_zero, List.set_cons_succ]
                              refine wpAnyH_take (i := 11) (v := ?_) rfl (by kernel_rfl) (by kernel_rfl) (by kernel_rfl) (fun _ _ _ h => h) (Or.inl ⟨by rfl, ?_⟩) hHeld ?_
                              rotate_left
                              · intro w hSw
                                try dsimp only at hSw
                                go_simp
                                try with_reducible rfl
                              show wpAnyH _ _ _ _ _ _ _ (Act.put _ (some 21) _) _
                              try simp only [Act.put, List.setIfInBounds_toArray, List.set_cons_zero, List.set_cons_succ]
                              refine wpAnyH_done (by kernel_rfl) ?_ _
                              clear hHeld
                              go_wp2_with fail
                              go_meet
                              exact ⟨_, rfl, rfl, rfl, BE⟩
                          ·
                            have HB3 : Hid ((wg.alloc (.cells #[.int .i64 0, .slice none 0 0, .slice none 0 0] 30)).drew.heap[wg.heap.size]? = some (.cells #[.int .i64 0, .slice none 0 0, .slice none 0 0] 30)) := hide (heap_alloc_new wg (.cells #[.int .i64 0, .slice none 0 0, .slice none 0 0] 30))
                            have k3 := hide ((Keep.refl wg).alloc (.cells #[.int .i64 0, .slice none 0 0, .slice none 0 0] 30)).drew
                            have LW5 : Hid (wg.heap.size ≤ wg.heap.size) := hide (Nat.le_refl _)
                            go_simp
                            clear hHeld
                            refine hK.out _ _ ?_ (fun hHeld => ?_)
                            · exact unhide SS3 _ (unhide k3)
                            clear hK K
                            try simp only [Act.put, List.setIfInBounds_toArray, List.set_cons_zero, List.set_cons_succ]
                            generalize (wg.alloc (.cells #[.int .i64 0, .slice none 0 0, .slice none 0 0] 30)).drew = w3 at *
                            obtain ⟨fb5, hfb5⟩ : ∃ f, wg.heap.size = f := ⟨_, rfl⟩
                            have LW6 : Hid (wg.heap.size ≤ fb5) := hide (by rw [hfb5]; exact Nat.le_refl _)
                            rw [hfb5] at HB3
                            simp only [hfb5]
                            clear LW5 hfb5
                            have LW5 := LW6
                            refine wpAnyH_ready (rs := [2]) (by kernel_rfl) (by simp) ?_
                            refine AllReadyH.cons rfl (fun K hK => ?_) AllReadyH.nil
                            go_simp
                            clear hHeld
                            (refine ((unhide TM3) _ (unhide KK3 _ ((unhide k3)))).mono ?_; rintro e w4 ⟨rfl, hk9⟩; have k4 := hide (((unhide k3)).trans hk9); have HB4 := hide (kblk (unhide HB3) hk9); clear hk9)
                            try go_wp2_with fail
                            refine hK.out _ _ ?_ (fun hHeld => ?_)
                            · exact unhide SS3 _ (unhide k4)
                            clear hK K
                            try simp only [Act.put, List.setIfInBounds_toArray, List.set_cons_zero, List.set_cons_succ]
                            refine wpAnyH_ready (rs := [3]) (by kernel_rfl) (by simp) ?_
                            refine AllReadyH.cons rfl (fun K hK => ?_) AllReadyH.nil
                            go_simp
                            clear hHeld
                            (refine ((unhide TL3) _ (unhide KK3 _ ((unhide k4)))).mono ?_; rintro e w5 ⟨v9, rfl, hk9, hft⟩; have K5 := hide (((unhide k4)).trans hk9); obtain ⟨x4, ao4, lo4, co4, as4, ls4, cs4, rfl⟩ := ft_shape hft; have FT4 := hide hft; clear hft)
                            try go_wp2_with fail
                            refine hK.out _ _ ?_ (fun hHeld => ?_)
                            · exact unhide SS3 _ (unhide K5)
                            clear hK K
                            try simp only [Act.put, List.setIfInBounds_toArray, List.set_cons_zero, List.set_cons_succ]
                            have HB5 := hide (kblk (unhide HB4) hk9)
                            have FT5 := FT4
                            clear hk9
                            refine wpAnyH_take (i := 4) (v := ?_) rfl (by kernel_rfl) (by kernel_rfl) (by kernel_rfl) (fun _ _ _ h => h) (Or.inl ⟨by rfl, ?_⟩) hHeld ?_
                            rotate_left
                            · intro w hSw
                              try dsimp only at hSw
                              go_simp
                              try with_reducible rfl
                            show wpAnyH _ _ _ _ _ _ _ (Act.put _ (some 145) _) _
                            try simp only [Act.put, List.setIfInBounds_toArray, List.set_cons_zero, List.set_cons_succ]
                            refine wpAnyH_take (i := 5) (v := ?_) rfl (by kernel_rfl) (by kernel_rfl) (by kernel_rfl) (fun _ _ _ h => h) (Or.inl ⟨by rfl, ?_⟩) hHeld ?_
                            rotate_left
                            · intro w hSw
                              try dsimp only at hSw
                              go_simp
                              try with_reducible rfl
                            show wpAnyH _ _ _ _ _ _ _ (Act.put _ (some 150) _) _
                            try simp only [Act.put, List.setIfInBounds_toArray, List.set_cons_zero, List.set_cons_succ]
                            refine wpAnyH_take (i := 6) (v := ?_) rfl (by kernel_rfl) (by kernel_rfl) (by kernel_rfl) (fun _ _ _ h => h) (Or.inl ⟨by rfl, ?_⟩) hHeld ?_
                            rotate_left
                            · intro w hSw
                              try dsimp only at hSw
                              go_simp
                              try with_reducible rfl
                            show wpAnyH _ _ _ _ _ _ _ (Act.put _ (some 151) _) _
                            try simp only [Act.put, List.setIfInBounds_toArray, List.set_cons_zero, List.set_cons_succ]
                            refine wpAnyH_take (i := 7) (v := ?_) rfl (by kernel_rfl) (by kernel_rfl) (by kernel_rfl) (fun _ _ _ h => h) (Or.inl ⟨by rfl, ?_⟩) hHeld ?_
                            rotate_left
                            · intro w hSw
                              try dsimp only at hSw
                              go_simp
                              try with_reducible rfl
                            show wpAnyH _ _ _ _ _ _ _ (Act.put _ (some 152) _) _
                            try simp only [Act.put, List.setIfInBounds_toArray, List.set_cons_zero, List.set_cons_succ]
                            obtain ⟨f0, f1, f2⟩ := fit_fz (unhide HB5)
                            obtain ⟨e0, e1, e2⟩ := fit_sz (unhide HB5)
                            have BE := hide (lay_end (RR := R3) (unhide K5) (unhide LW5) (unhide HB5) (unhide FT5))
                            refine wpAnyH_ready (rs := [9]) (by kernel_rfl) (by simp) ?_
                            refine AllReadyH.cons rfl (fun K hK => ?_) AllReadyH.nil
                            go_simp
                            clear hHeld
                            refine hK.out _ _ ?_ (fun hHeld => ?_)
                            · exact unhide SS3 _ (unhide BE).kp
                            clear hK K
                            try simp only [Act.put, List.setIfInBounds_toArray, List.set_cons_zero, List.set_cons_succ]
                            clear f0 f1 f2 e0 e1 e2
                            refine wpAnyH_take (i := 10) (v := ?_) rfl (by kernel_rfl) (by kernel_rfl) (by kernel_rfl) (fun _ _ _ h => h) (Or.inl ⟨by rfl, ?_⟩) hHeld ?_
                            rotate_left
                            · intro w hSw
                              try dsimp only at hSw
                              go_simp
                              try with_reducible rfl
                            show wpAnyH _ _ _ _ _ _ _ (Act.put _ (some 20) _) _
                            try simp only [Act.put, List.setIfInBounds_toArray, List.set_cons_zero, List.set_cons_succ]
                            refine wpAnyH_take (i := 11) (v := ?_) rfl (by kernel_rfl) (by kernel_rfl) (by kernel_rfl) (fun _ _ _ h => h) (Or.inl ⟨by rfl, ?_⟩) hHeld ?_
                            rotate_left
                            · intro w hSw
                              try dsimp only at hSw
                              go_simp
                              try with_reducible rfl
                            show wpAnyH _ _ _ _ _ _ _ (Act.put _ (some 21) _) _
                            try simp only [Act.put, List.setIfInBounds_toArray, List.set_cons_zero, List.set_cons_succ]
                            refine wpAnyH_done (by kernel_rfl) ?_ _
                            clear hHeld
                            go_wp2_with fail
                            go_meet
                            exact ⟨_, rfl, rfl, rfl, BE⟩
                        case rest =>
                          obtain ⟨fb3, rfl, rfl, rfl, BX⟩ := hcut
                          have k5 := hide (unhide BX).kp
                          have y2 := bxf_x (unhide BX)
                          obtain ⟨-, y0, y1, ke⟩ := unhide FY _ ((unhide K12).trans (unhide k5))
                          have KZ := hide ke
                          obtain ⟨g2, g3⟩ := unhide HG2
                          have r2 := unhide r2'
                          generalize xb Bg = h0 at *
                          have wz : wrap64 (f0 + more) = f0 + more := by unfold wrap64; omega
                          have z1 : decide (f k ≤ f0) = true := decide_eq_true r2
                          have z2 : decide (f0 ≤ h0) = true := decide_eq_true g2
                          have z3 : decide (h0 ≤ f0 + more) = true := decide_eq_true g3
                          clear BX SS3 KK3 TM3 TL3 HG2 ke
                          go_wp2_with fail
                          (refine (awake_any _).mono ?_; rintro e w15 ⟨rfl, hk15⟩; have k15 := hide ((unhide KZ).trans hk15); clear hk15)
                          go_wp2_with fail
                          try go_ret
                          exact ⟨rfl, unhide k15⟩
theorem laidOut : laidOutB Try.prog = true := by kernel_rfl
theorem own : ownKnob Try.prog.godebug = none := by kernel_rfl
set_option maxHeartbeats 400000 in
set_option maxRecDepth 100000 in
theorem lifted (os : Os) (started : os.Started) (H : Type) (enc : TypeId × Value → H) :
    ReturnsInHanded {} Try.checked os 7 .any (Rows.groupGrowsSpec.pre6 enc Try.prog Try.f7 Rows.groupGrowsRow.domain false) (Rows.groupGrowsSpec.post enc Try.prog Try.f7 false true false false) := by
  refine returnsInHanded_of_change (C := Try.checked) own started (by kernel_rfl) Try.func7
    (ChangeSpec.witness6 (enc := enc) (C := Try.checked) false ⟨#[], #[.agg #[.slice none 0 0, .slice none 0 0, .slice none 0 0], .int .i64 0, .int .i64 0], []⟩ 8 (by kernel_rfl) (by kernel_rfl) (by kernel_rfl) (by kernel_rfl)) ?_
  intro W base args ds gs before hval0 hW hcnd _
  have hval : ∀ (j : Nat) t v, Try.f7.params[j]? = some t → args[j]? = some v → Value.okWide Try.prog W .any base t v := hval0
  have hW' := hW
  obtain ⟨p, q, hA0, hV, rfl, hfz, hnd⟩ := hW
  have hA : DataW.TrodAll enc Try.prog W 0 (fun _ => true) true Try.f7.params.toList args.toList ds p := hA0
  rw [Try.params7] at hA hval
  obtain ⟨v0, vs0, d0, ds0, p0, q0, hargs, rfl, rfl, h0, r0⟩ := trodAll_cons hA
  obtain ⟨v1, vs1, d1, ds1, p1, q1, rfl, rfl, rfl, h1, r1⟩ := trodAll_cons r0
  obtain ⟨v2, vs2, d2, ds2, p2, q2, rfl, rfl, rfl, h2, r2⟩ := trodAll_cons r1
  obtain ⟨rfl, rfl, rfl⟩ := trodAll_nil r2
  obtain rfl : args = #[v0, v1, v2] := by cases args; simp_all
  obtain ⟨rfl, rfl⟩ := trodVars_none hV
  have k0 := h0
  have lt0 : ∀ x ∈ p0, x.block < W.heap.size := by obtain ⟨m, hm⟩ := k0; exact DataW.trod_lt m _ _ _ hm
  obtain ⟨es0, us0, rfl, s0, x0⟩ := Gp.open_struct Try.underlying26 Gp.job_desc (hval 0 26 v0 rfl rfl) h0
  clear h0
  obtain ⟨a1, rfl, rfl, rfl, w1⟩ := open_int Try.underlying3 (hval 1 3 v1 rfl rfl) h1
  obtain ⟨a2, rfl, rfl, rfl, w2⟩ := open_int Try.underlying3 (hval 2 3 v2 rfl rfl) h2
  clear hA0 hval0
  refine (walk s0 x0 a1 (bounds_i64 w1) a2 (bounds_i64 w2)).mono fun e W' ⟨he, bel⟩ => ?_
  subst he
  exact ⟨_, rfl, _, _, _, [], _, [], hW', trodAll_mk1 (shut_bool Try.underlying4 _), (trodAll_cons_mk (Below.trod laidOut (by kernel_rfl) (of_decide_eq_true (by kernel_rfl)) k0 bel lt0) (trodAll_cons_mk (shut_int Try.underlying3 w1) (trodAll_cons_mk (shut_int Try.underlying3 w2) trodAll_mk0))), rfl, bel.frame _, fun h => by cases h⟩
theorem over : Rows.groupGrowsRow.holds Try.pinned (OpenSpec.ofChange Rows.groupGrowsSpec) :=
  OpenClaim.holds_of_wide 7 Try.f7 rfl rfl rfl rfl rfl rfl rfl ⟨rfl, rfl, rfl, rfl, rfl⟩ rfl rfl rfl rfl rfl (by kernel_rfl) Try.func7 (by kernel_rfl)
    (of_decide_eq_true (by kernel_rfl)) (by unfold Func.isWrapper; first | (rw [if_pos (by decide +kernel)]; kernel_rfl) | (rw [if_neg (by decide +kernel)]; exact ⟨rfl, rfl⟩))
    (fun os started H enc _ => lifted os started H enc)

end Go.Proofs.Ytakandlehneciaa.ggrows
namespace Go.Proofs.Ytakandlehneciaa
theorem GroupGrows_holds : Rows.GroupGrowsSaid := ggrows.over
end Go.Proofs.Ytakandlehneciaa
