/- Proved: for every job (of few layouts) and every budget, what is told is what the greatest budget tells, or that the budget is spent; and no more steps than the budget. -/
import Derived.Test.YtakandlehneciaaRows
import Derived.Test.YtakandlehneciaaGqD
import Derived.Test.YtakandlehneciaaGqG
import Derived.Test.YtakandlehneciaaGpA
import Derived.WalkKit
import Derived.ProofKit
import Derived.OpenShut
import Derived.ShutString
import Derived.ChangeOld
import Derived.Below
namespace Go.Proofs.Ytakandlehneciaa.gbudget
open Go.ChangeShapes Go.WideShapes Go.ChangeAt Go.RowKit Go.Joins
open Go.WideMaps Go.WideElems
attribute [local go_sem ↓] Go.wp_at_zero Go.wp_at_succ
set_option linter.unusedVariables false
set_option linter.unusedSimpArgs false
set_option maxRecDepth 10000
open Pa Gp
theorem most_bd (RR : List (List Int)) (FR : List Bool) (AP : List P2) : 0 ≤ mostN RR FR AP ∧ mostN RR FR AP ≤ 10000000000 := by
  unfold mostN
  split
  · rename_i h
    have hrt := rt_of h
    have l0 := osN_len hrt 0
    have l1 := osN_len hrt 1
    have l2 := hrt.few
    have hP : (2 : Nat) ^ AP.length ≤ 65536 := Nat.pow_le_pow_right (by decide) l2
    have h2 : (osN RR FR 0).length * (osN RR FR 1).length ≤ 24 * 24 := Nat.mul_le_mul l0 l1
    have h3 := Nat.mul_le_mul (Nat.mul_le_mul hP h2) (show AP.length + 1 ≤ 17 by omega)
    omega
  · omega
/-- two layouts that are told alike -/
def Szd (RR : List (List Int)) (B : Option Bt) : Prop := ∀ b, B = some b → (oo RR.length b.1.1).length ≤ 1000 ∧ (STn (MKn RR RR.length) (oo RR.length b.1.1) b.1.2 (oo RR.length b.1.1).length).length ≤ 1000 ∧ (∀ k, ((oo RR.length b.1.1).getD k []).length ≤ 1000) ∧ ∀ k, ((STn (MKn RR RR.length) (oo RR.length b.1.1) b.1.2 (oo RR.length b.1.1).length).getD k []).length ≤ 1000
theorem szd_none {RR : List (List Int)} {B : Option Bt} (h : none = B) : Szd RR B := fun b e => by rw [← h] at e; cases e
theorem best_sz {RR : List (List Int)} {FR : List Bool} {AP : List P2} {b : Bt} (hrt : Rt RR FR AP) (h : bestN RR FR AP = some b) : Szd RR (some b) := fun b' e => by
  injection e with e
  subst e
  have hh := best_holds hrt h
  have hl := hh.lo
  have hs := hh.ls
  have h2 := hh.two
  refine ⟨by omega, by omega, fun k => ?_, fun k => ?_⟩
  · by_cases hk : k < RR.length
    · have := hh.row k hk; omega
    · rw [List.getD_eq_getElem?_getD, List.getElem?_eq_none (by omega)]; simp
  · by_cases hk : k < RR.length
    · have := hh.row k hk; omega
    · rw [List.getD_eq_getElem?_getD, List.getElem?_eq_none (by omega)]; simp
/-- what Lay tells by a budget, beside what it tells with as many steps as there may be -/
theorem bud_res {RR : List (List Int)} {FR : List Bool} {AP : List P2} {Ba Bb : Option Bt} {sa ea n eb bud : Int} (h1 : layN RR FR AP (max 1 (mostN RR FR AP)) = (Ba, sa, ea)) (h2 : layN RR FR AP bud = (Bb, n, eb)) :
    (eb = 151 ∧ (ea != 1) = true ∧ Bb = none ∧ (bud < 1 ∧ n = 0 ∨ ¬ bud < 1 ∧ n = bud) ∧ bud < mostN RR FR AP) ∨ (eb ≠ 151 ∧ ea = eb ∧ Ba = Bb ∧ Szd RR Bb ∧ (0 < bud → n ≤ bud) ∧ (bud ≤ 0 → n ≤ 0)) := by
  cases hJ : jobR RR FR AP with
  | false =>
    unfold layN at h1 h2
    rw [hJ, if_pos rfl] at h1 h2
    injection h1 with h1 h3
    injection h3 with h3 h4
    injection h2 with h2 h5
    injection h5 with h5 h6
    exact .inr ⟨by omega, by omega, by rw [← h1, ← h2], szd_none h2, fun _ => by omega, fun _ => by omega⟩
  | true =>
    have hm : 2 ≤ mostN RR FR AP := by
      unfold mostN
      rw [if_pos hJ]
      have h0 := osN_pos (rt_of hJ) 0
      have h2 := osN_pos (rt_of hJ) 1
      have hp : 1 ≤ (osN RR FR 0).length * (osN RR FR 1).length := Nat.mul_pos h0 h2
      have h3 : 1 ≤ 2 ^ AP.length := Nat.one_le_two_pow
      have h4 := Nat.mul_le_mul (Nat.mul_le_mul h3 hp) (show 1 ≤ AP.length + 1 by omega)
      omega
    have hA := lay_of (bud := max 1 (mostN RR FR AP)) hJ (by omega) (most_le hJ (by omega))
    have hea : ea = 0 ∨ ea = 150 := by
      rcases hA with ⟨_, h⟩ | ⟨b, _, h⟩
      · rw [h] at h1; injection h1 with _ h1; injection h1 with _ h1; omega
      · rw [h] at h1; injection h1 with _ h1; injection h1 with _ h1; omega
    have hea1 : (ea != 1) = true := by rcases hea with rfl | rfl <;> rfl
    by_cases hb : bud < 1
    · unfold layN at h2
      rw [hJ, if_neg (by simp), if_pos hb] at h2
      injection h2 with h2 h5
      injection h5 with h5 h6
      exact .inl ⟨h6.symm, hea1, h2.symm, .inl ⟨hb, h5.symm⟩, by omega⟩
    · cases hg : (goJ RR FR AP bud).1 with
      | false =>
        have hk : (goJ RR FR AP bud).2.2 = 0 := (go_le (f := fN RR (dn [] AP)) (n := (dn [] AP).length) (fl := flr RR (dn [] AP)) _ none _).2 hg
        unfold layN at h2
        rw [hJ, if_neg (by simp), if_neg hb, hg, if_neg (by simp), hk] at h2
        injection h2 with h2 h5
        injection h5 with h5 h6
        refine .inl ⟨h6.symm, hea1, h2.symm, .inr ⟨hb, by rw [← h5]; simp⟩, ?_⟩
        rcases Int.lt_or_le bud (mostN RR FR AP) with h | h
        · exact h
        · rw [most_le hJ h] at hg; cases hg
      | true =>
        have hB := lay_of (bud := bud) hJ (by omega) hg
        rcases hA with ⟨a1, a2⟩ | ⟨b1, a1, a2⟩ <;> rcases hB with ⟨c1, c2⟩ | ⟨b2, c1, c2⟩
        · rw [a2] at h1
          rw [c2] at h2
          injection h1 with h1 h3
          injection h3 with h3 h4
          injection h2 with h2 h5
          injection h5 with h5 h6
          exact .inr ⟨by omega, by omega, by rw [← h1, ← h2], szd_none h2, fun _ => by omega, fun _ => by omega⟩
        · rw [a1] at c1; cases c1
        · rw [a1] at c1; cases c1
        · rw [a1] at c1
          injection c1 with c1
          subst c1
          rw [a2] at h1
          rw [c2] at h2
          injection h1 with h1 h3
          injection h3 with h3 h4
          injection h2 with h2 h5
          injection h5 with h5 h6
          exact .inr ⟨by omega, by omega, by rw [← h1, ← h2], by rw [← h2]; exact best_sz (rt_of hJ) a1, fun _ => by omega, fun _ => by omega⟩
theorem same_ft {RR : List (List Int)} {B : Option Bt} (hz : Szd RR B) {w : World} {x y : Int} {vo st vp sp : Value} (h1 : Ft RR w (.agg #[.int .i64 x, vo, st]) B) (h2 : Ft RR w (.agg #[.int .i64 y, vp, sp]) B) : Calls Try.prog 12 #[.agg #[.int .i64 x, vo, st], .agg #[.int .i64 y, vp, sp]] w fun e w' => e = .returned (.bool true) ∧ Keep w w' := by
  cases B with
  | none =>
    have e1 : Value.agg #[.int .i64 x, vo, st] = .agg #[.int .i64 0, .slice none 0 0, .slice none 0 0] := h1
    have e2 : Value.agg #[.int .i64 y, vp, sp] = .agg #[.int .i64 0, .slice none 0 0, .slice none 0 0] := h2
    rw [e1, e2]
    have hn : Ir w (.slice none 0 0) [] := ⟨none, 0, rfl, Nat.le_refl _, fun k hk => by simp at hk⟩
    exact rsame15_any 0 _ _ _ _ [] [] w hn hn hn hn (by simp) (by simp) (fun k => by simp) (fun k => by simp)
  | some b =>
    obtain ⟨z1, z2, z3, z4⟩ := hz b rfl
    obtain ⟨a1, a2, e1, g1, g2⟩ := h1
    obtain ⟨a3, a4, e2, g3, g4⟩ := h2
    rw [e1, e2]
    exact rsame15_any b.2 _ _ _ _ _ _ w g1.ir g2.ir g3.ir g4.ir z1 z2 z3 z4
set_option maxHeartbeats 8000000 in
theorem walk {w : World} {ds : List Gp.D} {us : List Value} (hs : ShL jobT ds) (hr : Rvs w ds us) (bud : Int) (hbud : -9223372036854775808 ≤ bud ∧ bud ≤ 9223372036854775807) : Calls Try.prog 6 #[.agg us.toArray, .int .i64 bud] w fun e w' => e = .returned (.bool true) ∧ Below w.heap.size w w' := by
  obtain ⟨vr, vf, va, RR, FR, AP, rfl, hJ, -, -, -, -⟩ := job_of hs hr
  clear hs hr
  show Calls Try.prog _ #[.agg #[vr, vf, va], .int .i64 bud] w _
  have HJ := hide hJ
  obtain ⟨hR, hF, hA⟩ := hJ.at
  have J0 : Jc w.heap.size vr vf va (w.alloc (.cells #[vr, vf, va] 26)) := ⟨box_c w [vr, vf, va] _ 0 _ rfl, box_c w [vr, vf, va] _ 1 _ rfl, box_c w [vr, vf, va] _ 2 _ rfl⟩
  have K0 := (Keep.refl w).alloc (.cells #[vr, vf, va] 26)
  have CK := hide (fun (w' : World) (hk : Keep (w.alloc (.cells #[vr, vf, va] 26)) w') => J0.keep hk)
  have EK := hide (fun (w' : World) (hk : Keep (w.alloc (.cells #[vr, vf, va] 26)) w') => K0.trans hk)
  obtain ⟨Bo, sn, er, hL⟩ : ∃ a b c, layN RR FR AP (max 1 (mostN RR FR AP)) = (a, b, c) := ⟨_, _, _, rfl⟩
  obtain ⟨Bb, sb, eb, hL2⟩ : ∃ a b c, layN RR FR AP bud = (a, b, c) := ⟨_, _, _, rfl⟩
  have hX := most_bd RR FR AP
  have RES := hide (bud_res hL hL2)
  have TF := hide (fun (w' : World) (hk : Keep w w') => few15_any vr vf va RR FR AP w' (hJ.keep hk))
  have TX : Hid (FewJ RR FR AP → ∀ w', Keep w w' → (Calls Try.prog 10 #[.agg #[vr, vf, va]] w' fun e w2 => e = .returned (.int .i64 (mostN RR FR AP)) ∧ Keep w' w2) ∧ (Calls Try.prog 9 #[.agg #[vr, vf, va], .int .i64 (max 1 (mostN RR FR AP))] w' fun e w2 => ∃ v, e = .returned (.tuple #[v, .int .i64 sn, .int .i64 er]) ∧ Keep w' w2 ∧ Ft RR w2 v Bo) ∧ (Calls Try.prog 9 #[.agg #[vr, vf, va], .int .i64 bud] w' fun e w2 => ∃ v, e = .returned (.tuple #[v, .int .i64 sb, .int .i64 eb]) ∧ Keep w' w2 ∧ Ft RR w2 v Bb)) := hide (fun hf w' hk => by
    have h1 : RR.length ≤ 1000 := Nat.le_trans hf.1 (by omega)
    have h2 : ∀ L ∈ RR, L.length ≤ 1000 := fun L hL => Nat.le_trans (few_all hf L hL) (by omega)
    have h3 : AP.length ≤ 1000 := Nat.le_trans hf.2.1 (by omega)
    have hl := lay_any _ RR FR AP (max 1 (mostN RR FR AP)) w' ((unhide HJ).keep hk) h1 h2 h3 (by omega)
    have hm := lay_any _ RR FR AP bud w' ((unhide HJ).keep hk) h1 h2 h3 hbud.2
    unfold LyQ at hl hm
    rw [hL] at hl
    rw [hL2] at hm
    exact ⟨most_any _ RR FR AP w' ((unhide HJ).keep hk) h1 h2 h3, hl, hm⟩)
  obtain ⟨ar, cr, rfl, -, -⟩ := hR
  obtain ⟨af, cf, rfl, -⟩ := hF
  obtain ⟨aa, ca, rfl, -, -⟩ := hA
  obtain ⟨c0, c1, c2⟩ := unhide CK _ (Keep.refl _)
  clear J0 K0 hJ hL HJ hL2
  generalize FewJ RR FR AP = FJ at *
  generalize mostN RR FR AP = X at *
  have TSm := hide (fun (hz : Szd RR Bb) (w' : World) (x y : Int) (vo st vp sp : Value) (h1 : Ft RR w' (.agg #[.int .i64 x, vo, st]) Bb) (h2 : Ft RR w' (.agg #[.int .i64 y, vp, sp]) Bb) => same_ft hz h1 h2)
  generalize Szd RR Bb = SZ at *
  generalize RR.length = m at *
  generalize FR.length = fl at *
  generalize AP.length = al at *
  have hY : max 1 X = if 1 < X then X else 1 := by split <;> omega
  go_enter Try.func6, Try.ntmps6
  go_wp2_with fail
  generalize w.alloc (.cells #[.slice ar m cr, .slice af fl cf, .slice aa al ca] 26) = w1 at CK EK c0 c1 c2 ⊢
  generalize w.heap.size = b0 at CK c0 c1 c2 ⊢
  (refine ((unhide TF) _ (unhide EK _ (Keep.refl _))).mono ?_; rintro e w2 ⟨fw, rfl, hk9, hfw⟩; have K2 := hide hk9; have HFW := hide hfw; clear hk9 hfw)
  clear c0 c1 c2 TF
  have SS : Hid (∀ w', Keep w2 w' → w'.cell? ⟨b0, 0, none⟩ = some (.slice ar m cr) ∧ w'.cell? ⟨b0, 1, none⟩ = some (.slice af fl cf) ∧ w'.cell? ⟨b0, 2, none⟩ = some (.slice aa al ca)) := hide (fun w' hk => unhide CK _ ((unhide K2).trans hk))
  have KK := hide (fun w' (hk : Keep w2 w') => unhide EK _ ((unhide K2).trans hk))
  clear CK EK K2
  cases fw with
  | false =>
    go_wp2_with fail
    try go_ret
    exact ⟨rfl, unhide KK _ (Keep.refl _)⟩
  | true =>
    have TX2 := hide (unhide TX (unhide HFW rfl))
    have TM := hide (fun w' hk => (unhide TX2 w' hk).1)
    have TL := hide (fun w' hk => (unhide TX2 w' hk).2.1)
    have TB := hide (fun w' hk => (unhide TX2 w' hk).2.2)
    rw [hY] at TL
    clear TX TX2 HFW hY
    go_upto_region 3 with fail
    go_cut [5, 6, 7] (fun vp vn ve wc => ∃ fb, vp = .pointer (some ⟨fb, 0, none⟩) ∧ vn = .int .i64 sn ∧ ve = .int .i64 er ∧ Hid (Bxf RR Bo w2 wc fb))
    case first =>
      refine wp_region_held_drew (S := (fun w' => w'.cell? ⟨b0, 0, none⟩ = some (.slice ar m cr) ∧ w'.cell? ⟨b0, 1, none⟩ = some (.slice af fl cf) ∧ w'.cell? ⟨b0, 2, none⟩ = some (.slice aa al ca))) (by kernel_rfl) (by exact unhide SS _ ((Keep.refl _).drew)) (fun hHeld => ?_)
      refine wpAnyH_take (i := 0) (v := ?_) rfl (by kernel_rfl) (by kernel_rfl) (by kernel_rfl) (fun _ _ _ h => h) (Or.inl ⟨by rfl, ?_⟩) hHeld ?_
      rotate_left
      · intro w hSw
        try dsimp only at hSw
        go_simp
        try with_reducible rfl
      show wpAnyH _ _ _ _ _ _ _ (Act.put _ (some 15) _) _
      try simp only [Act.put, List.setIfInBounds_toArray, List.set_cons_zero, List.set_cons_succ]
      refine wpAnyH_take (i := 1) (v := ?_) rfl (by kernel_rfl) (by kernel_rfl) (by kernel_rfl) (fun _ _ _ h => h) (Or.inl ⟨by rfl, ?_⟩) hHeld ?_
      rotate_left
      · intro w hSw
        try dsimp only at hSw
        go_simp
        try with_reducible rfl
      show wpAnyH _ _ _ _ _ _ _ (Act.put _ (some 16) _) _
      try simp only [Act.put, List.setIfInBounds_toArray, List.set_cons_zero, List.set_cons_succ]
      refine wpAnyH_ready (rs := [2, 9]) (by kernel_rfl) (by simp) ?_
      refine AllReadyH.cons rfl (fun K hK => ?_) (AllReadyH.cons rfl (fun K hK => ?_) AllReadyH.nil)
      ·
        go_simp
        clear hHeld
        (refine ((unhide TM) _ (unhide KK _ (((Keep.refl w2).drew)))).mono ?_; rintro e w3 ⟨rfl, hk9⟩; have k3 := hide ((((Keep.refl w2).drew)).trans hk9); clear hk9)
        try go_wp2_with fail
        refine hK.out _ _ ?_ (fun hHeld => ?_)
        · exact unhide SS _ (unhide k3)
        clear hK K
        try simp only [Act.put, List.setIfInBounds_toArray, List.set_cons_zero, List.set_cons_succ]
        refine wpAnyH_take (i := 3) (v := ?_) rfl (by kernel_rfl) (by kernel_rfl) (by kernel_rfl) (fun _ _ _ h => h) (Or.inl ⟨by rfl, ?_⟩) hHeld ?_
        rotate_left
        · intro w hSw
          try dsimp only at hSw
          go_simp
          try with_reducible rfl
        show wpAnyH _ _ _ _ _ _ _ (Act.put _ (some 18) _) _
        try simp only [Act.put, List.setIfInBounds_toArray, List.set_cons_zero, List.set_cons_succ]
        generalize (if 1 < X then X else 1) = Y9 at *
        refine wpAnyH_ready (rs := [4, 9]) (by kernel_rfl) (by simp) ?_
        refine AllReadyH.cons rfl (fun K hK => ?_) (AllReadyH.cons rfl (fun K hK => ?_) AllReadyH.nil)
        ·
          go_simp
          clear hHeld
          (refine ((unhide TL) _ (unhide KK _ ((unhide k3)))).mono ?_; rintro e w4 ⟨v9, rfl, hk9, hft⟩; have k4 := hide (((unhide k3)).trans hk9); obtain ⟨x4, ao4, lo4, co4, as4, ls4, cs4, rfl⟩ := ft_shape hft; have FT4 := hide hft; clear hft)
          try go_wp2_with fail
          refine hK.out _ _ ?_ (fun hHeld => ?_)
          · exact unhide SS _ (unhide k4)
          clear hK K
          try simp only [Act.put, List.setIfInBounds_toArray, List.set_cons_zero, List.set_cons_succ]
          clear hk9
          refine wpAnyH_take (i := 5) (v := ?_) rfl (by kernel_rfl) (by kernel_rfl) (by kernel_rfl) (fun _ _ _ h => h) (Or.inl ⟨by rfl, ?_⟩) hHeld ?_
          rotate_left
          · intro w hSw
            try dsimp only at hSw
            go_simp
            try with_reducible rfl
          show wpAnyH _ _ _ _ _ _ _ (Act.put _ (some 14) _) _
          try simp only [Act.put, List.setIfInBounds_toArray, List.set_cons_zero, List.set_cons_succ]
          refine wpAnyH_take (i := 6) (v := ?_) rfl (by kernel_rfl) (by kernel_rfl) (by kernel_rfl) (fun _ _ _ h => h) (Or.inl ⟨by rfl, ?_⟩) hHeld ?_
          rotate_left
          · intro w hSw
            try dsimp only at hSw
            go_simp
            try with_reducible rfl
          show wpAnyH _ _ _ _ _ _ _ (Act.put _ (some 20) _) _
          try simp only [Act.put, List.setIfInBounds_toArray, List.set_cons_zero, List.set_cons_succ]
          refine wpAnyH_take (i := 7) (v := ?_) rfl (by kernel_rfl) (by kernel_rfl) (by kernel_rfl) (fun _ _ _ h => h) (Or.inl ⟨by rfl, ?_⟩) hHeld ?_
          rotate_left
          · intro w hSw
            try dsimp only at hSw
            go_simp
            try with_reducible rfl
          show wpAnyH _ _ _ _ _ _ _ (Act.put _ (some 21) _) _
          try simp only [Act.put, List.setIfInBounds_toArray, List.set_cons_zero, List.set_cons_succ]
          refine wpAnyH_take (i := 8) (v := ?_) rfl (by kernel_rfl) (by kernel_rfl) (by kernel_rfl) (fun _ _ _ h => h) (Or.inl ⟨by rfl, ?_⟩) hHeld ?_
          rotate_left
          · intro w hSw
            try dsimp only at hSw
            go_simp
            try with_reducible rfl
          show wpAnyH _ _ _ _ _ _ _ (Act.put _ (some 22) _) _
          try simp only [Act.put, List.setIfInBounds_toArray, List.set_cons_zero, List.set_cons_succ]
          have HB5 := hide (heap_alloc_new w4 (.cells #[.int .i64 0, .slice none 0 0, .slice none 0 0] 30))
          have K5 := hide ((unhide k4).alloc (.cells #[.int .i64 0, .slice none 0 0, .slice none 0 0] 30))
          have FT5 := hide ((unhide FT4).keep ((Keep.refl w4).alloc (.cells #[.int .i64 0, .slice none 0 0, .slice none 0 0] 30)))
          have LW5 : Hid (w2.heap.size ≤ w4.heap.size) := hide (Below.size (unhide k4))
          refine wpAnyH_ready (rs := [9]) (by kernel_rfl) (by simp) ?_
          refine AllReadyH.cons rfl (fun K hK => ?_) AllReadyH.nil
          go_simp
          clear hHeld
          refine hK.out _ _ ?_ (fun hHeld => ?_)
          · exact unhide SS _ (unhide K5)
          clear hK K
          try simp only [Act.put, List.setIfInBounds_toArray, List.set_cons_zero, List.set_cons_succ]
          generalize w4.alloc (.cells #[.int .i64 0, .slice none 0 0, .slice none 0 0] 30) = w5 at *
          generalize w4.heap.size = fb5 at *
          obtain ⟨f0, f1, f2⟩ := fit_fz (unhide HB5)
          obtain ⟨e0, e1, e2⟩ := fit_sz (unhide HB5)
          have BE := hide (lay_end (RR := RR) (unhide K5) (unhide LW5) (unhide HB5) (unhide FT5))
          refine wpAnyH_ready (rs := [10]) (by kernel_rfl) (by simp) ?_
          refine AllReadyH.cons rfl (fun K hK => ?_) AllReadyH.nil
          go_simp
          clear hHeld
          refine hK.out _ _ ?_ (fun hHeld => ?_)
          · exact unhide SS _ (unhide BE).kp
          clear hK K
          try simp only [Act.put, List.setIfInBounds_toArray, List.set_cons_zero, List.set_cons_succ]
          clear f0 f1 f2 e0 e1 e2
          refine wpAnyH_take (i := 11) (v := ?_) rfl (by kernel_rfl) (by kernel_rfl) (by kernel_rfl) (fun _ _ _ h => h) (Or.inl ⟨by rfl, ?_⟩) hHeld ?_
          rotate_left
          · intro w hSw
            try dsimp only at hSw
            go_simp
            try with_reducible rfl
          show wpAnyH _ _ _ _ _ _ _ (Act.put _ (some 6) _) _
          try simp only [Act.put, List.setIfInBounds_toArray, List.set_cons_zero, List.set_cons_succ]
          refine wpAnyH_take (i := 12) (v := ?_) rfl (by kernel_rfl) (by kernel_rfl) (by kernel_rfl) (fun _ _ _ h => h) (Or.inl ⟨by rfl, ?_⟩) hHeld ?_
          rotate_left
          · intro w hSw
            try dsimp only at hSw
            go_simp
            try with_reducible rfl
          show wpAnyH _ _ _ _ _ _ _ (Act.put _ (some 7) _) _
          try simp only [Act.put, List.setIfInBounds_toArray, List.set_cons_zero, List.set_cons_succ]
          refine wpAnyH_done (by kernel_rfl) ?_ _
          clear hHeld
          go_wp2_with fail
          go_meet
          exact ⟨_, rfl, rfl, rfl, BE⟩
        ·
          have HB4 := hide (heap_alloc_new w3 (.cells #[.int .i64 0, .slice none 0 0, .slice none 0 0] 30))
          have k4 := hide ((unhide k3).alloc (.cells #[.int .i64 0, .slice none 0 0, .slice none 0 0] 30))
          have LW5 : Hid (w2.heap.size ≤ w3.heap.size) := hide (Below.size (unhide k3))
          go_simp
          clear hHeld
          refine hK.out _ _ ?_ (fun hHeld => ?_)
          · exact unhide SS _ (unhide k4)
          clear hK K
          try simp only [Act.put, List.setIfInBounds_toArray, List.set_cons_zero, List.set_cons_succ]
          generalize w3.alloc (.cells #[.int .i64 0, .slice none 0 0, .slice none 0 0] 30) = w4 at *
          generalize w3.heap.size = fb5 at *
          refine wpAnyH_ready (rs := [4]) (by kernel_rfl) (by simp) ?_
          refine AllReadyH.cons rfl (fun K hK => ?_) AllReadyH.nil
          go_simp
          clear hHeld
          (refine ((unhide TL) _ (unhide KK _ ((unhide k4)))).mono ?_; rintro e w5 ⟨v9, rfl, hk9, hft⟩; have K5 := hide (((unhide k4)).trans hk9); obtain ⟨x4, ao4, lo4, co4, as4, ls4, cs4, rfl⟩ := ft_shape hft; have FT4 := hide hft; clear hft)
          try go_wp2_with fail
          refine hK.out _ _ ?_ (fun hHeld => ?_)
          · exact unhide SS _ (unhide K5)
          clear hK K
          try simp only [Act.put, List.setIfInBounds_toArray, List.set_cons_zero, List.set_cons_succ]
          have HB5 := hide (kblk (unhide HB4) hk9)
          have FT5 := FT4
          clear hk9
          refine wpAnyH_take (i := 5) (v := ?_) rfl (by kernel_rfl) (by kernel_rfl) (by kernel_rfl) (fun _ _ _ h => h) (Or.inl ⟨by rfl, ?_⟩) hHeld ?_
          rotate_left
          · intro w hSw
            try dsimp only at hSw
            go_simp
            try with_reducible rfl
          show wpAnyH _ _ _ _ _ _ _ (Act.put _ (some 14) _) _
          try simp only [Act.put, List.setIfInBounds_toArray, List.set_cons_zero, List.set_cons_succ]
          refine wpAnyH_take (i := 6) (v := ?_) rfl (by kernel_rfl) (by kernel_rfl) (by kernel_rfl) (fun _ _ _ h => h) (Or.inl ⟨by rfl, ?_⟩) hHeld ?_
          rotate_left
          · intro w hSw
            try dsimp only at hSw
            go_simp
            try with_reducible rfl
          show wpAnyH _ _ _ _ _ _ _ (Act.put _ (some 20) _) _
          try simp only [Act.put, List.setIfInBounds_toArray, List.set_cons_zero, List.set_cons_succ]
          refine wpAnyH_take (i := 7) (v := ?_) rfl (by kernel_rfl) (by kernel_rfl) (by kernel_rfl) (fun _ _ _ h => h) (Or.inl ⟨by rfl, ?_⟩) hHeld ?_
          rotate_left
          · intro w hSw
            try dsimp only at hSw
            go_simp
            try with_reducible rfl
          show wpAnyH _ _ _ _ _ _ _ (Act.put _ (some 21) _) _
          try simp only [Act.put, List.setIfInBounds_toArray, List.set_cons_zero, List.set_cons_succ]
          refine wpAnyH_take (i := 8) (v := ?_) rfl (by kernel_rfl) (by kernel_rfl) (by kernel_rfl) (fun _ _ _ h => h) (Or.inl ⟨by rfl, ?_⟩) hHeld ?_
          rotate_left
          · intro w hSw
            try dsimp only at hSw
            go_simp
            try with_reducible rfl
          show wpAnyH _ _ _ _ _ _ _ (Act.put _ (some 22) _) _
          try simp only [Act.put, List.setIfInBounds_toArray, List.set_cons_zero, List.set_cons_succ]
          obtain ⟨f0, f1, f2⟩ := fit_fz (unhide HB5)
          obtain ⟨e0, e1, e2⟩ := fit_sz (unhide HB5)
          have BE := hide (lay_end (RR := RR) (unhide K5) (unhide LW5) (unhide HB5) (unhide FT5))
          refine wpAnyH_ready (rs := [10]) (by kernel_rfl) (by simp) ?_
          refine AllReadyH.cons rfl (fun K hK => ?_) AllReadyH.nil
          go_simp
          clear hHeld
          refine hK.out _ _ ?_ (fun hHeld => ?_)
          · exact unhide SS _ (unhide BE).kp
          clear hK K
          try simp only [Act.put, List.setIfInBounds_toArray, List.set_cons_zero, List.set_cons_succ]
          clear f0 f1 f2 e0 e1 e2
          refine wpAnyH_take (i := 11) (v := ?_) rfl (by kernel_rfl) (by kernel_rfl) (by kernel_rfl) (fun _ _ _ h => h) (Or.inl ⟨by rfl, ?_⟩) hHeld ?_
          rotate_left
          · intro w hSw
            try dsimp only at hSw
            go_simp
            try with_reducible rfl
          show wpAnyH _ _ _ _ _ _ _ (Act.put _ (some 6) _) _
          try simp only [Act.put, List.setIfInBounds_toArray, List.set_cons_zero, List.set_cons_succ]
          refine wpAnyH_take (i := 12) (v := ?_) rfl (by kernel_rfl) (by kernel_rfl) (by kernel_rfl) (fun _ _ _ h => h) (Or.inl ⟨by rfl, ?_⟩) hHeld ?_
          rotate_left
          · intro w hSw
            try dsimp only at hSw
            go_simp
            try with_reducible rfl
          show wpAnyH _ _ _ _ _ _ _ (Act.put _ (some 7) _) _
          try simp only [Act.put, List.setIfInBounds_toArray, List.set_cons_zero, List.set_cons_succ]
          refine wpAnyH_done (by kernel_rfl) ?_ _
          clear hHeld
          go_wp2_with fail
          go_meet
          exact ⟨_, rfl, rfl, rfl, BE⟩
      ·
        have HB3 : Hid ((w2.alloc (.cells #[.int .i64 0, .slice none 0 0, .slice none 0 0] 30)).drew.heap[w2.heap.size]? = some (.cells #[.int .i64 0, .slice none 0 0, .slice none 0 0] 30)) := hide (heap_alloc_new w2 (.cells #[.int .i64 0, .slice none 0 0, .slice none 0 0] 30))
        have k3 := hide ((Keep.refl w2).alloc (.cells #[.int .i64 0, .slice none 0 0, .slice none 0 0] 30)).drew
        have LW5 : Hid (w2.heap.size ≤ w2.heap.size) := hide (Nat.le_refl _)
        go_simp
        clear hHeld
        refine hK.out _ _ ?_ (fun hHeld => ?_)
        · exact unhide SS _ (unhide k3)
        clear hK K
        try simp only [Act.put, List.setIfInBounds_toArray, List.set_cons_zero, List.set_cons_succ]
        generalize (w2.alloc (.cells #[.int .i64 0, .slice none 0 0, .slice none 0 0] 30)).drew = w3 at *
        obtain ⟨fb5, hfb5⟩ : ∃ f, w2.heap.size = f := ⟨_, rfl⟩
        have LW6 : Hid (w2.heap.size ≤ fb5) := hide (by rw [hfb5]; exact Nat.le_refl _)
        rw [hfb5] at HB3
        simp only [hfb5]
        clear LW5 hfb5
        have LW5 := LW6
        refine wpAnyH_ready (rs := [2]) (by kernel_rfl) (by simp) ?_
        refine AllReadyH.cons rfl (fun K hK => ?_) AllReadyH.nil
        go_simp
        clear hHeld
        (refine ((unhide TM) _ (unhide KK _ ((unhide k3)))).mono ?_; rintro e w4 ⟨rfl, hk9⟩; have k4 := hide (((unhide k3)).trans hk9); have HB4 := hide (kblk (unhide HB3) hk9); clear hk9)
        try go_wp2_with fail
        refine hK.out _ _ ?_ (fun hHeld => ?_)
        · exact unhide SS _ (unhide k4)
        clear hK K
        try simp only [Act.put, List.setIfInBounds_toArray, List.set_cons_zero, List.set_cons_succ]
        refine wpAnyH_take (i := 3) (v := ?_) rfl (by kernel_rfl) (by kernel_rfl) (by kernel_rfl) (fun _ _ _ h => h) (Or.inl ⟨by rfl, ?_⟩) hHeld ?_
        rotate_left
        · intro w hSw
          try dsimp only at hSw
          go_simp
          try with_reducible rfl
        show wpAnyH _ _ _ _ _ _ _ (Act.put _ (some 18) _) _
        try simp only [Act.put, List.setIfInBounds_toArray, List.set_cons_zero, List.set_cons_succ]
        generalize (if 1 < X then X else 1) = Y9 at *
        refine wpAnyH_ready (rs := [4]) (by kernel_rfl) (by simp) ?_
        refine AllReadyH.cons rfl (fun K hK => ?_) AllReadyH.nil
        go_simp
        clear hHeld
        (refine ((unhide TL) _ (unhide KK _ ((unhide k4)))).mono ?_; rintro e w5 ⟨v9, rfl, hk9, hft⟩; have K5 := hide (((unhide k4)).trans hk9); obtain ⟨x4, ao4, lo4, co4, as4, ls4, cs4, rfl⟩ := ft_shape hft; have FT4 := hide hft; clear hft)
        try go_wp2_with fail
        refine hK.out _ _ ?_ (fun hHeld => ?_)
        · exact unhide SS _ (unhide K5)
        clear hK K
        try simp only [Act.put, List.setIfInBounds_toArray, List.set_cons_zero, List.set_cons_succ]
        have HB5 := hide (kblk (unhide HB4) hk9)
        have FT5 := FT4
        clear hk9
        refine wpAnyH_take (i := 5) (v := ?_) rfl (by kernel_rfl) (by kernel_rfl) (by kernel_rfl) (fun _ _ _ h => h) (Or.inl ⟨by rfl, ?_⟩) hHeld ?_
        rotate_left
        · intro w hSw
          try dsimp only at hSw
          go_simp
          try with_reducible rfl
        show wpAnyH _ _ _ _ _ _ _ (Act.put _ (some 14) _) _
        try simp only [Act.put, List.setIfInBounds_toArray, List.set_cons_zero, List.set_cons_succ]
        refine wpAnyH_take (i := 6) (v := ?_) rfl (by kernel_rfl) (by kernel_rfl) (by kernel_rfl) (fun _ _ _ h => h) (Or.inl ⟨by rfl, ?_⟩) hHeld ?_
        rotate_left
        · intro w hSw
          try dsimp only at hSw
          go_simp
          try with_reducible rfl
        show wpAnyH _ _ _ _ _ _ _ (Act.put _ (some 20) _) _
        try simp only [Act.put, List.setIfInBounds_toArray, List.set_cons_zero, List.set_cons_succ]
        refine wpAnyH_take (i := 7) (v := ?_) rfl (by kernel_rfl) (by kernel_rfl) (by kernel_rfl) (fun _ _ _ h => h) (Or.inl ⟨by rfl, ?_⟩) hHeld ?_
        rotate_left
        · intro w hSw
          try dsimp only at hSw
          go_simp
          try with_reducible rfl
        show wpAnyH _ _ _ _ _ _ _ (Act.put _ (some 21) _) _
        try simp only [Act.put, List.setIfInBounds_toArray, List.set_cons_zero, List.set_cons_succ]
        refine wpAnyH_take (i := 8) (v := ?_) rfl (by kernel_rfl) (by kernel_rfl) (by kernel_rfl) (fun _ _ _ h => h) (Or.inl ⟨by rfl, ?_⟩) hHeld ?_
        rotate_left
        · intro w hSw
          try dsimp only at hSw
          go_simp
          try with_reducible rfl
        show wpAnyH _ _ _ _ _ _ _ (Act.put _ (some 22) _) _
        try simp only [Act.put, List.setIfInBounds_toArray, List.set_cons_zero, List.set_cons_succ]
        obtain ⟨f0, f1, f2⟩ := fit_fz (unhide HB5)
        obtain ⟨e0, e1, e2⟩ := fit_sz (unhide HB5)
        have BE := hide (lay_end (RR := RR) (unhide K5) (unhide LW5) (unhide HB5) (unhide FT5))
        refine wpAnyH_ready (rs := [10]) (by kernel_rfl) (by simp) ?_
        refine AllReadyH.cons rfl (fun K hK => ?_) AllReadyH.nil
        go_simp
        clear hHeld
        refine hK.out _ _ ?_ (fun hHeld => ?_)
        · exact unhide SS _ (unhide BE).kp
        clear hK K
        try simp only [Act.put, List.setIfInBounds_toArray, List.set_cons_zero, List.set_cons_succ]
        clear f0 f1 f2 e0 e1 e2
        refine wpAnyH_take (i := 11) (v := ?_) rfl (by kernel_rfl) (by kernel_rfl) (by kernel_rfl) (fun _ _ _ h => h) (Or.inl ⟨by rfl, ?_⟩) hHeld ?_
        rotate_left
        · intro w hSw
          try dsimp only at hSw
          go_simp
          try with_reducible rfl
        show wpAnyH _ _ _ _ _ _ _ (Act.put _ (some 6) _) _
        try simp only [Act.put, List.setIfInBounds_toArray, List.set_cons_zero, List.set_cons_succ]
        refine wpAnyH_take (i := 12) (v := ?_) rfl (by kernel_rfl) (by kernel_rfl) (by kernel_rfl) (fun _ _ _ h => h) (Or.inl ⟨by rfl, ?_⟩) hHeld ?_
        rotate_left
        · intro w hSw
          try dsimp only at hSw
          go_simp
          try with_reducible rfl
        show wpAnyH _ _ _ _ _ _ _ (Act.put _ (some 7) _) _
        try simp only [Act.put, List.setIfInBounds_toArray, List.set_cons_zero, List.set_cons_succ]
        refine wpAnyH_done (by kernel_rfl) ?_ _
        clear hHeld
        go_wp2_with fail
        go_meet
        exact ⟨_, rfl, rfl, rfl, BE⟩
    case rest =>
      obtain ⟨fb, rfl, rfl, rfl, BX⟩ := hcut
      have k5 := hide (unhide BX).kp
      have KC := hide (fun w' (hk : Keep wc w') => unhide KK _ ((unhide k5).trans hk))
      have SC := hide (fun w' (hk : Keep wc w') => unhide SS _ ((unhide k5).trans hk))
      obtain ⟨c0, c1, c2⟩ := unhide SC _ (Keep.refl _)
      have TBc := hide (unhide TB wc (unhide KC _ (Keep.refl _)))
      clear SS TL k5 KK TB
      go_wp2_with fail
      (refine (unhide TBc).mono ?_; rintro e w6 ⟨v9, rfl, hk9, hft⟩)
      obtain ⟨x6, ao6, lo6, co6, as6, ls6, cs6, rfl⟩ := ft_shape hft
      have BY := hide (lay_new (RR := RR) hk9 hft)
      have BX6 := hide ((unhide BX).mv (hk9.alloc (.cells #[.int .i64 x6, .slice ao6 lo6 co6, .slice as6 ls6 cs6] 30)))
      have HFT := hide hft
      clear hk9 hft c0 c1 c2 BX TBc
      go_upto_region 5 with fail
      generalize w6.alloc (.cells #[.int .i64 x6, .slice ao6 lo6 co6, .slice as6 ls6 cs6] 30) = w7 at BY BX6 ⊢
      generalize w6.heap.size = fb2 at BY ⊢
      have K7 := hide (unhide BY).kp
      obtain ⟨c0, c1, c2⟩ := unhide SC _ (unhide K7)
      obtain ⟨x7, ao7, lo7, co7, as7, ls7, cs7, hb7, hf7, -, -⟩ := unhide BY
      obtain ⟨x8, ao8, lo8, co8, as8, ls8, cs8, hb8, hf8, -, -⟩ := unhide BX6
      obtain ⟨d0, d1, d2⟩ := fit_sz hb7
      obtain ⟨e0, e1, e2⟩ := fit_sz hb8
      have FT7 := hide hf7
      have FT8 := hide hf8
      have TMc := hide (unhide TM w7 (unhide KC _ (unhide K7)))
      clear hb7 hb8 hf7 hf8 BY BX6 HFT SC TM
      rcases unhide RES with ⟨r1, r2, r3, r4, r5⟩ | ⟨r1, r2, r3, r4, r5, r6⟩
      · subst r1
        subst r3
        have hft : (Value.agg #[.int .i64 x7, .slice ao7 lo7 co7, .slice as7 ls7 cs7]) = .agg #[.int .i64 0, .slice none 0 0, .slice none 0 0] := unhide FT7
        simp at hft
        obtain ⟨rfl, ⟨rfl, rfl, rfl⟩, rfl, rfl, rfl⟩ := hft
        have dX : decide (bud < X) = true := decide_eq_true r5
        clear RES FT7 FT8 TSm r5
        rcases r4 with ⟨hb, hn⟩ | ⟨hb, hn⟩
        · have db : decide (bud < 1) = true := decide_eq_true hb
          subst hn
          clear hb
          go_wp2_with fail
          (refine (unhide TMc).mono ?_; rintro e w8 ⟨rfl, hk8⟩; have k8 := hide ((unhide K7).trans hk8); clear hk8 c0 c1 c2 d0 d1 d2 e0 e1 e2)
          go_wp2_with fail
          (refine (awake_any _).mono ?_; rintro e w9 ⟨rfl, hk9⟩; have k9 := hide ((unhide k8).trans hk9); clear hk9)
          go_wp2_with fail
          try go_ret
          exact ⟨rfl, unhide KC _ (unhide k9)⟩
        · have db : decide (bud < 1) = false := decide_eq_false (by omega)
          subst hn
          have dn : (sb == sb) = true := by simp
          clear hb
          go_wp2_with fail
          (refine (unhide TMc).mono ?_; rintro e w8 ⟨rfl, hk8⟩; have k8 := hide ((unhide K7).trans hk8); clear hk8 c0 c1 c2 d0 d1 d2 e0 e1 e2)
          go_wp2_with fail
          (refine (awake_any _).mono ?_; rintro e w9 ⟨rfl, hk9⟩; have k9 := hide ((unhide k8).trans hk9); clear hk9)
          go_wp2_with fail
          try go_ret
          exact ⟨rfl, unhide KC _ (unhide k9)⟩
      · subst r3
        subst r2
        have TS9 := hide (unhide TSm r4 w7 _ _ _ _ _ _ (unhide FT8) (unhide FT7))
        have g1 : (er == 151) = false := by simp; exact r1
        have g2 : (er == er) = true := by simp
        clear RES FT7 FT8 TSm TMc r1 r4 c0 c1 c2
        by_cases hb : 0 < bud
        · have hn := r5 hb
          have dn : decide (sb ≤ bud) = true := decide_eq_true hn
          clear r5 r6
          go_wp2_with fail
          (refine (unhide TS9).mono ?_; rintro e w8 ⟨rfl, hk8⟩; have k8 := hide ((unhide K7).trans hk8); clear hk8 d0 d1 d2 e0 e1 e2)
          go_wp2_with fail
          all_goals (
            first
            | (exfalso; omega)
            | ((refine (awake_any _).mono ?_; rintro e w9 ⟨rfl, hk9⟩; have k9 := hide ((unhide k8).trans hk9); clear hk9)
               go_wp2_with fail
               try go_ret
               exact ⟨rfl, unhide KC _ (unhide k9)⟩))
        · have hn := r6 (by omega)
          have dn : decide (sb ≤ 0) = true := decide_eq_true hn
          clear r5 r6
          go_wp2_with fail
          (refine (unhide TS9).mono ?_; rintro e w8 ⟨rfl, hk8⟩; have k8 := hide ((unhide K7).trans hk8); clear hk8 d0 d1 d2 e0 e1 e2)
          go_wp2_with fail
          all_goals (
            first
            | (exfalso; omega)
            | ((refine (awake_any _).mono ?_; rintro e w9 ⟨rfl, hk9⟩; have k9 := hide ((unhide k8).trans hk9); clear hk9)
               go_wp2_with fail
               try go_ret
               exact ⟨rfl, unhide KC _ (unhide k9)⟩))
theorem laidOut : laidOutB Try.prog = true := by kernel_rfl
theorem own : ownKnob Try.prog.godebug = none := by kernel_rfl
set_option maxHeartbeats 400000 in
set_option maxRecDepth 100000 in
theorem lifted (os : Os) (started : os.Started) (H : Type) (enc : TypeId × Value → H) :
    ReturnsInHanded {} Try.checked os 6 .any (Rows.groupBudgetSpec.pre6 enc Try.prog Try.f6 Rows.groupBudgetRow.domain false) (Rows.groupBudgetSpec.post enc Try.prog Try.f6 false true false false) := by
  refine returnsInHanded_of_change (C := Try.checked) own started (by kernel_rfl) Try.func6
    (ChangeSpec.witness6 (enc := enc) (C := Try.checked) false ⟨#[], #[.agg #[.slice none 0 0, .slice none 0 0, .slice none 0 0], .int .i64 0], []⟩ 8 (by kernel_rfl) (by kernel_rfl) (by kernel_rfl) (by kernel_rfl)) ?_
  intro W base args ds gs before hval0 hW hcnd _
  have hval : ∀ (j : Nat) t v, Try.f6.params[j]? = some t → args[j]? = some v → Value.okWide Try.prog W .any base t v := hval0
  have hW' := hW
  obtain ⟨p, q, hA0, hV, rfl, hfz, hnd⟩ := hW
  have hA : DataW.TrodAll enc Try.prog W 0 (fun _ => true) true Try.f6.params.toList args.toList ds p := hA0
  rw [Try.params6] at hA hval
  obtain ⟨v0, vs0, d0, ds0, p0, q0, hargs, rfl, rfl, h0, r0⟩ := trodAll_cons hA
  obtain ⟨v1, vs1, d1, ds1, p1, q1, rfl, rfl, rfl, h1, r1⟩ := trodAll_cons r0
  obtain ⟨rfl, rfl, rfl⟩ := trodAll_nil r1
  obtain rfl : args = #[v0, v1] := by cases args; simp_all
  obtain ⟨rfl, rfl⟩ := trodVars_none hV
  have k0 := h0
  have lt0 : ∀ x ∈ p0, x.block < W.heap.size := by obtain ⟨m, hm⟩ := k0; exact DataW.trod_lt m _ _ _ hm
  obtain ⟨es0, us0, rfl, s0, x0⟩ := Gp.open_struct Try.underlying26 Gp.job_desc (hval 0 26 v0 rfl rfl) h0
  clear h0
  obtain ⟨a1, rfl, rfl, rfl, w1⟩ := open_int Try.underlying2 (hval 1 2 v1 rfl rfl) h1
  clear hA0 hval0
  refine (walk s0 x0 a1 (bounds_i64 w1)).mono fun e W' ⟨he, bel⟩ => ?_
  subst he
  exact ⟨_, rfl, _, _, _, [], _, [], hW', trodAll_mk1 (shut_bool Try.underlying4 _), (trodAll_cons_mk (Below.trod laidOut (by kernel_rfl) (of_decide_eq_true (by kernel_rfl)) k0 bel lt0) (trodAll_cons_mk (shut_int Try.underlying2 w1) trodAll_mk0)), rfl, bel.frame _, fun h => by cases h⟩
theorem over : Rows.groupBudgetRow.holds Try.pinned (OpenSpec.ofChange Rows.groupBudgetSpec) :=
  OpenClaim.holds_of_wide 6 Try.f6 rfl rfl rfl rfl rfl rfl rfl ⟨rfl, rfl, rfl, rfl, rfl⟩ rfl rfl rfl rfl rfl (by kernel_rfl) Try.func6 (by kernel_rfl)
    (of_decide_eq_true (by kernel_rfl)) (by unfold Func.isWrapper; first | (rw [if_pos (by decide +kernel)]; kernel_rfl) | (rw [if_neg (by decide +kernel)]; exact ⟨rfl, rfl⟩))
    (fun os started H enc _ => lifted os started H enc)

end Go.Proofs.Ytakandlehneciaa.gbudget
namespace Go.Proofs.Ytakandlehneciaa
theorem GroupBudget_holds : Rows.GroupBudgetSaid := gbudget.over
end Go.Proofs.Ytakandlehneciaa
