/- Package group: Lay. -/
import Derived.Test.YtakandlehneciaaGpL
import Derived.Test.YtakandlehneciaaGpW
namespace Go.Proofs.Ytakandlehneciaa
open Go.RowKit
attribute [local go_sem ↓] Go.wp_at_zero Go.wp_at_succ
set_option linter.unusedVariables false
set_option linter.unusedSimpArgs false
set_option maxRecDepth 10000
namespace Gp
open Pa
/-- what the search of a job comes to -/
noncomputable def goJ (RR : List (List Int)) (FR : List Bool) (AP : List P2) (bud : Int) : Bool × Option Bt × Nat :=
  go (fN RR (dn [] AP)) (dn [] AP).length (flr RR (dn [] AP)) bud.toNat none (all2 (osN RR FR 0) (osN RR FR 1))
/-- what Lay tells: the layout, how many steps it took, and what is wrong -/
noncomputable def layN (RR : List (List Int)) (FR : List Bool) (AP : List P2) (bud : Int) : Option Bt × Int × Int :=
  if jobR RR FR AP = false then (none, 0, 1) else if bud < 1 then (none, 0, 151) else
  if (goJ RR FR AP bud).1 = true then (if (goJ RR FR AP bud).2.1.isNone then (none, bud - ((goJ RR FR AP bud).2.2 : Int), 150) else ((goJ RR FR AP bud).2.1, bud - ((goJ RR FR AP bud).2.2 : Int), 0)) else (none, bud - ((goJ RR FR AP bud).2.2 : Int), 151)
/-- a layout as a value -/
def Ft (RR : List (List Int)) (w : World) (v : Value) : Option Bt → Prop
  | none => v = .agg #[.int .i64 0, .slice none 0 0, .slice none 0 0]
  | some b => ∃ vo st, v = .agg #[.int .i64 b.2, vo, st] ∧ Tw 49 3 w vo (oo RR.length b.1.1) ∧ Tw 39 T2 w st (STn (MKn RR RR.length) (oo RR.length b.1.1) b.1.2 (oo RR.length b.1.1).length)
theorem Ft.keep {RR : List (List Int)} {w w' : World} {v : Value} {B : Option Bt} (h : Ft RR w v B) (hk : Keep w w') : Ft RR w' v B := by
  cases B with
  | none => exact h
  | some b =>
    obtain ⟨vo, st, e, h1, h2⟩ := h
    exact ⟨vo, st, e, h1.keep hk, h2.keep hk⟩
def LyQ (RR : List (List Int)) (r : Option Bt × Int × Int) (w : World) (e : Ending) (w' : World) : Prop := ∃ v, e = .returned (.tuple #[v, .int .i64 r.2.1, .int .i64 r.2.2]) ∧ Keep w w' ∧ Ft RR w' v r.1
set_option maxHeartbeats 8000000 in
theorem lay_any (J : Value) (RR : List (List Int)) (FR : List Bool) (AP : List P2) (bud : Int) (w : World) (hJ : Jb w J RR FR AP) (h1 : RR.length ≤ 1000) (h2 : ∀ L ∈ RR, L.length ≤ 1000) (h3 : AP.length ≤ 1000) (hb : bud ≤ 9223372036854775807) :
    Calls Try.prog 9 #[J, .int .i64 bud] w (LyQ RR (layN RR FR AP bud) w) := by
  have TR := hide (fun (w' : World) (hk : Keep w w') => jright_any J RR FR AP w' (hJ.keep hk) h1 h2 h3)
  have HJ := hide hJ
  obtain ⟨vr, vf, va, rfl, hR, hF, hA⟩ := hJ
  have J0 : Jc w.heap.size vr vf va (w.alloc (.cells #[vr, vf, va] 26)) := ⟨box_c w [vr, vf, va] _ 0 _ rfl, box_c w [vr, vf, va] _ 1 _ rfl, box_c w [vr, vf, va] _ 2 _ rfl⟩
  have K0 := (Keep.refl w).alloc (.cells #[vr, vf, va] 26)
  have HQ : Hid (∀ v w', Keep w w' → Ft RR w' v (layN RR FR AP bud).1 → LyQ RR (layN RR FR AP bud) w (.returned (.tuple #[v, .int .i64 (layN RR FR AP bud).2.1, .int .i64 (layN RR FR AP bud).2.2])) w') := hide (fun v w' a b => ⟨v, rfl, a, b⟩)
  generalize LyQ RR (layN RR FR AP bud) w = QQ at HQ ⊢
  have CK := hide (fun (w' : World) (hk : Keep (w.alloc (.cells #[vr, vf, va] 26)) w') => J0.keep hk)
  have EK := hide (fun (w' : World) (hk : Keep (w.alloc (.cells #[vr, vf, va] 26)) w') => K0.trans hk)
  have TN := hide (fun (hb0 : 0 ≤ bud) (hrt : Rt RR FR AP) (w' : World) (hk : Keep w w') => new_any RR FR AP vr vf va bud w' ((unhide HJ).keep hk) hrt ⟨hb0, hb⟩)
  obtain ⟨ar, cr, rfl, -, -⟩ := hR
  obtain ⟨af, cf, rfl, -⟩ := hF
  obtain ⟨aa, ca, rfl, -, -⟩ := hA
  clear J0 K0 h1 h2 h3
  have TN2 := hide (fun (w9 w' : World) (sb : Nat) (vd : Value) (hb0 : 0 ≤ bud) (hrt : Rt RR FR AP) (hk : Keep w w9) (hD : Ps w9 vd (dn [] AP)) (h0 : Sv RR w9 w' sb (.slice ar RR.length cr) (.slice af FR.length cf) (.slice aa AP.length ca) vd (flr RR (dn [] AP)) bud bud.toNat none) => run_any RR FR AP w9 w' sb _ _ _ vd bud ((unhide HJ).keep hk) hrt hD ⟨hb0, hb⟩ h0)
  clear hb
  have FB : Hid (∀ w', Keep ((w.alloc (.cells #[.slice ar RR.length cr, .slice af FR.length cf, .slice aa AP.length ca] 26)).alloc (.cells #[.int .i64 0, .slice none 0 0, .slice none 0 0] 30)) w' → w'.heap[w.heap.size + 1]? = some (.cells #[.int .i64 0, .slice none 0 0, .slice none 0 0] 30 (0, 0))) := hide (fun w' hk => by
    have h := heap_alloc_new (w.alloc (.cells #[.slice ar RR.length cr, .slice af FR.length cf, .slice aa AP.length ca] 26)) (.cells #[.int .i64 0, .slice none 0 0, .slice none 0 0] 30)
    have e : (w.alloc (.cells #[.slice ar RR.length cr, .slice af FR.length cf, .slice aa AP.length ca] 26)).heap.size = w.heap.size + 1 := Array.size_push _
    rw [e] at h
    exact (hk.block _ (Array.getElem?_eq_some_iff.1 h).1).trans h)
  have K1 : Hid (Keep w ((w.alloc (.cells #[.slice ar RR.length cr, .slice af FR.length cf, .slice aa AP.length ca] 26)).alloc (.cells #[.int .i64 0, .slice none 0 0, .slice none 0 0] 30))) := hide (((Keep.refl w).alloc _).alloc _)
  have CB := hide (fun (w' : World) (hk : Keep ((w.alloc (.cells #[.slice ar RR.length cr, .slice af FR.length cf, .slice aa AP.length ca] 26)).alloc (.cells #[.int .i64 0, .slice none 0 0, .slice none 0 0] 30)) w') => unhide CK w' (((Keep.refl _).alloc _).trans hk))
  have KS : Hid (∀ w' x y z, Keep w w' → Keep w ((((w').setCell ⟨w.heap.size + 1, 0, none⟩ x).setCell ⟨w.heap.size + 1, 1, none⟩ y).setCell ⟨w.heap.size + 1, 2, none⟩ z)) := hide (fun w' x y z h => Below.setCell (Below.setCell (Below.setCell h (by show w.heap.size ≤ w.heap.size + 1; omega) _) (by show w.heap.size ≤ w.heap.size + 1; omega) _) (by show w.heap.size ≤ w.heap.size + 1; omega) _)
  clear CK EK
  cases hB : jobR RR FR AP with
  | false =>
    have hL : layN RR FR AP bud = (none, 0, 1) := by unfold layN; rw [hB]; rfl
    rw [hL] at HQ
    rw [hB] at TR
    clear hL hB TN TN2 HJ
    generalize RR.length = m at *
    generalize FR.length = fl at *
    generalize AP.length = al at *
    go_enter Try.func9, Try.ntmps9
    go_wp2_with fail
    (refine ((unhide TR) _ (unhide K1)).mono ?_; rintro e w3 ⟨rfl, hk3⟩)
    have hb3 := unhide FB w3 hk3
    have KZ := hide (unhide KS w3 (.int .i64 0) (.slice none 0 0) (.slice none 0 0) ((unhide K1).trans hk3))
    obtain ⟨f0, f1, f2⟩ := fit_fz hb3
    obtain ⟨e0, e1, e2⟩ := fit_sz hb3
    obtain ⟨r0, r1, r2⟩ := fit_sz (fit_sto hb3 (.int .i64 0) (.slice none 0 0) (.slice none 0 0))
    clear hb3 hk3
    go_wp2_with fail
    exact bodyPost_ret (v := .tuple #[.agg #[.int .i64 0, .slice none 0 0, .slice none 0 0], .int .i64 0, .int .i64 1]) (by simp [results, Try.results9, go_sem, r0, r1, r2]) rfl ((unhide HQ) _ _ (unhide KZ) rfl)
  | true =>
    have hrt := rt_of hB
    rw [hB] at TR
    by_cases hbud : bud < 1
    · have hL : layN RR FR AP bud = (none, 0, 151) := by unfold layN; rw [hB, if_neg (by simp), if_pos hbud]
      rw [hL] at HQ
      have d1 : decide (bud < 1) = true := decide_eq_true hbud
      clear hL hB TN TN2 HJ hrt
      generalize RR.length = m at *
      generalize FR.length = fl at *
      generalize AP.length = al at *
      go_enter Try.func9, Try.ntmps9
      go_wp2_with fail
      (refine ((unhide TR) _ (unhide K1)).mono ?_; rintro e w3 ⟨rfl, hk3⟩)
      have hb3 := unhide FB w3 hk3
      have KZ := hide (unhide KS w3 (.int .i64 0) (.slice none 0 0) (.slice none 0 0) ((unhide K1).trans hk3))
      obtain ⟨f0, f1, f2⟩ := fit_fz hb3
      obtain ⟨e0, e1, e2⟩ := fit_sz hb3
      obtain ⟨r0, r1, r2⟩ := fit_sz (fit_sto hb3 (.int .i64 0) (.slice none 0 0) (.slice none 0 0))
      clear hb3 hk3
      go_wp2_with fail
      exact bodyPost_ret (v := .tuple #[.agg #[.int .i64 0, .slice none 0 0, .slice none 0 0], .int .i64 0, .int .i64 151]) (by simp [results, Try.results9, go_sem, r0, r1, r2]) rfl ((unhide HQ) _ _ (unhide KZ) rfl)
    · obtain ⟨g, hg⟩ : ∃ g, goJ RR FR AP bud = g := ⟨_, rfl⟩
      obtain ⟨st, B, k⟩ := g
      have hL : layN RR FR AP bud = if st = true then (if B.isNone then (none, bud - (k : Int), 150) else (B, bud - (k : Int), 0)) else (none, bud - (k : Int), 151) := by
        unfold layN
        rw [hB, if_neg (by simp), if_neg hbud, hg]
      rw [hL] at HQ
      have TN3 := hide (unhide TN (by omega) hrt)
      have TN4 : Hid (∀ w9 w' sb vd, Keep w w9 → Ps w9 vd (dn [] AP) → Sv RR w9 w' sb (.slice ar RR.length cr) (.slice af FR.length cf) (.slice aa AP.length ca) vd (flr RR (dn [] AP)) bud bud.toNat none → Calls Try.prog 20 #[.pointer (some ⟨sb, 0, none⟩)] w' (fun e w2 => e = .returned (.int .i64 (if st then (if B.isNone then 150 else 0) else 151)) ∧ Sv RR w9 w2 sb (.slice ar RR.length cr) (.slice af FR.length cf) (.slice aa AP.length ca) vd (flr RR (dn [] AP)) bud k B)) := hide (fun w9 w' sb vd h1 h2 h3 => by
        have h := unhide TN2 w9 w' sb vd (by omega) hrt h1 h2 h3
        unfold Rq at h
        unfold goJ at hg
        rw [hg] at h
        exact h)
      have d1 : decide (bud < 1) = false := decide_eq_false hbud
      clear hL hB TN TN2 HJ hrt hg hbud
      go_enter Try.func9, Try.ntmps9
      go_wp2_with fail
      (refine ((unhide TR) _ (unhide K1)).mono ?_; rintro e w3 ⟨rfl, hk3⟩)
      obtain ⟨c0, c1, c2⟩ := unhide CB w3 hk3
      have KK3 := hide hk3
      have TN5 := hide (unhide TN3 w3 ((unhide K1).trans hk3))
      clear hk3 TN3
      go_wp2_with fail
      (refine (unhide TN5).mono ?_; rintro e w4 ⟨w9, sb, vd, rfl, hk9, hD, hS4⟩)
      have TN6 := hide (unhide TN4 w9 w4 sb vd ((unhide K1).trans ((unhide KK3).trans hk9)) hD hS4)
      have KK9 := hide ((unhide KK3).trans hk9)
      clear hk9 hD hS4 c0 c1 c2 TN5 TN4
      go_wp2_with fail
      (refine (unhide TN6).mono ?_; rintro e w5 ⟨rfl, hS5⟩)
      have hb5 := unhide FB w5 ((unhide KK9).trans hS5.keep)
      have hb9 := unhide FB w9 (unhide KK9)
      have hne : w.heap.size + 1 ≠ sb := by
        have h1 := (Array.getElem?_eq_some_iff.1 hb9).1
        have h2 := hS5.low
        omega
      obtain ⟨x, vo, sv5, hx, hbx⟩ := hS5.box
      have hb6 : w5.drew.heap[w.heap.size + 1]? = some (.cells #[.int .i64 0, .slice none 0 0, .slice none 0 0] 30 (0, 0)) := hb5
      have hx6 : w5.drew.heap[sb]? = some _ := hx
      have K6 : Hid (Keep w w5.drew) := hide ((unhide K1).trans (((unhide KK9).trans hS5.keep).trans (Keep.refl w5).drew))
      obtain ⟨-, -, -, -, -, c5, -, c7, c8, c9⟩ := sv_at hx6
      obtain ⟨f0, f1, f2⟩ := fit_fz hb6
      obtain ⟨e0, e1, e2⟩ := fit_sz hb6
      have FAR : Hid (∀ (w' : World) (i j : Nat) (v : Value), (w'.setCell ⟨w.heap.size + 1, i, none⟩ v).cell? ⟨sb, j, none⟩ = w'.cell? ⟨sb, j, none⟩) := hide (fun w' i j v => World.cell?_setCell_far _ _ _ _ hne)
      have S6 : Hid (w5.drew.cell? ⟨sb, 5, none⟩ = some (.int .i64 (bud - (k : Int)))) := hide c5
      have HB6 := hide hb6
      clear hb5 hb9 hx hx6 hb6 TN6 hne FB CB
      cases st with
      | false =>
        have KZ := hide (unhide KS w5.drew (.int .i64 0) (.slice none 0 0) (.slice none 0 0) (unhide K6))
        obtain ⟨r0, r1, r2⟩ := fit_sz (fit_sto (unhide HB6) (.int .i64 0) (.slice none 0 0) (.slice none 0 0))
        have HR := hide (And.intro r0 (And.intro r1 r2))
        clear r0 r1 r2 c7 c8 c9
        go_upto_region 8 with fail
        refine wp_region_held_drew (S := (fun w' => w'.cell? ⟨sb, 5, none⟩ = some (.int .i64 (bud - (k : Int))))) (by kernel_rfl) (by exact unhide S6) (fun hHeld => ?_)
        generalize w5.drew = w6 at *
        refine wpAnyH_take (i := 0) (v := ?_) rfl (by kernel_rfl) (by kernel_rfl) (by kernel_rfl) (fun _ _ _ h => h) (Or.inl ⟨by rfl, ?_⟩) hHeld ?_
        rotate_left
        · intro w hSw
          try dsimp only at hSw
          go_simp
          try with_reducible rfl
        show wpAnyH _ _ _ _ _ _ _ (Act.put _ (some 23) _) _
        try simp only [Act.put, List.setIfInBounds_toArray, List.set_cons_zero, List.set_cons_succ]
        refine wpAnyH_take (i := 1) (v := ?_) rfl (by kernel_rfl) (by kernel_rfl) (by kernel_rfl) (fun _ _ _ h => h) (Or.inl ⟨by rfl, ?_⟩) hHeld ?_
        rotate_left
        · intro w hSw
          try dsimp only at hSw
          go_simp
          try with_reducible rfl
        show wpAnyH _ _ _ _ _ _ _ (Act.put _ (some 24) _) _
        try simp only [Act.put, List.setIfInBounds_toArray, List.set_cons_zero, List.set_cons_succ]
        refine wpAnyH_take (i := 2) (v := ?_) rfl (by kernel_rfl) (by kernel_rfl) (by kernel_rfl) (fun _ _ _ h => h) (Or.inl ⟨by rfl, ?_⟩) hHeld ?_
        rotate_left
        · intro w hSw
          try dsimp only at hSw
          go_simp
          try with_reducible rfl
        show wpAnyH _ _ _ _ _ _ _ (Act.put _ (some 25) _) _
        try simp only [Act.put, List.setIfInBounds_toArray, List.set_cons_zero, List.set_cons_succ]
        refine wpAnyH_take (i := 3) (v := ?_) rfl (by kernel_rfl) (by kernel_rfl) (by kernel_rfl) (fun _ _ _ h => h) (Or.inl ⟨by rfl, ?_⟩) hHeld ?_
        rotate_left
        · intro w hSw
          try dsimp only at hSw
          go_simp
          try with_reducible rfl
        show wpAnyH _ _ _ _ _ _ _ (Act.put _ (some 26) _) _
        try simp only [Act.put, List.setIfInBounds_toArray, List.set_cons_zero, List.set_cons_succ]
        refine wpAnyH_take (i := 4) (v := ?_) rfl (by kernel_rfl) (by kernel_rfl) (by kernel_rfl) (fun _ _ _ h => h) (Or.inl ⟨by rfl, ?_⟩) hHeld ?_
        rotate_left
        · intro w hSw
          try dsimp only at hSw
          go_simp
          try with_reducible rfl
        show wpAnyH _ _ _ _ _ _ _ (Act.put _ (some 27) _) _
        try simp only [Act.put, List.setIfInBounds_toArray, List.set_cons_zero, List.set_cons_succ]
        refine wpAnyH_take (i := 5) (v := ?_) rfl (by kernel_rfl) (by kernel_rfl) (by kernel_rfl) (fun _ _ _ h => h) (Or.inl ⟨by rfl, ?_⟩) hHeld ?_
        rotate_left
        · intro w hSw
          try dsimp only at hSw
          go_simp
          try with_reducible rfl
        show wpAnyH _ _ _ _ _ _ _ (Act.put _ (some 28) _) _
        try simp only [Act.put, List.setIfInBounds_toArray, List.set_cons_zero, List.set_cons_succ]
        refine wpAnyH_ready (rs := [6]) (by kernel_rfl) (by simp) ?_
        refine AllReadyH.cons rfl (fun K hK => ?_) AllReadyH.nil
        go_simp
        clear hHeld
        refine hK.out _ _ ?_ (fun hHeld => ?_)
        · (simp only [unhide FAR]; exact unhide S6)
        clear hK K
        try simp only [Act.put, List.setIfInBounds_toArray, List.set_cons_zero, List.set_cons_succ]
        refine wpAnyH_take (i := 7) (v := ?_) rfl (by kernel_rfl) (by kernel_rfl) (by kernel_rfl) (fun _ _ _ h => h) (Or.inl ⟨by rfl, ?_⟩) hHeld ?_
        rotate_left
        · intro w hSw
          try dsimp only at hSw
          go_simp
          try with_reducible rfl
        show wpAnyH _ _ _ _ _ _ _ (Act.put _ (some 5) _) _
        try simp only [Act.put, List.setIfInBounds_toArray, List.set_cons_zero, List.set_cons_succ]
        refine wpAnyH_take (i := 8) (v := ?_) rfl (by kernel_rfl) (by kernel_rfl) (by kernel_rfl) (fun _ _ _ h => h) (Or.inl ⟨by rfl, ?_⟩) hHeld ?_
        rotate_left
        · intro w hSw
          try dsimp only at hSw
          go_simp
          try with_reducible rfl
        show wpAnyH _ _ _ _ _ _ _ (Act.put _ (some 6) _) _
        try simp only [Act.put, List.setIfInBounds_toArray, List.set_cons_zero, List.set_cons_succ]
        refine wpAnyH_done (by kernel_rfl) ?_ _
        clear hHeld
        obtain ⟨r0, r1, r2⟩ := unhide HR
        go_wp2_with fail
        exact bodyPost_ret (v := .tuple #[.agg #[.int .i64 0, .slice none 0 0, .slice none 0 0], .int .i64 (bud - (k : Int)), .int .i64 151]) (by simp [results, Try.results9, go_sem, r0, r1, r2]) rfl ((unhide HQ) _ _ (unhide KZ) rfl)
      | true =>
        cases B with
        | none =>
          have KZ := hide (unhide KS w5.drew (.int .i64 0) (.slice none 0 0) (.slice none 0 0) (unhide K6))
          obtain ⟨r0, r1, r2⟩ := fit_sz (fit_sto (unhide HB6) (.int .i64 0) (.slice none 0 0) (.slice none 0 0))
          have HR := hide (And.intro r0 (And.intro r1 r2))
          clear r0 r1 r2 c7 c8 c9
          go_upto_region 8 with fail
          refine wp_region_held_drew (S := (fun w' => w'.cell? ⟨sb, 5, none⟩ = some (.int .i64 (bud - (k : Int))))) (by kernel_rfl) (by exact unhide S6) (fun hHeld => ?_)
          generalize w5.drew = w6 at *
          refine wpAnyH_take (i := 0) (v := ?_) rfl (by kernel_rfl) (by kernel_rfl) (by kernel_rfl) (fun _ _ _ h => h) (Or.inl ⟨by rfl, ?_⟩) hHeld ?_
          rotate_left
          · intro w hSw
            try dsimp only at hSw
            go_simp
            try with_reducible rfl
          show wpAnyH _ _ _ _ _ _ _ (Act.put _ (some 23) _) _
          try simp only [Act.put, List.setIfInBounds_toArray, List.set_cons_zero, List.set_cons_succ]
          refine wpAnyH_take (i := 1) (v := ?_) rfl (by kernel_rfl) (by kernel_rfl) (by kernel_rfl) (fun _ _ _ h => h) (Or.inl ⟨by rfl, ?_⟩) hHeld ?_
          rotate_left
          · intro w hSw
            try dsimp only at hSw
            go_simp
            try with_reducible rfl
          show wpAnyH _ _ _ _ _ _ _ (Act.put _ (some 24) _) _
          try simp only [Act.put, List.setIfInBounds_toArray, List.set_cons_zero, List.set_cons_succ]
          refine wpAnyH_take (i := 2) (v := ?_) rfl (by kernel_rfl) (by kernel_rfl) (by kernel_rfl) (fun _ _ _ h => h) (Or.inl ⟨by rfl, ?_⟩) hHeld ?_
          rotate_left
          · intro w hSw
            try dsimp only at hSw
            go_simp
            try with_reducible rfl
          show wpAnyH _ _ _ _ _ _ _ (Act.put _ (some 25) _) _
          try simp only [Act.put, List.setIfInBounds_toArray, List.set_cons_zero, List.set_cons_succ]
          refine wpAnyH_take (i := 3) (v := ?_) rfl (by kernel_rfl) (by kernel_rfl) (by kernel_rfl) (fun _ _ _ h => h) (Or.inl ⟨by rfl, ?_⟩) hHeld ?_
          rotate_left
          · intro w hSw
            try dsimp only at hSw
            go_simp
            try with_reducible rfl
          show wpAnyH _ _ _ _ _ _ _ (Act.put _ (some 26) _) _
          try simp only [Act.put, List.setIfInBounds_toArray, List.set_cons_zero, List.set_cons_succ]
          refine wpAnyH_take (i := 4) (v := ?_) rfl (by kernel_rfl) (by kernel_rfl) (by kernel_rfl) (fun _ _ _ h => h) (Or.inl ⟨by rfl, ?_⟩) hHeld ?_
          rotate_left
          · intro w hSw
            try dsimp only at hSw
            go_simp
            try with_reducible rfl
          show wpAnyH _ _ _ _ _ _ _ (Act.put _ (some 27) _) _
          try simp only [Act.put, List.setIfInBounds_toArray, List.set_cons_zero, List.set_cons_succ]
          refine wpAnyH_take (i := 5) (v := ?_) rfl (by kernel_rfl) (by kernel_rfl) (by kernel_rfl) (fun _ _ _ h => h) (Or.inl ⟨by rfl, ?_⟩) hHeld ?_
          rotate_left
          · intro w hSw
            try dsimp only at hSw
            go_simp
            try with_reducible rfl
          show wpAnyH _ _ _ _ _ _ _ (Act.put _ (some 28) _) _
          try simp only [Act.put, List.setIfInBounds_toArray, List.set_cons_zero, List.set_cons_succ]
          refine wpAnyH_ready (rs := [6]) (by kernel_rfl) (by simp) ?_
          refine AllReadyH.cons rfl (fun K hK => ?_) AllReadyH.nil
          go_simp
          clear hHeld
          refine hK.out _ _ ?_ (fun hHeld => ?_)
          · (simp only [unhide FAR]; exact unhide S6)
          clear hK K
          try simp only [Act.put, List.setIfInBounds_toArray, List.set_cons_zero, List.set_cons_succ]
          refine wpAnyH_take (i := 7) (v := ?_) rfl (by kernel_rfl) (by kernel_rfl) (by kernel_rfl) (fun _ _ _ h => h) (Or.inl ⟨by rfl, ?_⟩) hHeld ?_
          rotate_left
          · intro w hSw
            try dsimp only at hSw
            go_simp
            try with_reducible rfl
          show wpAnyH _ _ _ _ _ _ _ (Act.put _ (some 5) _) _
          try simp only [Act.put, List.setIfInBounds_toArray, List.set_cons_zero, List.set_cons_succ]
          refine wpAnyH_take (i := 8) (v := ?_) rfl (by kernel_rfl) (by kernel_rfl) (by kernel_rfl) (fun _ _ _ h => h) (Or.inl ⟨by rfl, ?_⟩) hHeld ?_
          rotate_left
          · intro w hSw
            try dsimp only at hSw
            go_simp
            try with_reducible rfl
          show wpAnyH _ _ _ _ _ _ _ (Act.put _ (some 6) _) _
          try simp only [Act.put, List.setIfInBounds_toArray, List.set_cons_zero, List.set_cons_succ]
          refine wpAnyH_done (by kernel_rfl) ?_ _
          clear hHeld
          obtain ⟨r0, r1, r2⟩ := unhide HR
          go_wp2_with fail
          exact bodyPost_ret (v := .tuple #[.agg #[.int .i64 0, .slice none 0 0, .slice none 0 0], .int .i64 (bud - (k : Int)), .int .i64 150]) (by simp [results, Try.results9, go_sem, r0, r1, r2]) rfl ((unhide HQ) _ _ (unhide KZ) rfl)
        | some b =>
          obtain ⟨rfl, hbo, hbs⟩ := hbx
          have KZ := hide (unhide KS w5.drew (.int .i64 b.2) vo sv5 (unhide K6))
          have hsto := fit_sto (unhide HB6) (.int .i64 b.2) vo sv5
          obtain ⟨r0, r1, r2⟩ := fit_sz hsto
          have HR := hide (And.intro r0 (And.intro r1 r2))
          have q1 := heap_setCell_same _ (w.heap.size + 1) 0 _ _ (.int .i64 b.2) (unhide HB6)
          have q2 := heap_setCell_same _ (w.heap.size + 1) 1 _ _ vo q1
          have kt : Kt (fun e => e = 30) w5 ((((w5.drew).setCell ⟨w.heap.size + 1, 0, none⟩ (.int .i64 b.2)).setCell ⟨w.heap.size + 1, 1, none⟩ vo).setCell ⟨w.heap.size + 1, 2, none⟩ sv5) := (Kt.of (Keep.refl w5).drew).trans (((Kt.set (A := fun e => e = 30) (i := 0) (u := .int .i64 b.2) (unhide HB6) rfl).trans (Kt.set (A := fun e => e = 30) (i := 1) (u := vo) q1 rfl)).trans (Kt.set (A := fun e => e = 30) (i := 2) (u := sv5) q2 rfl))
          have HFT := hide (show Ft RR ((((w5.drew).setCell ⟨w.heap.size + 1, 0, none⟩ (.int .i64 b.2)).setCell ⟨w.heap.size + 1, 1, none⟩ vo).setCell ⟨w.heap.size + 1, 2, none⟩ sv5) (.agg #[.int .i64 b.2, vo, sv5]) (some b) from ⟨_, _, rfl, hbo.kt kt (by decide) (by decide), hbs.kt kt (by decide) (by decide)⟩)
          obtain ⟨ao, co, rfl, -⟩ := hbo.sl
          obtain ⟨as9, cs, rfl, -⟩ := hbs.sl
          have S9 : Hid (w5.drew.cell? ⟨sb, 5, none⟩ = some (.int .i64 (bud - (k : Int))) ∧ w5.drew.cell? ⟨sb, 7, none⟩ = some (.int .i64 b.2) ∧ w5.drew.cell? ⟨sb, 8, none⟩ = some (.slice ao (oo RR.length b.1.1).length co) ∧ w5.drew.cell? ⟨sb, 9, none⟩ = some (.slice as9 (STn (MKn RR RR.length) (oo RR.length b.1.1) b.1.2 (oo RR.length b.1.1).length).length cs)) := hide ⟨c5, c7, c8, c9⟩
          clear r0 r1 r2 q1 q2 kt hbo hbs hsto c5 c7 c8 c9
          generalize (oo RR.length b.1.1).length = lo at *
          generalize (STn (MKn RR RR.length) (oo RR.length b.1.1) b.1.2 lo).length = ls at *
          go_upto_region 9 with fail
          refine wp_region_held_drew (S := (fun w' => w'.cell? ⟨sb, 5, none⟩ = some (.int .i64 (bud - (k : Int))) ∧ w'.cell? ⟨sb, 7, none⟩ = some (.int .i64 b.2) ∧ w'.cell? ⟨sb, 8, none⟩ = some (.slice ao lo co) ∧ w'.cell? ⟨sb, 9, none⟩ = some (.slice as9 ls cs))) (by kernel_rfl) (by exact unhide S9) (fun hHeld => ?_)
          generalize w5.drew = w6 at *
          refine wpAnyH_take (i := 0) (v := ?_) rfl (by kernel_rfl) (by kernel_rfl) (by kernel_rfl) (fun _ _ _ h => h) (Or.inl ⟨by rfl, ?_⟩) hHeld ?_
          rotate_left
          · intro w hSw
            try dsimp only at hSw
            go_simp
            try with_reducible rfl
          show wpAnyH _ _ _ _ _ _ _ (Act.put _ (some 29) _) _
          try simp only [Act.put, List.setIfInBounds_toArray, List.set_cons_zero, List.set_cons_succ]
          refine wpAnyH_take (i := 1) (v := ?_) rfl (by kernel_rfl) (by kernel_rfl) (by kernel_rfl) (fun _ _ _ h => h) (Or.inl ⟨by rfl, ?_⟩) hHeld ?_
          rotate_left
          · intro w hSw
            try dsimp only at hSw
            go_simp
            try with_reducible rfl
          show wpAnyH _ _ _ _ _ _ _ (Act.put _ (some 30) _) _
          try simp only [Act.put, List.setIfInBounds_toArray, List.set_cons_zero, List.set_cons_succ]
          refine wpAnyH_take (i := 2) (v := ?_) rfl (by kernel_rfl) (by kernel_rfl) (by kernel_rfl) (fun _ _ _ h => h) (Or.inl ⟨by rfl, ?_⟩) hHeld ?_
          rotate_left
          · intro w hSw
            try dsimp only at hSw
            go_simp
            try with_reducible rfl
          show wpAnyH _ _ _ _ _ _ _ (Act.put _ (some 31) _) _
          try simp only [Act.put, List.setIfInBounds_toArray, List.set_cons_zero, List.set_cons_succ]
          refine wpAnyH_take (i := 3) (v := ?_) rfl (by kernel_rfl) (by kernel_rfl) (by kernel_rfl) (fun _ _ _ h => h) (Or.inl ⟨by rfl, ?_⟩) hHeld ?_
          rotate_left
          · intro w hSw
            try dsimp only at hSw
            go_simp
            try with_reducible rfl
          show wpAnyH _ _ _ _ _ _ _ (Act.put _ (some 32) _) _
          try simp only [Act.put, List.setIfInBounds_toArray, List.set_cons_zero, List.set_cons_succ]
          refine wpAnyH_take (i := 4) (v := ?_) rfl (by kernel_rfl) (by kernel_rfl) (by kernel_rfl) (fun _ _ _ h => h) (Or.inl ⟨by rfl, ?_⟩) hHeld ?_
          rotate_left
          · intro w hSw
            try dsimp only at hSw
            go_simp
            try with_reducible rfl
          show wpAnyH _ _ _ _ _ _ _ (Act.put _ (some 33) _) _
          try simp only [Act.put, List.setIfInBounds_toArray, List.set_cons_zero, List.set_cons_succ]
          refine wpAnyH_take (i := 5) (v := ?_) rfl (by kernel_rfl) (by kernel_rfl) (by kernel_rfl) (fun _ _ _ h => h) (Or.inl ⟨by rfl, ?_⟩) hHeld ?_
          rotate_left
          · intro w hSw
            try dsimp only at hSw
            go_simp
            try with_reducible rfl
          show wpAnyH _ _ _ _ _ _ _ (Act.put _ (some 34) _) _
          try simp only [Act.put, List.setIfInBounds_toArray, List.set_cons_zero, List.set_cons_succ]
          refine wpAnyH_take (i := 6) (v := ?_) rfl (by kernel_rfl) (by kernel_rfl) (by kernel_rfl) (fun _ _ _ h => h) (Or.inl ⟨by rfl, ?_⟩) hHeld ?_
          rotate_left
          · intro w hSw
            try dsimp only at hSw
            go_simp
            try with_reducible rfl
          show wpAnyH _ _ _ _ _ _ _ (Act.put _ (some 35) _) _
          try simp only [Act.put, List.setIfInBounds_toArray, List.set_cons_zero, List.set_cons_succ]
          refine wpAnyH_take (i := 7) (v := ?_) rfl (by kernel_rfl) (by kernel_rfl) (by kernel_rfl) (fun _ _ _ h => h) (Or.inl ⟨by rfl, ?_⟩) hHeld ?_
          rotate_left
          · intro w hSw
            try dsimp only at hSw
            go_simp
            try with_reducible rfl
          show wpAnyH _ _ _ _ _ _ _ (Act.put _ (some 36) _) _
          try simp only [Act.put, List.setIfInBounds_toArray, List.set_cons_zero, List.set_cons_succ]
          refine wpAnyH_ready (rs := [8]) (by kernel_rfl) (by simp) ?_
          refine AllReadyH.cons rfl (fun K hK => ?_) AllReadyH.nil
          go_simp
          clear hHeld
          refine hK.out _ _ ?_ (fun hHeld => ?_)
          · (simp only [unhide FAR]; exact unhide S9)
          clear hK K
          try simp only [Act.put, List.setIfInBounds_toArray, List.set_cons_zero, List.set_cons_succ]
          refine wpAnyH_take (i := 9) (v := ?_) rfl (by kernel_rfl) (by kernel_rfl) (by kernel_rfl) (fun _ _ _ h => h) (Or.inl ⟨by rfl, ?_⟩) hHeld ?_
          rotate_left
          · intro w hSw
            try dsimp only at hSw
            go_simp
            try with_reducible rfl
          show wpAnyH _ _ _ _ _ _ _ (Act.put _ (some 5) _) _
          try simp only [Act.put, List.setIfInBounds_toArray, List.set_cons_zero, List.set_cons_succ]
          refine wpAnyH_take (i := 10) (v := ?_) rfl (by kernel_rfl) (by kernel_rfl) (by kernel_rfl) (fun _ _ _ h => h) (Or.inl ⟨by rfl, ?_⟩) hHeld ?_
          rotate_left
          · intro w hSw
            try dsimp only at hSw
            go_simp
            try with_reducible rfl
          show wpAnyH _ _ _ _ _ _ _ (Act.put _ (some 6) _) _
          try simp only [Act.put, List.setIfInBounds_toArray, List.set_cons_zero, List.set_cons_succ]
          refine wpAnyH_done (by kernel_rfl) ?_ _
          clear hHeld
          obtain ⟨r0, r1, r2⟩ := unhide HR
          go_wp2_with fail
          exact bodyPost_ret (v := .tuple #[.agg #[.int .i64 b.2, .slice ao lo co, .slice as9 ls cs], .int .i64 (bud - (k : Int)), .int .i64 0]) (by simp [results, Try.results9, go_sem, r0, r1, r2]) rfl ((unhide HQ) _ _ (unhide KZ) (unhide HFT))
end Gp
end Go.Proofs.Ytakandlehneciaa
