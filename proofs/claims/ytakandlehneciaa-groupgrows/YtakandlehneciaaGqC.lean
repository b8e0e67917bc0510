/- Package group: the law's few, and when the phases of a ring end. -/
import Derived.Test.YtakandlehneciaaGqA
import Derived.Test.YtakandlehneciaaGpX
namespace Go.Proofs.Ytakandlehneciaa
open Go.RowKit
attribute [local go_sem ↓] Go.wp_at_zero Go.wp_at_succ
set_option linter.unusedVariables false
set_option linter.unusedSimpArgs false
set_option maxRecDepth 10000
namespace Gp
open Pa
/-- a job of few layouts -/
def FewJ (RR : List (List Int)) (FR : List Bool) (AP : List P2) : Prop := RR.length ≤ 5 ∧ AP.length ≤ 4 ∧ FR.length ≤ 5 ∧ ∀ j, j < RR.length → (RR.getD j []).length ≤ 3
theorem few_all {RR : List (List Int)} {FR : List Bool} {AP : List P2} (h : FewJ RR FR AP) : ∀ L ∈ RR, L.length ≤ 3 := fun L hL => by
  obtain ⟨j, hj, rfl⟩ := List.getElem_of_mem hL
  have := h.2.2.2 j hj
  rw [List.getD_eq_getElem?_getD, List.getElem?_eq_getElem hj] at this
  exact this
theorem hi_more {P : Nat → Prop} {k : Nat} (h : ∀ j, j < k → P j) (hk : P k) : ∀ j, j < k + 1 → P j := fun j hj => by
  by_cases e : j = k
  · subst e; exact hk
  · exact h j (by omega)
def FwQ (P : Prop) (w : World) (e : Ending) (w' : World) : Prop := ∃ B, e = .returned (.bool B) ∧ Keep w w' ∧ (B = true → P)
set_option maxHeartbeats 4000000 in
theorem few15_any (vr vf va : Value) (RR : List (List Int)) (FR : List Bool) (AP : List P2) (w : World) (hJ : Jb w (.agg #[vr, vf, va]) RR FR AP) : Calls Try.prog 8 #[.agg #[vr, vf, va]] w (FwQ (FewJ RR FR AP) w) := by
  obtain ⟨hR, hF, hA⟩ := hJ.at
  have J0 : Jc w.heap.size vr vf va (w.alloc (.cells #[vr, vf, va] 26)) := ⟨box_c w [vr, vf, va] _ 0 _ rfl, box_c w [vr, vf, va] _ 1 _ rfl, box_c w [vr, vf, va] _ 2 _ rfl⟩
  have K0 := (Keep.refl w).alloc (.cells #[vr, vf, va] 26)
  have CK := hide (fun (w' : World) (hk : Keep (w.alloc (.cells #[vr, vf, va] 26)) w') => J0.keep hk)
  have EK := hide (fun (w' : World) (hk : Keep (w.alloc (.cells #[vr, vf, va] 26)) w') => K0.trans hk)
  obtain ⟨ar, cr, rfl, -, hR⟩ := hR
  obtain ⟨af, cf, rfl, -⟩ := hF
  obtain ⟨aa, ca, rfl, -, -⟩ := hA
  have HR := hide hR
  have HF : Hid (RR.length ≤ 5 → AP.length ≤ 4 → FR.length ≤ 5 → (∀ j, j < RR.length → (RR.getD j []).length ≤ 3) → FewJ RR FR AP) := hide (fun a b c d => ⟨a, b, c, d⟩)
  obtain ⟨c0, c1, c2⟩ := unhide CK _ (Keep.refl _)
  clear J0 K0 hR hJ
  generalize FewJ RR FR AP = FJ at *
  generalize RR.length = m at *
  generalize FR.length = fl at *
  generalize AP.length = al at *
  by_cases h1 : 5 < m
  · have d1 : decide ((5 : Int) < (m : Int)) = true := decide_eq_true (by omega)
    have e1 : (5 : Int) < (m : Int) := by omega
    clear HF HR
    go_enter Try.func8, Try.ntmps8
    go_wp2_with fail
    go_ret
    exact ⟨_, rfl, unhide EK _ (Keep.refl _), fun h => by cases h⟩
  have d1 : decide ((5 : Int) < (m : Int)) = false := decide_eq_false (by omega)
  by_cases h3 : 4 < al
  · have d3 : decide ((4 : Int) < (al : Int)) = true := decide_eq_true (by omega)
    clear HF HR
    go_enter Try.func8, Try.ntmps8
    go_wp2_with fail
    go_ret
    exact ⟨_, rfl, unhide EK _ (Keep.refl _), fun h => by cases h⟩
  have d3 : decide ((4 : Int) < (al : Int)) = false := decide_eq_false (by omega)
  by_cases h2 : 5 < fl
  · have d2 : decide ((5 : Int) < (fl : Int)) = true := decide_eq_true (by omega)
    clear HF HR
    go_enter Try.func8, Try.ntmps8
    go_wp2_with fail
    go_ret
    exact ⟨_, rfl, unhide EK _ (Keep.refl _), fun h => by cases h⟩
  have d2 : decide ((5 : Int) < (fl : Int)) = false := decide_eq_false (by omega)
  have HF2 := hide (unhide HF (by omega) (by omega) (by omega))
  have hm : m ≤ 5 := by omega
  clear HF h1 h2 h3
  have KW1 : Hid (Keep (w.alloc (.cells #[.slice ar m cr, .slice af fl cf, .slice aa al ca] 26)) (w.alloc (.cells #[.slice ar m cr, .slice af fl cf, .slice aa al ca] 26))) := hide (Keep.refl _)
  go_enter Try.func8, Try.ntmps8
  go_wp2_with fail
  generalize w.alloc (.cells #[.slice ar m cr, .slice af fl cf, .slice aa al ca] 26) = w1 at CK EK KW1 c0 c1 c2 ⊢
  generalize w.heap.size = b at CK c0 c1 c2 ⊢
  clear d1 d2 d3
  go_loopw [3] (fun vi wr => ∃ i : Nat, i ≤ m ∧ vi = .int .i64 (i : Int) ∧ Hid (Keep w1 wr) ∧ Hid (∀ j, j < i → (RR.getD j []).length ≤ 3)) (fun vi _ => m - (intOf vi).toNat)
  case atStart => exact ⟨0, Nat.zero_le _, rfl, KW1, hide (fun j h => absurd h (Nat.not_lt_zero _))⟩
  case round =>
    clear KW1 c0 c1 c2
    obtain ⟨i, hi, rfl, KW, NR⟩ := hrel
    obtain ⟨c0, c1, c2⟩ := unhide CK _ (unhide KW)
    by_cases hlt : i < m
    · have li : (i : Int) < (m : Int) := by omega
      obtain ⟨ad, u, rfl, y0, hu⟩ := (unhide HR) i hlt
      obtain ⟨ua, uc, rfl, -⟩ := hu
      have y0 := kc ((unhide EK) _ (unhide KW)) y0
      have HM := hide (fun h => hi_more (unhide NR) (k := i) h)
      generalize (RR.getD i []).length = n at y0 HM
      by_cases hn : 3 < n
      · have e1 : decide ((3 : Int) < (n : Int)) = true := decide_eq_true (by omega)
        have e2 : (3 : Int) < (n : Int) := by omega
        go_wp2_with fail
        go_ret
        exact ⟨_, rfl, unhide EK _ (unhide KW), fun h => by cases h⟩
      · have e2 : ¬ (3 : Int) < (n : Int) := by omega
        have HM2 := hide (unhide HM (by omega))
        go_wp2_with fail
        go_roundw
        case rel => exact ⟨i + 1, hlt, by go_num, KW, HM2⟩
        case measure => simp [intOf]; omega
    · have li : ¬ (i : Int) < (m : Int) := by omega
      obtain rfl : i = m := by omega
      have HZ := hide (unhide HF2 (unhide NR))
      go_wp2_with fail
      go_ret
      exact ⟨_, rfl, unhide EK _ (unhide KW), fun _ => unhide HZ⟩
/-- a layout's value -/
theorem ft_shape {RR : List (List Int)} {w : World} {v : Value} {B : Option Bt} (h : Ft RR w v B) : ∃ (x : Int) (ao : Option Addr) (lo co : Nat) (as9 : Option Addr) (ls cs : Nat), v = .agg #[.int .i64 x, .slice ao lo co, .slice as9 ls cs] := by
  cases B with
  | none => exact ⟨_, _, _, _, _, _, _, h⟩
  | some b =>
    obtain ⟨vo, st, rfl, h1, h2⟩ := h
    obtain ⟨ao, co, rfl, -⟩ := h1.sl
    obtain ⟨as9, cs, rfl, -⟩ := h2.sl
    exact ⟨_, _, _, _, _, _, _, rfl⟩
theorem infoW : (Try.prog.info? T2).map (fun i => (i.zero, i.size, i.bytes)) = some (some (.int .i64 0), 1, 8) := by kernel_rfl
/-- when the phases of a ring end -/
def edL (x : Int) (L : List Int) : List Int := (List.range L.length).map fun k => if k + 1 = L.length then x else L.getD (k + 1) 0
theorem edL_len (x : Int) (L : List Int) : (edL x L).length = L.length := by simp [edL]
theorem edL_at {x : Int} {L : List Int} {k : Nat} (h : k < L.length) : (edL x L).getD k 0 = if k + 1 = L.length then x else L.getD (k + 1) 0 := by
  rw [List.getD_eq_getElem?_getD, edL, List.getElem?_map, List.getElem?_range h]; rfl
theorem edL_more {x : Int} {L : List Int} {k : Nat} (h : k < L.length) : (edL x L).take (k + 1) = (edL x L).take k ++ [if k + 1 = L.length then x else L.getD (k + 1) 0] := by
  rw [List.take_add_one, ← edL_at h, List.getElem?_eq_getElem (by rw [edL_len]; exact h), List.getD_eq_getElem?_getD, List.getElem?_eq_getElem (by rw [edL_len]; exact h)]
  rfl
def EdQ (L : List Int) (w : World) (e : Ending) (w' : World) : Prop := ∃ v, e = .returned v ∧ Keep w w' ∧ Is w' v L
set_option maxHeartbeats 4000000 in
theorem ends_any (x : Int) (ao : Option Addr) (lo co : Nat) (st : Value) (ST : List (List Int)) (r : Nat) (w : World) (hS : Ir w st ST) (hr : r < ST.length) (hl : ST.length ≤ 2) (hl2 : (ST.getD r []).length ≤ 4) :
    Calls Try.prog 31 #[.agg #[.int .i64 x, .slice ao lo co, st], .int .i64 (r : Int)] w (EdQ (edL x (ST.getD r [])) w) := by
  obtain ⟨i0, hi0, hz00, hz01, hz02⟩ := info_f infoW
  obtain ⟨as9, cs, rfl, -, hS⟩ := hS
  obtain ⟨ad, u, rfl, y0, hu⟩ := hS r hr
  obtain ⟨ua, uc, rfl, hu⟩ := hu
  have HU := hide hu
  have HE := hide (fun k (h : k < (ST.getD r []).length) => edL_more (x := x) h)
  have HQ : Hid (∀ w' v q, Keep w w' → w'.ownsRow q T2 1 v (ST.getD r []).length (ics ((edL x (ST.getD r [])).take (ST.getD r []).length)) → EdQ (edL x (ST.getD r [])) w (.returned v) w') := hide (fun w' v q hk h => ⟨v, rfl, hk, by
    rw [← edL_len x, take_all] at h
    exact (iw_own h rfl).is⟩)
  generalize EdQ (edL x (ST.getD r [])) w = QQ at HQ ⊢
  have lr : (r : Int) < (ST.length : Int) := by omega
  have lr0 : (0 : Int) ≤ (r : Int) := by omega
  clear hS hu
  generalize edL x (ST.getD r []) = E at HE HQ
  obtain ⟨L, hL⟩ : ∃ L, ST.getD r [] = L := ⟨_, rfl⟩
  rw [hL] at HE HQ HU hl2 y0
  clear hL
  have BX := heap_alloc_new w (.cells #[.int .i64 x, .slice ao lo co, .slice (some ad) ST.length cs] 30)
  have K1 := hide ((Keep.refl w).alloc (.cells #[.int .i64 x, .slice ao lo co, .slice (some ad) ST.length cs] 30))
  have Y0 := hide y0
  have y1 := kc (unhide K1) y0
  have HSZ : Hid ((w.alloc (.cells #[.int .i64 x, .slice ao lo co, .slice (some ad) ST.length cs] 30)).heap.size = w.heap.size + 1) := hide (World.size_alloc _ _)
  obtain ⟨n, hn⟩ : ∃ n, L.length = n := ⟨_, rfl⟩
  have HN := hide hn
  rw [hn] at HE HQ HU hl2 Y0 y1
  generalize ST.length = m at *
  clear hn y0 hr hl
  go_enter Try.func31, Try.ntmps31
  obtain ⟨c0, c1, c2⟩ := fit_sz BX
  have HB := hide BX
  clear BX
  go_wp2_with fail
  clear c0 c1 c2 y1
  generalize w.alloc (.cells #[.int .i64 x, .slice ao lo co, .slice (some ad) m cs] 30) = w1 at K1 HSZ HB ⊢
  obtain ⟨fb, hfb⟩ : ∃ b, w.heap.size = b := ⟨_, rfl⟩
  have HFB := hide hfb
  rw [hfb] at HSZ HB ⊢
  clear hfb
  obtain ⟨q, hq⟩ : ∃ b, w1.heap.size = b := ⟨_, rfl⟩
  have HW := hide hq
  rw [hq] at HSZ
  clear hq
  have O1 : Hid (w1.ownsRow q T2 1 (.slice none 0 0) 0 (ics (E.take 0))) := hide (by simpa [ics] using World.ownsRow_nil w1 q T2 1)
  have HB1 := HB
  have K2 := K1
  go_loopw [6, 7] (fun vo vk wr => ∃ k : Nat, k ≤ n ∧ vk = .int .i64 (k : Int) ∧ Hid (wr.ownsRow q T2 1 vo k (ics (E.take k))) ∧ Hid (wr.heap[fb]? = some (.cells #[.int .i64 x, .slice ao lo co, .slice (some ad) m cs] 30 (0, 0))) ∧ Hid (Keep w wr) ∧ Hid (q ≤ wr.heap.size)) (fun vo vk _ => n - (intOf vk).toNat)
  case atStart => exact ⟨0, Nat.zero_le _, rfl, O1, HB1, K2, hide (by rw [unhide HW]; exact Nat.le_refl _)⟩
  case round =>
    clear O1 HB1 K2 HB K1
    obtain ⟨k, hk, rfl, OW, HB, KW, QW⟩ := hrel
    obtain ⟨ao2, co2, rfl⟩ := own_l (unhide OW)
    obtain ⟨c0, c1, c2⟩ := fit_sz (unhide HB)
    by_cases hlt : k < n
    · have lk : (k : Int) < (n : Int) := by omega
      have hmore := unhide HE k hlt
      have hfq : fb < q := by have := unhide HSZ; omega
      by_cases hlast : k + 1 = n
      · have e1 : ((k : Int) == (n : Int) - 1) = true := by simp; omega
        have e2 : wrap64 ((n : Int) - 1) = (n : Int) - 1 := w64 (by omega) (by omega)
        rw [if_pos hlast] at hmore
        have HM := hide hmore
        have O4 := hide ((unhide OW).alloc (.cells #[.int .i64 x] T2))
        have B4 := hide (box_alloc (unhide HB) (.cells #[.int .i64 x] T2))
        have K4 := hide ((unhide KW).alloc (.cells #[.int .i64 x] T2))
        have t3 := new_v wr [.int .i64 x] T2
        have t5 : q ≤ (wr.alloc (.cells #[.int .i64 x] T2)).heap.size := by have := unhide QW; rw [World.size_alloc]; omega
        clear hmore hlast
        go_wp2_with (at_builtin; refine wpList_append_own _ rfl _ _ 39 rfl q T2 i0 _ 1 8 Try.underlying39 hi0 hz00 hz01 hz02 rfl (by decide) _ _ _ rfl (unhide O4) ⟨wr.heap.size, 0, none⟩ 1 1 [.int .i64 x] rfl rfl t3 (by simp [Value.oneCell']) (by unfold maxLen; omega) (by omega) t5 ?_; intro v7 w7 hown' hgrow hnil; have O7 := hide hown'; have B7 := hide (box_own (unhide B4) (unhide O4) hfq hgrow); have K7 := hide (Below.grown (unhide K4) hgrow (Below.size (unhide K4)) (fun k ek => by have h1 := ((unhide O4).lt k ek).1; have h2 := unhide HSZ; have h3 := unhide HFB; omega)); have Q7 := hide (Nat.le_trans t5 hgrow.size); obtain ⟨a7, e7, rfl⟩ := own_l hown'; clear hown' hgrow hnil)
        go_roundw
        case rel => exact ⟨k + 1, hlt, by go_num, hide (by rw [unhide HM, ics_app]; exact unhide O7), B7, K7, Q7⟩
        case measure => simp [intOf]; omega
      · have e1 : ((k : Int) == (n : Int) - 1) = false := by simp; omega
        have e2 : wrap64 ((n : Int) - 1) = (n : Int) - 1 := w64 (by omega) (by omega)
        rw [if_neg hlast] at hmore
        obtain ⟨ad3, rfl, x0⟩ := (unhide HU) (k + 1) (by omega)
        have x0 : wr.cell? ⟨ad3.block, ad3.off + (k + 1), none⟩ = some (.int .i64 (L.getD (k + 1) 0)) := by have h := kc (unhide KW) x0; simpa [Addr.add] using h
        obtain ⟨y, hy⟩ : ∃ y, L.getD (k + 1) 0 = y := ⟨_, rfl⟩
        rw [hy] at hmore x0
        have HM := hide hmore
        have O4 := hide ((unhide OW).alloc (.cells #[.int .i64 y] T2))
        have B4 := hide (box_alloc (unhide HB) (.cells #[.int .i64 y] T2))
        have K4 := hide ((unhide KW).alloc (.cells #[.int .i64 y] T2))
        have t3 := new_v wr [.int .i64 y] T2
        have t5 : q ≤ (wr.alloc (.cells #[.int .i64 y] T2)).heap.size := by have := unhide QW; rw [World.size_alloc]; omega
        have l1 : (k : Int) + 1 < (n : Int) := by omega
        have l0 : (0 : Int) ≤ (k : Int) + 1 := by omega
        clear hmore hy hlast
        go_wp2_with (at_builtin; refine wpList_append_own _ rfl _ _ 39 rfl q T2 i0 _ 1 8 Try.underlying39 hi0 hz00 hz01 hz02 rfl (by decide) _ _ _ rfl (unhide O4) ⟨wr.heap.size, 0, none⟩ 1 1 [.int .i64 y] rfl rfl t3 (by simp [Value.oneCell']) (by unfold maxLen; omega) (by omega) t5 ?_; intro v7 w7 hown' hgrow hnil; have O7 := hide hown'; have B7 := hide (box_own (unhide B4) (unhide O4) hfq hgrow); have K7 := hide (Below.grown (unhide K4) hgrow (Below.size (unhide K4)) (fun k ek => by have h1 := ((unhide O4).lt k ek).1; have h2 := unhide HSZ; have h3 := unhide HFB; omega)); have Q7 := hide (Nat.le_trans t5 hgrow.size); obtain ⟨a7, e7, rfl⟩ := own_l hown'; clear hown' hgrow hnil)
        go_roundw
        case rel => exact ⟨k + 1, hlt, by go_num, hide (by rw [unhide HM, ics_app]; exact unhide O7), B7, K7, Q7⟩
        case measure => simp [intOf]; omega
    · have lk : ¬ (k : Int) < (n : Int) := by omega
      obtain rfl : k = n := by omega
      go_wp2_with fail
      try go_ret
      exact (unhide HQ) _ _ _ (unhide KW) (unhide OW)
end Gp
end Go.Proofs.Ytakandlehneciaa
