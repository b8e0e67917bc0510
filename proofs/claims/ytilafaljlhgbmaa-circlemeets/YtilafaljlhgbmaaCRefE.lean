/- The document's answer for arcs: the ticks of both, of one alone, of none. -/
import Derived.Test.YtilafaljlhgbmaaCRefC
namespace Go.Proofs.Ytilafaljlhgbmaa
open Go.RowKit Go.Shelf
attribute [local go_sem ↓] Go.wp_at_zero Go.wp_at_succ
set_option linter.unusedVariables false
set_option linter.unusedSimpArgs false
set_option maxRecDepth 10000
open Classical in
/-- the first k bits of the ticks Q -/
noncomputable def bl (Q : Int → Prop) (k : Nat) : List Value := (List.range k).map fun j : Nat => .bool (decide (Q (j : Int)))
theorem bl_len (Q : Int → Prop) (k : Nat) : (bl Q k).length = k := by simp [bl]
open Classical in
theorem bl_snoc (Q : Int → Prop) (k : Nat) : bl Q (k + 1) = bl Q k ++ [.bool (decide (Q k))] := by simp [bl, List.range_succ]
theorem bnot {b : Bool} {p : Prop} (h : b = true ↔ p) : (!b) = true ↔ ¬ p := by
  cases b with
  | false => exact ⟨fun _ k => (by have := h.2 k; cases this), fun _ => rfl⟩
  | true => exact ⟨fun k => (by cases k), fun k => absurd (h.1 rfl) k⟩
theorem bl_yes {Q : Int → Prop} {k : Nat} (b : Bool) (h : b = true ↔ Q k) : bl Q (k + 1) = bl Q k ++ [.bool b] := by
  rw [bl_snoc]
  congr 2
  by_cases hq : Q k
  · simp [hq, h.2 hq]
  · cases b with
    | false => simp [hq]
    | true => exact absurd (h.1 rfl) hq
theorem bs_own {w : World} {base n : Nat} {e : TypeId} {v : Value} {Q : Int → Prop} (h : w.ownsRow base e 1 v n (bl Q n)) : Bs w v n Q := by
  obtain ⟨_, h⟩ := h
  rcases h with ⟨rfl, h0⟩ | ⟨g, cap, cur, rfl, hb, hg, hc, hm, hs, ht⟩
  · subst h0; exact bs_nil w Q
  · refine ⟨_, cap, rfl, hc, fun j hj => ⟨g, rfl, (Array.getElem?_eq_some_iff.1 hg).1, ?_⟩⟩
    have h0 : (bl Q n)[j]? = some (.bool (@decide (Q j) (Classical.propDecidable _))) := by
      simp [bl, hj]
    rw [← ht, List.getElem?_take_of_lt (by omega)] at h0
    refine ⟨@decide (Q j) (Classical.propDecidable _), ?_, @decide_eq_true_iff _ (Classical.propDecidable _)⟩
    simp only [World.cell?, hg]
    simpa using h0
theorem one_new (w : World) (x : Value) (t : TypeId) : ∀ j u, [x][j]? = some u → (w.alloc (.cells #[x] t)).cell? ((⟨w.heap.size, 0, none⟩ : Addr).add j) = some u := cell_one_new w x t
set_option maxHeartbeats 2000000 in
theorem rmeet_any (c : Int) (hf : Few c) (va vb : Value) (A B : List Pr) (w : World) (hla : A.length ≤ 50000) (hlb : B.length ≤ 50000) (hA : Rs w va A) (hB : Rs w vb B) :
    Calls Try.prog 25 #[.int .i64 c, va, vb] w fun e w' => ∃ v, e = .returned v ∧ Fr w c (fun t => Ta c A t ∧ Ta c B t) w' v := by
  have T1 := hide (ticks_any c hf va A w hla hA)
  have T2 : Hid (∀ w', Keep w w' → Calls Try.prog 38 #[.int .i64 c, vb] w' fun e w'' => ∃ v, e = .returned v ∧ Tb w' c (Ta c B) w'' v) := hide fun w' hk => ticks_any c hf vb B w' hlb (hB.keep hk)
  have T3 : Hid (∀ w' v, Tb w c (fun t => Ta c A t ∧ Ta c B t) w' v → Calls Try.prog 37 #[v] w' fun e w'' => ∃ v, e = .returned v ∧ Fr w c (fun t => Ta c A t ∧ Ta c B t) w'' v) := hide fun w' v h => formb_any c v _ (per_and (ta_per c A) (ta_per c B)) w w' h
  obtain ⟨a, cap, hv⟩ := rs_slice hA
  obtain ⟨a', cap', hv'⟩ := rs_slice hB
  subst hv hv'
  clear hA hB
  obtain ⟨i0, hi, hz0, hz1, hz2⟩ := info_parts infoB
  obtain ⟨Q, hQ⟩ : ∃ Q : Int → Prop, Q = fun t => Ta c A t ∧ Ta c B t := ⟨_, rfl⟩
  obtain ⟨P, hP⟩ : ∃ P : Int → Prop, P = Ta c A := ⟨_, rfl⟩
  obtain ⟨P', hP'⟩ : ∃ P' : Int → Prop, P' = Ta c B := ⟨_, rfl⟩
  have HQ : Hid (∀ t, Q t ↔ P t ∧ P' t) := hide fun t => by rw [hQ, hP, hP']
  rw [← hQ] at T3 ⊢
  rw [← hP] at T1
  rw [← hP'] at T2
  clear hQ hP hP'
  go_enter Try.func25, Try.ntmps25
  go_wp2_with fail
  refine (unhide T1).mono ?_
  rintro e w0 ⟨v1, rfl, n, hn, hb1, hk1⟩
  have HB1 := hide hb1
  have HK1 := hide hk1
  have HNN := hide hn
  obtain ⟨b1, cp1, hv1, _⟩ := hb1
  subst hv1
  clear hk1 hn
  go_wp2_with fail
  refine (unhide T2 _ (unhide HK1)).mono ?_
  rintro e w1 ⟨v2, rfl, m, hm, hb2, hk2⟩
  have hmn : m = n := by
    have h1 := unhide HNN
    unfold Nn at h1 hm
    rcases h1 with h1 | h1 <;> rcases hm with h2 | h2
    · omega
    · exact absurd h1.1 h2.1
    · exact absurd h2.1 h1.1
    · omega
  subst hmn
  have hn3 : m ≤ 300 := by have h := unhide HNN; rcases h with h | h; exact h.2.2; have := h.2; omega
  have HB1' := hide ((unhide HB1).keep hk2)
  have HK := hide ((unhide HK1).trans hk2)
  obtain ⟨x1, cx1, hx1, _, hcell1⟩ := unhide HB1'
  injection hx1 with e1 e2 e3
  subst e1
  obtain ⟨b2, cp2, rfl, _, hcell2⟩ := hb2
  have HC1 := hide hcell1
  have HC2 := hide hcell2
  clear hcell1 hcell2 hk2 hm HB1 HB1' HK1 T1 T2 e2 e3
  go_wp2_with fail
  go_loopw [9, 10] (fun vo vi wr => ∃ k : Nat, k ≤ m ∧ vi = .int .i64 k ∧ wr.ownsRow w1.heap.size 4 1 vo k (bl Q k) ∧ (∃ a1 cp, vo = .slice a1 k cp) ∧ Keep w1 wr) (fun vo vi _ => m - (intOf vi).toNat)
  case atStart => exact ⟨0, Nat.zero_le _, rfl, by show w1.ownsRow _ _ _ _ 0 []; exact World.ownsRow_nil _ _ _ _, ⟨none, 0, rfl⟩, Keep.refl _⟩
  case round =>
    obtain ⟨k, hk, rfl, hrw, ⟨ao, cpo, rfl⟩, hkw⟩ := hrel
    by_cases hlt : k < m
    · obtain ⟨g, rfl, hg, b, hc, hbp⟩ := (unhide HC1) k hlt
      obtain ⟨g2, rfl, hg2, b', hc2, hbp2⟩ := (unhide HC2) k hlt
      have hcw : wr.cell? ⟨g, k, none⟩ = some (.bool b) := by rw [Below.cell (p := ⟨g, k, none⟩) hkw hg]; exact hc
      have hcw2 : wr.cell? ⟨g2, k, none⟩ = some (.bool b') := by rw [Below.cell (p := ⟨g2, k, none⟩) hkw hg2]; exact hc2
      have li : (k : Int) < (m : Int) := by omega
      by_cases hp : P k
      · have hb : b = true := hbp.2 hp
        subst hb
        have HN : Hid (bl Q (k + 1) = bl Q k ++ [.bool b']) := hide (bl_yes _ (by rw [(unhide HQ) k]; exact ⟨fun h => ⟨hp, hbp2.1 h⟩, fun h => hbp2.2 h.2⟩))
        clear hbp hbp2 hc hc2
        go_wp2_with (at_builtin; refine wpList_append_own _ rfl _ _ 56 rfl w1.heap.size 4 i0 (.bool false) 1 1 Try.underlying56 hi hz0 hz1 hz2 rfl (by decide) _ _ _ rfl (hrw.alloc _) ⟨wr.heap.size, 0, none⟩ 1 1 [.bool b'] rfl rfl (one_new _ _ _) (by simp [Value.oneCell']) (by unfold maxLen; omega) (by omega) (by have := Below.size hkw; simp; omega) ?_; intro v' w2 hown' hgrow hnil; obtain ⟨g', cp', rfl⟩ := ownsRow_succ hown')
        go_roundw
        case rel =>
          refine ⟨k + 1, by omega, by go_num, ?_, ⟨_, cp', rfl⟩, ?_⟩
          · rw [unhide HN]; exact hown'
          · exact Below.grown (hkw.alloc _) hgrow (by have := Below.size hkw; simp; omega) (fun j ej => (hrw.lt j ej).1)
        case measure => simp [intOf]; omega
      · have hb : b = false := by
          cases b with
          | false => rfl
          | true => exact absurd (hbp.1 rfl) hp
        subst hb
        have HN : Hid (bl Q (k + 1) = bl Q k ++ [.bool false]) := hide (bl_yes _ (by rw [(unhide HQ) k]; exact ⟨fun h => (by cases h), fun h => absurd h.1 hp⟩))
        clear hbp hbp2 hc hc2
        go_wp2_with (at_builtin; refine wpList_append_own _ rfl _ _ 56 rfl w1.heap.size 4 i0 (.bool false) 1 1 Try.underlying56 hi hz0 hz1 hz2 rfl (by decide) _ _ _ rfl (hrw.alloc _) ⟨wr.heap.size, 0, none⟩ 1 1 [.bool false] rfl rfl (one_new _ _ _) (by simp [Value.oneCell']) (by unfold maxLen; omega) (by omega) (by have := Below.size hkw; simp; omega) ?_; intro v' w2 hown' hgrow hnil; obtain ⟨g', cp', rfl⟩ := ownsRow_succ hown')
        go_roundw
        case rel =>
          refine ⟨k + 1, by omega, by go_num, ?_, ⟨_, cp', rfl⟩, ?_⟩
          · rw [unhide HN]; exact hown'
          · exact Below.grown (hkw.alloc _) hgrow (by have := Below.size hkw; simp; omega) (fun j ej => (hrw.lt j ej).1)
        case measure => simp [intOf]; omega
    · have hkm : k = m := by omega
      subst hkm
      have li : ¬ (k : Int) < (k : Int) := by omega
      have HT : Hid (Tb w c Q wr (.slice ao k cpo)) := hide ⟨k, unhide HNN, bs_own hrw, (unhide HK).trans hkw⟩
      clear hrw
      go_wp2_with fail
      refine (unhide T3 _ _ (unhide HT)).mono ?_
      rintro e w3 ⟨v3, rfl, h3⟩
      have H3 := hide h3
      clear h3
      go_wp2_with fail
      go_ret
      exact ⟨v3, rfl, unhide H3⟩
set_option maxHeartbeats 2000000 in
theorem rless_any (c : Int) (hf : Few c) (va vb : Value) (A B : List Pr) (w : World) (hla : A.length ≤ 50000) (hlb : B.length ≤ 50000) (hA : Rs w va A) (hB : Rs w vb B) :
    Calls Try.prog 27 #[.int .i64 c, va, vb] w fun e w' => ∃ v, e = .returned v ∧ Fr w c (fun t => Ta c A t ∧ ¬ Ta c B t) w' v := by
  have T1 := hide (ticks_any c hf va A w hla hA)
  have T2 : Hid (∀ w', Keep w w' → Calls Try.prog 38 #[.int .i64 c, vb] w' fun e w'' => ∃ v, e = .returned v ∧ Tb w' c (Ta c B) w'' v) := hide fun w' hk => ticks_any c hf vb B w' hlb (hB.keep hk)
  have T3 : Hid (∀ w' v, Tb w c (fun t => Ta c A t ∧ ¬ Ta c B t) w' v → Calls Try.prog 37 #[v] w' fun e w'' => ∃ v, e = .returned v ∧ Fr w c (fun t => Ta c A t ∧ ¬ Ta c B t) w'' v) := hide fun w' v h => formb_any c v _ (per_and (ta_per c A) (per_not (ta_per c B))) w w' h
  obtain ⟨a, cap, hv⟩ := rs_slice hA
  obtain ⟨a', cap', hv'⟩ := rs_slice hB
  subst hv hv'
  clear hA hB
  obtain ⟨i0, hi, hz0, hz1, hz2⟩ := info_parts infoB
  obtain ⟨Q, hQ⟩ : ∃ Q : Int → Prop, Q = fun t => Ta c A t ∧ ¬ Ta c B t := ⟨_, rfl⟩
  obtain ⟨P, hP⟩ : ∃ P : Int → Prop, P = Ta c A := ⟨_, rfl⟩
  obtain ⟨P', hP'⟩ : ∃ P' : Int → Prop, P' = Ta c B := ⟨_, rfl⟩
  have HQ : Hid (∀ t, Q t ↔ P t ∧ ¬ P' t) := hide fun t => by rw [hQ, hP, hP']
  rw [← hQ] at T3 ⊢
  rw [← hP] at T1
  rw [← hP'] at T2
  clear hQ hP hP'
  go_enter Try.func27, Try.ntmps27
  go_wp2_with fail
  refine (unhide T1).mono ?_
  rintro e w0 ⟨v1, rfl, n, hn, hb1, hk1⟩
  have HB1 := hide hb1
  have HK1 := hide hk1
  have HNN := hide hn
  obtain ⟨b1, cp1, hv1, _⟩ := hb1
  subst hv1
  clear hk1 hn
  go_wp2_with fail
  refine (unhide T2 _ (unhide HK1)).mono ?_
  rintro e w1 ⟨v2, rfl, m, hm, hb2, hk2⟩
  have hmn : m = n := by
    have h1 := unhide HNN
    unfold Nn at h1 hm
    rcases h1 with h1 | h1 <;> rcases hm with h2 | h2
    · omega
    · exact absurd h1.1 h2.1
    · exact absurd h2.1 h1.1
    · omega
  subst hmn
  have hn3 : m ≤ 300 := by have h := unhide HNN; rcases h with h | h; exact h.2.2; have := h.2; omega
  have HB1' := hide ((unhide HB1).keep hk2)
  have HK := hide ((unhide HK1).trans hk2)
  obtain ⟨x1, cx1, hx1, _, hcell1⟩ := unhide HB1'
  injection hx1 with e1 e2 e3
  subst e1
  obtain ⟨b2, cp2, rfl, _, hcell2⟩ := hb2
  have HC1 := hide hcell1
  have HC2 := hide hcell2
  clear hcell1 hcell2 hk2 hm HB1 HB1' HK1 T1 T2 e2 e3
  go_wp2_with fail
  go_loopw [9, 10] (fun vo vi wr => ∃ k : Nat, k ≤ m ∧ vi = .int .i64 k ∧ wr.ownsRow w1.heap.size 4 1 vo k (bl Q k) ∧ (∃ a1 cp, vo = .slice a1 k cp) ∧ Keep w1 wr) (fun vo vi _ => m - (intOf vi).toNat)
  case atStart => exact ⟨0, Nat.zero_le _, rfl, by show w1.ownsRow _ _ _ _ 0 []; exact World.ownsRow_nil _ _ _ _, ⟨none, 0, rfl⟩, Keep.refl _⟩
  case round =>
    obtain ⟨k, hk, rfl, hrw, ⟨ao, cpo, rfl⟩, hkw⟩ := hrel
    by_cases hlt : k < m
    · obtain ⟨g, rfl, hg, b, hc, hbp⟩ := (unhide HC1) k hlt
      obtain ⟨g2, rfl, hg2, b', hc2, hbp2⟩ := (unhide HC2) k hlt
      have hcw : wr.cell? ⟨g, k, none⟩ = some (.bool b) := by rw [Below.cell (p := ⟨g, k, none⟩) hkw hg]; exact hc
      have hcw2 : wr.cell? ⟨g2, k, none⟩ = some (.bool b') := by rw [Below.cell (p := ⟨g2, k, none⟩) hkw hg2]; exact hc2
      have li : (k : Int) < (m : Int) := by omega
      by_cases hp : P k
      · have hb : b = true := hbp.2 hp
        subst hb
        have HN : Hid (bl Q (k + 1) = bl Q k ++ [.bool (!b')]) := hide (bl_yes _ (by rw [(unhide HQ) k]; exact ⟨fun h => ⟨hp, (bnot hbp2).1 h⟩, fun h => (bnot hbp2).2 h.2⟩))
        clear hbp hbp2 hc hc2
        go_wp2_with (at_builtin; refine wpList_append_own _ rfl _ _ 56 rfl w1.heap.size 4 i0 (.bool false) 1 1 Try.underlying56 hi hz0 hz1 hz2 rfl (by decide) _ _ _ rfl (hrw.alloc _) ⟨wr.heap.size, 0, none⟩ 1 1 [.bool (!b')] rfl rfl (one_new _ _ _) (by simp [Value.oneCell']) (by unfold maxLen; omega) (by omega) (by have := Below.size hkw; simp; omega) ?_; intro v' w2 hown' hgrow hnil; obtain ⟨g', cp', rfl⟩ := ownsRow_succ hown')
        go_roundw
        case rel =>
          refine ⟨k + 1, by omega, by go_num, ?_, ⟨_, cp', rfl⟩, ?_⟩
          · rw [unhide HN]; exact hown'
          · exact Below.grown (hkw.alloc _) hgrow (by have := Below.size hkw; simp; omega) (fun j ej => (hrw.lt j ej).1)
        case measure => simp [intOf]; omega
      · have hb : b = false := by
          cases b with
          | false => rfl
          | true => exact absurd (hbp.1 rfl) hp
        subst hb
        have HN : Hid (bl Q (k + 1) = bl Q k ++ [.bool false]) := hide (bl_yes _ (by rw [(unhide HQ) k]; exact ⟨fun h => (by cases h), fun h => absurd h.1 hp⟩))
        clear hbp hbp2 hc hc2
        go_wp2_with (at_builtin; refine wpList_append_own _ rfl _ _ 56 rfl w1.heap.size 4 i0 (.bool false) 1 1 Try.underlying56 hi hz0 hz1 hz2 rfl (by decide) _ _ _ rfl (hrw.alloc _) ⟨wr.heap.size, 0, none⟩ 1 1 [.bool false] rfl rfl (one_new _ _ _) (by simp [Value.oneCell']) (by unfold maxLen; omega) (by omega) (by have := Below.size hkw; simp; omega) ?_; intro v' w2 hown' hgrow hnil; obtain ⟨g', cp', rfl⟩ := ownsRow_succ hown')
        go_roundw
        case rel =>
          refine ⟨k + 1, by omega, by go_num, ?_, ⟨_, cp', rfl⟩, ?_⟩
          · rw [unhide HN]; exact hown'
          · exact Below.grown (hkw.alloc _) hgrow (by have := Below.size hkw; simp; omega) (fun j ej => (hrw.lt j ej).1)
        case measure => simp [intOf]; omega
    · have hkm : k = m := by omega
      subst hkm
      have li : ¬ (k : Int) < (k : Int) := by omega
      have HT : Hid (Tb w c Q wr (.slice ao k cpo)) := hide ⟨k, unhide HNN, bs_own hrw, (unhide HK).trans hkw⟩
      clear hrw
      go_wp2_with fail
      refine (unhide T3 _ _ (unhide HT)).mono ?_
      rintro e w3 ⟨v3, rfl, h3⟩
      have H3 := hide h3
      clear h3
      go_wp2_with fail
      go_ret
      exact ⟨v3, rfl, unhide H3⟩
set_option maxHeartbeats 2000000 in
theorem rrest_any (c : Int) (hf : Few c) (va : Value) (A : List Pr) (w : World) (hla : A.length ≤ 50000) (hA : Rs w va A) :
    Calls Try.prog 29 #[.int .i64 c, va] w fun e w' => ∃ v, e = .returned v ∧ Fr w c (fun t => ¬ Ta c A t) w' v := by
  have T1 := hide (ticks_any c hf va A w hla hA)
  have T3 : Hid (∀ w' v, Tb w c (fun t => ¬ Ta c A t) w' v → Calls Try.prog 37 #[v] w' fun e w'' => ∃ v, e = .returned v ∧ Fr w c (fun t => ¬ Ta c A t) w'' v) := hide fun w' v h => formb_any c v _ (per_not (ta_per c A)) w w' h
  obtain ⟨a, cap, hv⟩ := rs_slice hA
  subst hv
  clear hA
  obtain ⟨i0, hi, hz0, hz1, hz2⟩ := info_parts infoB
  obtain ⟨Q, hQ⟩ : ∃ Q : Int → Prop, Q = fun t => ¬ Ta c A t := ⟨_, rfl⟩
  obtain ⟨P, hP⟩ : ∃ P : Int → Prop, P = Ta c A := ⟨_, rfl⟩
  have HQ : Hid (∀ t, Q t ↔ ¬ P t) := hide fun t => by rw [hQ, hP]
  rw [← hQ] at T3 ⊢
  rw [← hP] at T1
  clear hQ hP
  go_enter Try.func29, Try.ntmps29
  go_wp2_with fail
  refine (unhide T1).mono ?_
  rintro e w1 ⟨v1, rfl, m, hn, hb1, hk1⟩
  have HK := hide hk1
  have HNN := hide hn
  have hn3 : m ≤ 300 := by have h := unhide HNN; rcases h with h | h; exact h.2.2; have := h.2; omega
  obtain ⟨x1, cx1, rfl, _, hcell1⟩ := hb1
  have HC1 := hide hcell1
  clear hk1 hn hcell1 T1
  go_wp2_with fail
  go_loopw [6, 7] (fun vo vi wr => ∃ k : Nat, k ≤ m ∧ vi = .int .i64 k ∧ wr.ownsRow w1.heap.size 4 1 vo k (bl Q k) ∧ (∃ a1 cp, vo = .slice a1 k cp) ∧ Keep w1 wr) (fun vo vi _ => m - (intOf vi).toNat)
  case atStart => exact ⟨0, Nat.zero_le _, rfl, by show w1.ownsRow _ _ _ _ 0 []; exact World.ownsRow_nil _ _ _ _, ⟨none, 0, rfl⟩, Keep.refl _⟩
  case round =>
    obtain ⟨k, hk, rfl, hrw, ⟨ao, cpo, rfl⟩, hkw⟩ := hrel
    by_cases hlt : k < m
    · obtain ⟨g, rfl, hg, b, hc, hbp⟩ := (unhide HC1) k hlt
      have hcw : wr.cell? ⟨g, k, none⟩ = some (.bool b) := by rw [Below.cell (p := ⟨g, k, none⟩) hkw hg]; exact hc
      have li : (k : Int) < (m : Int) := by omega
      have HN : Hid (bl Q (k + 1) = bl Q k ++ [.bool (!b)]) := hide (bl_yes _ (by rw [(unhide HQ) k]; exact bnot hbp))
      clear hbp hc
      go_wp2_with (at_builtin; refine wpList_append_own _ rfl _ _ 56 rfl w1.heap.size 4 i0 (.bool false) 1 1 Try.underlying56 hi hz0 hz1 hz2 rfl (by decide) _ _ _ rfl (hrw.alloc _) ⟨wr.heap.size, 0, none⟩ 1 1 [.bool (!b)] rfl rfl (one_new _ _ _) (by simp [Value.oneCell']) (by unfold maxLen; omega) (by omega) (by have := Below.size hkw; simp; omega) ?_; intro v' w2 hown' hgrow hnil; obtain ⟨g', cp', rfl⟩ := ownsRow_succ hown')
      go_roundw
      case rel =>
        refine ⟨k + 1, by omega, by go_num, ?_, ⟨_, cp', rfl⟩, ?_⟩
        · rw [unhide HN]; exact hown'
        · exact Below.grown (hkw.alloc _) hgrow (by have := Below.size hkw; simp; omega) (fun j ej => (hrw.lt j ej).1)
      case measure => simp [intOf]; omega
    · have hkm : k = m := by omega
      subst hkm
      have li : ¬ (k : Int) < (k : Int) := by omega
      have HT : Hid (Tb w c Q wr (.slice ao k cpo)) := hide ⟨k, unhide HNN, bs_own hrw, (unhide HK).trans hkw⟩
      clear hrw
      go_wp2_with fail
      refine (unhide T3 _ _ (unhide HT)).mono ?_
      rintro e w3 ⟨v3, rfl, h3⟩
      have H3 := hide h3
      clear h3
      go_wp2_with fail
      go_ret
      exact ⟨v3, rfl, unhide H3⟩
end Go.Proofs.Ytilafaljlhgbmaa
