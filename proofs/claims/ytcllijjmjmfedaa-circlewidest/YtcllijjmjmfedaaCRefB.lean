/- The document's answer for arcs: the arcs in form that have just some ticks. -/
import Derived.Test.YtcllijjmjmfedaaCRefA
namespace Go.Proofs.Ytcllijjmjmfedaa
open Go.RowKit Go.Shelf
attribute [local go_sem ↓] Go.wp_at_zero Go.wp_at_succ
set_option linter.unusedVariables false
set_option linter.unusedSimpArgs false
set_option maxRecDepth 10000
/-- the arcs that begin below i -/
def Fb (n i : Nat) (P : Int → Prop) (A : List Pr) : Prop := Rise A ∧ ∀ a, a ∈ A ↔ Arc n P a ∧ a.1 < i
theorem fb_zero (n : Nat) (P : Int → Prop) : Fb n 0 P [] := ⟨List.Pairwise.nil, fun a => ⟨fun h => by simp at h, fun h => by have := h.1.1; have := h.2; omega⟩⟩
theorem fb_skip {n i : Nat} {P : Int → Prop} {A : List Pr} (h : Fb n i P A) (hn : ¬ P i ∨ P ((i : Int) - 1)) : Fb n (i + 1) P A := by
  refine ⟨h.1, fun a => ?_⟩
  rw [h.2 a]
  constructor
  · rintro ⟨h1, h2⟩; exact ⟨h1, by omega⟩
  · rintro ⟨h1, h2⟩
    refine ⟨h1, ?_⟩
    apply Classical.byContradiction
    intro k
    have e : a.1 = i := by omega
    obtain ⟨_, _, b1, _, b2, _, b3⟩ := h1
    rw [e] at b2 b3
    rcases hn with hn | hn
    · have := b2 0 (by omega) (by omega)
      rw [Int.add_zero] at this
      exact hn this
    · exact b3 hn
theorem fb_take {n i : Nat} {P : Int → Prop} {A : List Pr} {m : Int} (h : Fb n i P A) (ha : Arc n P (i, m)) : Fb n (i + 1) P (A ++ [((i : Int), m)]) := by
  refine ⟨?_, fun a => ?_⟩
  · unfold Rise
    rw [List.pairwise_append]
    refine ⟨h.1, by simp, ?_⟩
    intro x hx y hy
    simp only [List.mem_singleton] at hy
    subst hy
    exact ((h.2 x).1 hx).2
  · constructor
    · intro hm
      rcases List.mem_append.1 hm with hm | hm
      · have := (h.2 a).1 hm
        exact ⟨this.1, by have := this.2; omega⟩
      · simp only [List.mem_singleton] at hm
        subst hm
        exact ⟨ha, by simp only; omega⟩
    · rintro ⟨h1, h2⟩
      by_cases k : a.1 < i
      · exact List.mem_append.2 (.inl ((h.2 a).2 ⟨h1, k⟩))
      · have e : a.1 = i := by omega
        obtain ⟨x, y⟩ := a
        simp only at e
        subst e
        rw [arc_len h1 ha]
        simp
theorem fb_len {n i : Nat} {P : Int → Prop} {A : List Pr} (h : Fb n i P A) : A.length ≤ i := by
  have := rise_len (c := i) A 0 h.1 fun a ha => by have := (h.2 a).1 ha; exact ⟨this.1.1, this.2⟩
  omega
theorem rs_lit (w : World) (x y : Int) (t : TypeId) (hx : In x) (hy : In y) : Rs (w.alloc (.cells #[.int .i64 x, .int .i64 y] t)) (.slice (some ⟨w.heap.size, 0, none⟩) 1 1) [(x, y)] := by
  refine ⟨_, 1, rfl, Nat.le_refl _, fun k hk => ⟨_, rfl, by simp, ?_, ?_, ?_⟩⟩
  all_goals (have e : k = 0 := by simp at hk; omega)
  all_goals subst e
  · exact ⟨hx, hy⟩
  · rw [add_plain]; simp [go_sem]
  · rw [add_plain]; simp [go_sem]
theorem full_of {n i : Nat} {P : Int → Prop} (hp : Per n P) (hi : i < n) (h : ∀ k' : Int, 0 ≤ k' → k' < n → P (i + k')) : Full n P := by
  intro t t0 t1
  by_cases hs : (i : Int) ≤ t
  · have := h (t - i) (by omega) (by omega)
    rw [show (i : Int) + (t - i) = t by omega] at this
    exact this
  · have := h (t - i + n) (by omega) (by omega)
    rw [show (i : Int) + (t - i + n) = t + n by omega, hp] at this
    exact this
theorem tick_at {n : Nat} {P : Int → Prop} (hp : Per n P) (h0 : 0 < n) (x : Int) (hx : 0 ≤ x) : ∃ j : Nat, j < n ∧ x.tmod n = j ∧ (P j ↔ P x) := by
  have b := em_bd (show (1 : Int) ≤ n by omega) x
  refine ⟨(x % n).toNat, by omega, ?_, ?_⟩
  · rw [Int.tmod_eq_emod_of_nonneg hx]; omega
  · rw [show (((x % (n : Int)).toNat : Nat) : Int) = x % n by omega]
    exact per_em hp x
theorem tick_im {k i m : Nat} {P : Int → Prop} (hp : Per k P) (hi : i < k) (hm : m < k) (hk : k ≤ 300) : ∃ (s : Int) (j : Nat), j < k ∧ s.tmod k = j ∧ (P j ↔ P ((i : Int) + m)) ∧ (i : Int) + m = s ∧ (j : Int) < (k : Int) := by
  obtain ⟨j, h1, h2, h3⟩ := tick_at hp (show 0 < k by omega) ((i : Int) + m) (by omega)
  exact ⟨_, j, h1, h2, h3, rfl, Int.ofNat_lt.2 h1⟩
/-- v holds the arcs in form of the ticks P of n -/
def Gf (w : World) (n : Nat) (P : Int → Prop) (w' : World) (v : Value) : Prop := ∃ M, Rs w' v M ∧ (n = 0 → M = []) ∧ (0 < n → FormOf n P M) ∧ LoB w.heap.size v ∧ Keep w w'
set_option maxHeartbeats 1000000 in
theorem rform_any (n : Nat) (hn3 : n ≤ 300) (v0 : Value) (P : Int → Prop) (hper : Per n P) (w : World) (hB : Bs w v0 n P) :
    Calls Try.prog 18 #[v0] w fun e w' => ∃ v, e = .returned v ∧ Gf w n P w' v := by
  obtain ⟨i0, hi, hz0, hz1, hz2⟩ := info_parts infoA
  obtain ⟨a, cap, rfl, hcap, hcell⟩ := hB
  have HC := hide hcell
  clear hcell
  go_enter Try.func18, Try.ntmps18
  go_wp2_with fail
  go_loop [4, 5] (fun vn vi => ∃ k : Nat, k ≤ n ∧ vi = .int .i64 k ∧ vn = .int .i64 (cnt P k)) (fun vn vi => n - (intOf vi).toNat)
  case atStart => exact ⟨0, Nat.zero_le _, rfl, rfl⟩
  case round =>
    obtain ⟨k, hk, rfl, rfl⟩ := hrel
    have hcb := cnt_bd P k
    by_cases hlt : k < n
    · obtain ⟨g, rfl, hg, b, hc, hbp⟩ := (unhide HC) k hlt
      have li : (k : Int) < (n : Int) := by omega
      by_cases hp : P k
      · have hb : b = true := hbp.2 hp
        subst hb
        have hy := cnt_yes hp
        have hw : wrap64 (cnt P k + 1) = cnt P k + 1 := wrap_in (by omega)
        have HY := hide hy
        clear hy hbp
        generalize cnt P k = q at *
        go_wp2_with fail
        go_round
        case rel => exact ⟨k + 1, by omega, by go_num, by rw [unhide HY]⟩
        case measure => simp [intOf]; omega
      · have hb : b = false := by
          cases b with
          | false => rfl
          | true => exact absurd (hbp.1 rfl) hp
        subst hb
        have HY := hide (cnt_no hp)
        clear hbp
        generalize cnt P k = q at *
        go_wp2_with fail
        go_round
        case rel => exact ⟨k + 1, by omega, by go_num, by rw [unhide HY]⟩
        case measure => simp [intOf]; omega
    · have hkn : k = n := by omega
      subst hkn
      have li : ¬ (k : Int) < (k : Int) := by omega
      have hfull := cnt_full (P := P) k
      by_cases hf : cnt P k = k ∧ 0 < k
      · have HF : Hid (FormOf k P [(0, (k : Int))]) := hide (.inl ⟨hfull.1 hf.1, rfl⟩)
        have hk0 : 0 < (k : Int) := by omega
        have he : ((k : Int) == (k : Int)) = true := by simp
        rw [hf.1]
        clear hfull hcb
        have HK : Hid (¬ k = 0) := hide (by omega)
        go_wp2_with fail
        go_ret
        exact ⟨_, rfl, _, rs_lit w 0 k _ (by unfold In; omega) (by unfold In; omega), fun h => absurd h (unhide HK), fun _ => unhide HF, (fun ad m cap e => by cases e; exact Nat.le_refl _), (Keep.refl w).alloc _⟩
      · have hnf : 0 < k → ¬ Full k P := fun h0 hF => hf ⟨hfull.2 hF, h0⟩
        by_cases hk0 : k = 0
        · subst hk0
          clear hfull hnf hf hper HC
          simp only [cnt]
          go_wp2_with fail
          refine wp_loop_rounds 1 ?_
          rw [rounds_succ]
          go_wp2_with fail
          go_ret
          exact ⟨_, rfl, [], rs_nil w, fun _ => rfl, fun h => absurd h (by omega), (fun ad m cap e => by cases e), Keep.refl w⟩
        · have hnf' := hnf (by omega)
          have hce : ¬ cnt P k = (k : Int) := fun h => hf ⟨h, by omega⟩
          have hce' : (cnt P k == (k : Int)) = false := by simpa using hce
          have HNF := hide hnf'
          have HPER := hide hper
          clear hfull hnf hf hnf' hper
          generalize cnt P k = q at *
          go_wp2_with fail
          go_loopw [6, 7] (fun vo vi wr => ∃ (i : Nat) (A : List Pr), i ≤ k ∧ vi = .int .i64 i ∧ Hid (Fb k i P A) ∧ wr.ownsRow w.heap.size 33 2 vo A.length (cl A) ∧ (∃ a1 cp, vo = .slice a1 A.length cp) ∧ Keep w wr) (fun vo vi _ => k - (intOf vi).toNat)
          case atStart => exact ⟨0, [], Nat.zero_le _, rfl, hide (fb_zero k P), World.ownsRow_nil _ _ _ _, ⟨none, 0, rfl⟩, Keep.refl _⟩
          case round =>
            obtain ⟨i, A, hi', rfl, HA, hrw, ⟨a1, cp, rfl⟩, hkw⟩ := hrel
            have hAl := fb_len (unhide HA)
            by_cases hlt : i < k
            · obtain ⟨g, rfl, hg, b, hc, hbp⟩ := (unhide HC) i hlt
              have hc' : wr.cell? ⟨g, i, none⟩ = some (.bool b) := by rw [Below.cell (p := ⟨g, i, none⟩) hkw hg]; exact hc
              have li' : (i : Int) < (k : Int) := by omega
              by_cases hp : P i
              · have hb : b = true := hbp.2 hp
                subst hb
                have hz : ((k : Int) == 0) = false := by simp; omega
                have hw1 : wrap64 ((i : Int) + k) = i + k := wrap_in (by omega)
                have hw2 : wrap64 ((i : Int) + k - 1) = i + k - 1 := wrap_in (by omega)
                obtain ⟨j, hj, hjt, hjp⟩ : ∃ j : Nat, j < k ∧ ((i : Int) + k - 1).tmod k = j ∧ (P j ↔ P ((i : Int) - 1)) := by
                  by_cases h0 : i = 0
                  · subst h0
                    refine ⟨k - 1, by omega, ?_, ?_⟩
                    · rw [Int.tmod_eq_emod_of_nonneg (by omega), em_one (by omega) (by omega)]; omega
                    · rw [← (unhide HPER) (((0 : Nat) : Int) - 1)]
                      rw [show (((k - 1 : Nat)) : Int) = ((0 : Nat) : Int) - 1 + k by omega]
                  · refine ⟨i - 1, by omega, ?_, ?_⟩
                    · rw [Int.tmod_eq_emod_of_nonneg (by omega), em_two (by omega) (by omega)]; omega
                    · rw [show (((i - 1 : Nat)) : Int) = (i : Int) - 1 by omega]
                obtain ⟨g', hg', _, b', hcj, hbj⟩ := (unhide HC) j hj
                injection hg' with hg'
                injection hg' with hg'
                subst hg'
                have hcj' : wr.cell? ⟨g, j, none⟩ = some (.bool b') := by rw [Below.cell (p := ⟨g, j, none⟩) hkw hg]; exact hcj
                have lj : (j : Int) < (k : Int) := Int.ofNat_lt.2 hj
                by_cases hq : P ((i : Int) - 1)
                · have hb' : b' = true := hbj.2 (hjp.2 hq)
                  subst hb'
                  have HN := hide (fb_skip (unhide HA) (.inr hq))
                  clear hc hcj hbp hbj hjp
                  go_wp2_with fail
                  go_roundw
                  case rel => clear hjt; exact ⟨i + 1, A, by omega, by go_num, HN, hrw, ⟨a1, cp, rfl⟩, hkw⟩
                  case measure => clear hjt; simp [intOf]; omega
                · have hb' : b' = false := by
                    cases b' with
                    | false => rfl
                    | true => exact absurd (hjp.1 (hbj.1 rfl)) hq
                  subst hb'
                  have HPQ := hide (⟨hp, hq⟩ : _ ∧ _)
                  clear hc hcj hbp hbj hjp hj
                  obtain ⟨bb, hbl⟩ : ∃ bb, A.length = bb := ⟨_, rfl⟩
                  rw [hbl] at hrw hAl ⊢
                  have HBL := hide hbl
                  clear hbl
                  go_wp2_with fail
                  clear hjt lj hcj' hc' hw1 hw2
                  go_loop [8] (fun vk => ∃ m : Nat, m ≤ k ∧ vk = .int .i64 m ∧ Hid (∀ k' : Int, 0 ≤ k' → k' < m → P (i + k'))) (fun vk => k - (intOf vk).toNat)
                  case atStart => exact ⟨0, Nat.zero_le _, rfl, hide fun k' a b => by omega⟩
                  case round =>
                    obtain ⟨m, hm, rfl, HM⟩ := hrel
                    have hmk : m < k := by
                      apply Classical.byContradiction
                      intro h
                      have : m = k := by omega
                      subst this
                      exact (unhide HNF) (full_of (unhide HPER) hlt (unhide HM))
                    obtain ⟨sx, j2, hj2, hjt2, hjp2, hw3, lj2⟩ := tick_im (unhide HPER) hlt hmk hn3
                    obtain ⟨g2, hg2, _, b2, hcj2, hbj2⟩ := (unhide HC) j2 hj2
                    injection hg2 with hg2
                    injection hg2 with hg2
                    subst hg2
                    have hcj2' : wr.cell? ⟨g, j2, none⟩ = some (.bool b2) := by rw [Below.cell (p := ⟨g, j2, none⟩) hkw hg]; exact hcj2
                    by_cases hq2 : P ((i : Int) + m)
                    · have hb2 : b2 = true := hbj2.2 (hjp2.2 hq2)
                      subst hb2
                      have HN : Hid (∀ k' : Int, 0 ≤ k' → k' < ((m + 1 : Nat) : Int) → P (i + k')) := by
                        intro k' h1 h2
                        by_cases e : k' = m
                        · rw [e]; exact hq2
                        · clear hjt2; exact (unhide HM) k' h1 (by omega)
                      clear hcj2 hbj2 hjp2
                      go_wp2_with fail
                      clear hjt2 hw3
                      go_round
                      case rel => exact ⟨m + 1, by omega, by go_num, HN⟩
                      case measure => simp [intOf]; omega
                    · have hb2 : b2 = false := by
                        cases b2 with
                        | false => rfl
                        | true => exact absurd (hjp2.1 (hbj2.1 rfl)) hq2
                      subst hb2
                      have HN : Hid (Fb k (i + 1) P (A ++ [((i : Int), (m : Int))])) := by
                        refine fb_take (unhide HA) ⟨by simp only; clear hjt2; omega, by simp only; clear hjt2; omega, ?_, by simp only; clear hjt2; omega, unhide HM, hq2, (unhide HPQ).2⟩
                        simp only
                        clear hjt2
                        apply Classical.byContradiction
                        intro h
                        have e : m = 0 := by omega
                        subst e
                        exact hq2 (by simpa using (unhide HPQ).1)
                      clear hcj2 hbj2 hjp2 hq2
                      go_wp2_with (at_builtin; refine wpList_append_own _ rfl _ _ 22 rfl w.heap.size 33 i0 (.agg #[.int .i64 0, .int .i64 0]) 2 16 Try.underlying22 hi hz0 hz1 hz2 rfl (by decide) _ _ _ rfl (hrw.alloc _) ⟨wr.heap.size, 0, none⟩ 1 1 [.int .i64 (i : Int), .int .i64 (m : Int)] rfl rfl (two_new _ _ _ _) (by simp [Value.oneCell']) (by clear hjt2; unfold maxLen; omega) (by clear hjt2; omega) (by clear hjt2; have := Below.size hkw; simp; omega) ?_; intro v' w1 hown' hgrow hnil; obtain ⟨g', cp', rfl⟩ := ownsRow_succ hown')
                      clear hjt2
                      go_roundw
                      case rel =>
                        refine ⟨i + 1, A ++ [((i : Int), (m : Int))], by omega, by go_num, HN, ?_, ⟨_, cp', by simp [unhide HBL]; rfl⟩, ?_⟩
                        · rw [cl_append]
                          simp only [List.length_append, List.length_cons, List.length_nil, unhide HBL]
                          exact hown'
                        · refine Below.grown (hkw.alloc _) hgrow (by have := Below.size hkw; simp; omega) (fun j ej => ?_)
                          exact (hrw.lt j ej).1
                      case measure => simp [intOf]; omega
              · have hb : b = false := by
                  cases b with
                  | false => rfl
                  | true => exact absurd (hbp.1 rfl) hp
                subst hb
                have HN := hide (fb_skip (unhide HA) (.inl hp))
                clear hc hbp
                go_wp2_with fail
                go_roundw
                case rel => exact ⟨i + 1, A, by omega, by go_num, HN, hrw, ⟨a1, cp, rfl⟩, hkw⟩
                case measure => simp [intOf]; omega
            · have hik : i = k := by omega
              have HE : Hid (FormOf k P A ∧ ∀ p, p ∈ A → InP p) := by
                have h := unhide HA
                rw [hik] at h
                refine ⟨.inr ⟨unhide HNF, h.1, fun a => ?_⟩, fun p hp => ?_⟩
                · rw [h.2 a]
                  exact ⟨fun x => x.1, fun x => ⟨x, x.2.1⟩⟩
                · have := ((h.2 p).1 hp).1
                  obtain ⟨b0, b1, b2, b3, _⟩ := this
                  unfold InP In
                  omega
              have li' : ¬ (i : Int) < (k : Int) := by omega
              have HRW := hide hrw
              clear hrw
              obtain ⟨bb, hbl⟩ : ∃ bb, A.length = bb := ⟨_, rfl⟩
              rw [hbl] at HRW ⊢
              have HBL := hide hbl
              clear hbl hAl
              go_wp2_with fail
              go_ret
              refine ⟨_, rfl, A, ?_, fun h => absurd h hk0, fun _ => (unhide HE).1, ?_, hkw⟩
              · exact rs_own (base := w.heap.size) (e := 33) (unhide HE).2 (by rw [unhide HBL]; exact unhide HRW)
              · intro ad m cap e
                rcases (unhide HRW).2 with ⟨h, _⟩ | ⟨g, cap', cur, h, hb, _⟩
                · have e2 := e.symm.trans h
                  cases e2
                · have e2 := e.symm.trans h
                  cases e2
                  exact hb
end Go.Proofs.Ytcllijjmjmfedaa
