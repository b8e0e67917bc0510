/- The first longest of arcs in form: plain facts. No program is met here. -/
import Derived.Test.YtcllijjmjmfedaaCSetC
namespace Go.Proofs.Ytcllijjmjmfedaa
set_option linter.unusedVariables false
set_option linter.unusedSimpArgs false
theorem wd_go : ∀ (l : List Pr) (b : Pr), Rise l → (∀ p, p ∈ l → b.1 ≤ p.1) → ∀ r, l.foldl (fun b a => if b.2 < a.2 then a else b) b = r →
    (r = b ∨ r ∈ l) ∧ b.2 ≤ r.2 ∧ (b.2 = r.2 → r = b) ∧ ∀ p, p ∈ l → p.2 ≤ r.2 ∧ (p.2 = r.2 → r.1 ≤ p.1)
  | [], b, _, _, r, hr => by
    simp only [List.foldl_nil] at hr
    subst hr
    exact ⟨.inl rfl, Int.le_refl _, fun _ => rfl, fun p hp => by cases hp⟩
  | p :: l, b, hs, hb, r, hr => by
    unfold Rise at hs
    rw [List.pairwise_cons] at hs
    simp only [List.foldl_cons] at hr
    by_cases h : b.2 < p.2
    · rw [if_pos h] at hr
      obtain ⟨i1, i2, i3, i4⟩ := wd_go l p hs.2 (fun q hq => Int.le_of_lt (hs.1 q hq)) r hr
      refine ⟨.inr ?_, by omega, fun e => by omega, fun q hq => ?_⟩
      · rcases i1 with e | e
        · rw [e]; exact List.mem_cons_self
        · exact List.mem_cons_of_mem _ e
      · rcases List.mem_cons.1 hq with rfl | hq
        · refine ⟨i2, fun e => ?_⟩
          rw [i3 e]
          exact Int.le_refl _
        · exact i4 q hq
    · rw [if_neg h] at hr
      obtain ⟨i1, i2, i3, i4⟩ := wd_go l b hs.2 (fun q hq => hb q (List.mem_cons_of_mem _ hq)) r hr
      refine ⟨?_, i2, i3, fun q hq => ?_⟩
      · rcases i1 with e | e
        · exact .inl e
        · exact .inr (List.mem_cons_of_mem _ e)
      · rcases List.mem_cons.1 hq with rfl | hq
        · refine ⟨by omega, fun e => ?_⟩
          rw [i3 (by omega)]
          exact hb q List.mem_cons_self
        · exact i4 q hq
theorem fo_rise {c : Int} {P : Int → Prop} {M : List Pr} (h : Fo c P M) : Rise M ∧ ∀ p, p ∈ M → 0 ≤ p.1 ∧ 1 ≤ p.2 := by
  rcases h with ⟨_, rfl⟩ | ⟨hc, ⟨_, rfl⟩ | ⟨_, hr, hm⟩⟩
  · exact ⟨List.Pairwise.nil, fun p hp => by cases hp⟩
  · refine ⟨by unfold Rise; simp, fun p hp => ?_⟩
    rw [List.mem_singleton] at hp
    subst hp
    exact ⟨Int.le_refl _, hc.1⟩
  · refine ⟨hr, fun p hp => ?_⟩
    have := (hm p).1 hp
    exact ⟨this.1, this.2.2.1⟩
theorem wd_all {c : Int} {P : Int → Prop} {M : List Pr} (h : Fo c P M) : 0 ≤ (wd M).2 ∧ ∀ p, p ∈ M → p.2 ≤ (wd M).2 ∧ (p.2 = (wd M).2 → (wd M).1 ≤ p.1) := by
  obtain ⟨hr, hm⟩ := fo_rise h
  obtain ⟨_, i2, _, i4⟩ := wd_go M (0, 0) hr (fun p hp => (hm p hp).1) (wd M) rfl
  exact ⟨i2, i4⟩
theorem wd_in {c : Int} {P : Int → Prop} {M : List Pr} (h : Fo c P M) : (M = [] ∧ wd M = (0, 0)) ∨ wd M ∈ M := by
  obtain ⟨hr, hm⟩ := fo_rise h
  obtain ⟨i1, _, _, i4⟩ := wd_go M (0, 0) hr (fun p hp => (hm p hp).1) (wd M) rfl
  cases M with
  | nil => exact .inl ⟨rfl, rfl⟩
  | cons p M =>
    refine .inr ?_
    rcases i1 with e | e
    · have h1 := (hm p List.mem_cons_self).2
      have h2 := (i4 p List.mem_cons_self).1
      rw [e] at h2
      simp only at h2
      omega
    · exact e
theorem wd_run {c : Int} {Q : Int → Prop} {M : List Pr} (hp : Per c Q) (hc : Cyc c) (h : Fo c Q M) {x n : Int} (hn : 1 ≤ n) (hn2 : n ≤ c) (hq : ∀ k, 0 ≤ k → k < n → Q (x + k)) : n ≤ (wd M).2 := by
  have hall := wd_all h
  rcases h with ⟨k, _⟩ | ⟨_, ⟨_, rfl⟩ | ⟨hf, hr, hm⟩⟩
  · exact absurd hc k
  · have := (hall.2 (0, c) (by simp)).1
    simp only at this
    omega
  · have hx := em_bd hc.1 x
    have h0 := hq 0 (Int.le_refl _) (by omega)
    rw [show x + 0 = x by omega, ← per_em hp x] at h0
    obtain ⟨a, ha, hd⟩ := arc_ex hp hc.1 hf hx.1 hx.2 h0
    have hle := (hall.2 a ((hm a).2 ha)).1
    rw [em_sub'] at hd
    have hz := em_bd hc.1 (x - a.1)
    have hdm := Int.emod_add_mul_ediv (x - a.1) c
    apply Int.le_trans _ hle
    apply Int.not_lt.1
    intro hlt
    have h1 := hq (a.2 - (x - a.1) % c) (by omega) (by omega)
    rw [show x + (a.2 - (x - a.1) % c) = (a.1 + a.2) + c * ((x - a.1) / c) by omega, ← per_em hp, Int.add_mul_emod_self_left, per_em hp] at h1
    exact ha.2.2.2.2.2.1 h1
theorem wd_more {c : Int} {L : List Pr} {a : Pr} {M N : List Pr} (h : Fo c (Ta c L) M) (k : Fo c (Ta c (L ++ [a])) N) : (wd M).2 ≤ (wd N).2 := by
  have h0 := (wd_all k).1
  rcases wd_in h with ⟨_, e⟩ | e
  · rw [e]; exact h0
  · have sub : ∀ t, Ta c L t → Ta c (L ++ [a]) t := fun t ⟨b, hb, hi⟩ => ⟨b, List.mem_append_left _ hb, hi⟩
    generalize wd M = b at *
    rcases h with ⟨_, rfl⟩ | ⟨hc, ⟨hf, rfl⟩ | ⟨_, _, hm⟩⟩
    · cases e
    · rw [List.mem_singleton] at e
      subst e
      exact wd_run (ta_per c _) hc k (x := 0) hc.1 (Int.le_refl _) fun j j0 j1 => by rw [Int.zero_add]; exact sub _ (hf j j0 j1)
    · obtain ⟨_, _, h3, h4, h5, _⟩ := (hm b).1 e
      exact wd_run (ta_per c _) hc k (x := b.1) h3 (by omega) fun j j0 j1 => sub _ (h5 j j0 j1)
theorem wd_nm {c : Int} {L : List Pr} {a : Pr} {N : List Pr} (k : Fo c (Ta c (L ++ [a])) N) : (nm c a).2 ≤ (wd N).2 := by
  have h0 := (wd_all k).1
  have sub : ∀ t, Ia c a t → Ta c (L ++ [a]) t := fun t hi => ⟨a, by simp, hi⟩
  unfold nm
  by_cases h : ¬ Cyc c ∨ a.2 < 1
  · rw [if_pos h]; exact h0
  · rw [if_neg h]
    have hc : Cyc c := Classical.not_not.1 fun e => h (.inl e)
    have ha : 1 ≤ a.2 := by
      apply Int.not_lt.1
      intro e
      exact h (.inr (by omega))
    by_cases h2 : c ≤ a.2
    · rw [if_pos h2]
      refine wd_run (ta_per c _) hc k (x := 0) hc.1 (Int.le_refl _) fun j j0 j1 => sub _ ⟨hc, ha, ?_⟩
      have := em_bd hc.1 (0 + j - a.1)
      omega
    · rw [if_neg h2]
      refine wd_run (ta_per c _) hc k (x := a.1) ha (by show a.2 ≤ c; omega) fun j j0 j1 => sub _ ⟨hc, ha, ?_⟩
      rw [show a.1 + j - a.1 = j by omega, em_one j0 (by simp only at j1; omega)]
      exact j1
end Go.Proofs.Ytcllijjmjmfedaa
