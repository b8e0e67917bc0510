/- Package group, plain: no layout is shorter than the floor. -/
import Derived.Test.YtakandlehneciaaGpD
namespace Go.Proofs.Ytakandlehneciaa
set_option linter.unusedVariables false
set_option linter.unusedSimpArgs false
set_option maxRecDepth 10000
namespace Gp
open Pa
/-- the times of some phases, those that stand ahead of a place -/
def pot (t : Nat → Int) (pl : Nat → Nat) (k : Nat) : List Nat → Int
  | [] => 0
  | a :: Q => (if pl a < k then t a else 0) + pot t pl k Q
def tot (t : Nat → Int) : List Nat → Int
  | [] => 0
  | a :: Q => t a + tot t Q
theorem pot_all {t : Nat → Int} {pl : Nat → Nat} {k : Nat} : ∀ {Q : List Nat}, (∀ a ∈ Q, pl a < k) → pot t pl k Q = tot t Q
  | [], _ => rfl
  | a :: Q, h => by rw [pot, tot, if_pos (h a (by simp)), pot_all fun b hb => h b (by simp [hb])]
theorem pot_zero {t : Nat → Int} {pl : Nat → Nat} : ∀ {Q : List Nat}, pot t pl 0 Q = 0
  | [] => rfl
  | a :: Q => by rw [pot, pot_zero]; simp
theorem pot_out {t : Nat → Int} {pl : Nat → Nat} {k o : Nat} : ∀ {Q : List Nat}, (∀ a ∈ Q, pl a = k → a = o) → o ∉ Q → pot t pl (k + 1) Q = pot t pl k Q
  | [], _, _ => rfl
  | a :: Q, h, ho => by
    have h1 : pl a ≠ k := fun e => ho (by rw [← h a (by simp) e]; simp)
    rw [pot, pot, pot_out (fun b hb => h b (by simp [hb])) (fun hb => ho (by simp [hb]))]
    by_cases c : pl a < k
    · rw [if_pos c, if_pos (by omega)]
    · rw [if_neg c, if_neg (by omega)]
theorem pot_in {t : Nat → Int} {pl : Nat → Nat} {k o : Nat} : ∀ {Q : List Nat}, (∀ a ∈ Q, pl a = k → a = o) → Q.Nodup → pot t pl (k + 1) Q = pot t pl k Q ∨ (o ∈ Q ∧ pl o = k ∧ pot t pl (k + 1) Q = pot t pl k Q + t o)
  | [], _, _ => .inl rfl
  | a :: Q, h, hn => by
    have hn2 := List.nodup_cons.1 hn
    have h2 : ∀ b ∈ Q, pl b = k → b = o := fun b hb => h b (by simp [hb])
    by_cases e : pl a = k
    · have ea := h a (by simp) e
      subst ea
      right
      refine ⟨by simp, e, ?_⟩
      rw [pot, pot, pot_out h2 hn2.1, if_pos (by omega), if_neg (by omega)]
      omega
    · have e1 : (if pl a < k + 1 then t a else 0) = (if pl a < k then t a else 0) := by
        by_cases c : pl a < k
        · rw [if_pos c, if_pos (by omega)]
        · rw [if_neg c, if_neg (by omega)]
      rcases pot_in h2 hn2.2 with h3 | ⟨h3, h4, h5⟩
      · left; rw [pot, pot, e1, h3]
      · right; refine ⟨by simp [h3], h4, ?_⟩; rw [pot, pot, e1, h5]; omega
/-- phases that lie ahead of S or behind E, one behind the other -/
theorem pack {t : Nat → Int} {pl : Nat → Nat} {s : Nat → Int} {o : Nat → Nat} {n : Nat} {S E : Int} {Q : List Nat} (ht : ∀ a, 0 ≤ t a) (h0 : s 0 = 0) (hs : ∀ k, k < n → s k + t (o k) ≤ s (k + 1)) (hp : ∀ a ∈ Q, pl a < n ∧ o (pl a) = a) (hn : Q.Nodup) (hSE : S ≤ E) (hS : 0 ≤ S) (hE : E ≤ s n) (hq : ∀ a ∈ Q, s (pl a + 1) ≤ S ∨ E ≤ s (pl a)) : tot t Q ≤ S + s n - E := by
  have hk : ∀ k, k ≤ n → 0 ≤ s k ∧ pot t pl k Q ≤ min (s k) S + max 0 (s k - E) := by
    intro k
    induction k with
    | zero => intro _; rw [h0, pot_zero]; omega
    | succ k ih =>
      intro hk
      obtain ⟨i1, i2⟩ := ih (by omega)
      have h1 := hs k (by omega)
      have h2 := ht (o k)
      refine ⟨by omega, ?_⟩
      rcases pot_in (t := t) (pl := pl) (k := k) (o := o k) (Q := Q) (fun a ha e => by rw [← (hp a ha).2, e]) hn with h3 | ⟨h3, h4, h5⟩
      · rw [h3]; omega
      · rw [h5]
        have := hq (o k) h3
        rw [h4] at this
        omega
  have h1 := (hk n (Nat.le_refl _)).2
  rw [pot_all fun a ha => (hp a ha).1] at h1
  omega
/-- the times of a layout, along a row -/
def sv (RR : List (List Int)) (d : List Int) (r k : Nat) : Int := g d ((mkR RR r).getD k 0).toNat
theorem nE_mem {R : List E3} {p q : Nat} {l : Int} (h : ((p : Int), (q : Int), l) ∈ R) : (p, q, l) ∈ nE R := List.mem_map.2 ⟨_, h, by simp⟩
theorem ph_mem {RR OO : List (List Int)} {r k : Nat} (hk : k < (RR.getD r []).length) : ∀ {R : Nat}, r < R → phE (mkR RR r) (RR.getD r []) (OO.getD r []) k ∈ PHn RR OO R
  | 0, h => by omega
  | R + 1, h => by
    rw [PHn, List.mem_append]
    rcases Nat.lt_or_eq_of_le (Nat.le_of_lt_succ h) with h1 | h1
    · exact .inl (ph_mem hk h1)
    · subst h1
      exact .inr (List.mem_map.2 ⟨k, List.mem_range.2 hk, rfl⟩)
/-- what the times of a layout keep -/
theorem sv_ok {RR : List (List Int)} {D : List P2} {o : O2} (h : La RR D o) {X : List (P2 × Bool)} (hX : ∀ x ∈ X, x.1 ∈ D) {d : List Int} (hd : Pa.Good (ptN RR RR.length) (nE (edX RR o X)) d) {r : Nat} (hr : r < RR.length) :
    sv RR d r 0 = 0 ∧ (∀ k, k < (RR.getD r []).length → sv RR d r k + (RR.getD r []).getD (((oo RR.length o).getD r []).getD k 0).toNat 0 ≤ sv RR d r (k + 1)) ∧ (∀ k, k ≤ (RR.getD r []).length → 0 ≤ sv RR d r k) ∧ sv RR d r (RR.getD r []).length = g d 1 := by
  have h1 := (h.row _ (getD_mem (z := []) hr)).1
  obtain ⟨n, hn⟩ : ∃ n, (RR.getD r []).length = n + 1 := ⟨_, (Nat.sub_add_cancel h1).symm⟩
  have z0 : sv RR d r 0 = 0 := by
    unfold sv
    rw [mkR, hn, mk_at _ _ (by omega), if_pos rfl]
    exact fit_zero (edX_gr h hX) hd.2.1 hd.2.2
  have hf : ∀ k, k < (RR.getD r []).length → 0 ≤ sv RR d r k → sv RR d r k + (RR.getD r []).getD (((oo RR.length o).getD r []).getD k 0).toNat 0 ≤ sv RR d r (k + 1) := fun k hk h0 => by
    obtain ⟨p, hp, _⟩ := mk_in h.row hr (k := k) (by omega)
    obtain ⟨q, hq, _⟩ := mk_in h.row hr (k := k + 1) (by omega)
    have hm := ph_mem (RR := RR) (OO := oo RR.length o) hk hr
    unfold phE at hm
    rw [hp, hq] at hm
    unfold sv at h0 ⊢
    rw [hp] at h0 ⊢
    rw [hq]
    exact hd.2.1.2 _ (nE_mem (show _ ∈ edX RR o X from by unfold edX edN; exact List.mem_append.2 (.inl hm))) h0
  have hpos : ∀ k, k ≤ (RR.getD r []).length → 0 ≤ sv RR d r k := by
    intro k
    induction k with
    | zero => intro _; rw [z0]; exact Int.le_refl _
    | succ k ih =>
      intro hk
      have h2 := ih (by omega)
      have h3 := hf k (by omega) h2
      have h4 := (rg_at (h.row _ (getD_mem (z := []) hr)).2.2 (((oo RR.length o).getD r []).getD k 0).toNat).1
      omega
  refine ⟨z0, fun k hk => hf k hk (hpos k (by omega)), hpos, ?_⟩
  unfold sv
  rw [mkR, hn, mk_at _ _ (by omega), if_neg (by omega), if_pos rfl]
  rfl
theorem fold_tot {α : Type} (c : α → Bool) (f : α → Nat) (t : Nat → Int) : ∀ (D : List α) (a : Int), D.foldl (fun a q => if c q = true then a + t (f q) else a) a = a + tot t ((D.filter c).map f)
  | [], a => by simp [tot]
  | q :: D, a => by
    rw [List.foldl_cons, fold_tot c f t D]
    cases h : c q with
    | true => rw [List.filter_cons_of_pos h, List.map_cons, tot, if_pos rfl]; omega
    | false => rw [List.filter_cons_of_neg (by simp [h])]; simp
theorem sum_tot (L : List Int) : sumN L = tot (fun a => L.getD a 0) (List.range L.length) := by
  have h : ∀ (m : Nat) (a : Int), (L.take m).foldl (· + ·) a = a + tot (fun a => L.getD a 0) (List.range (min m L.length)) := by
    intro m
    induction m with
    | zero => intro a; simp [tot]
    | succ m ih =>
      intro a
      by_cases hm : m < L.length
      · rw [fold_more _ _ 0 L m hm, ih, Nat.min_eq_left (by omega), Nat.min_eq_left (by omega), List.range_succ]
        have ht : ∀ (A B : List Nat), tot (fun a => L.getD a 0) (A ++ B) = tot (fun a => L.getD a 0) A + tot (fun a => L.getD a 0) B := by
          intro A B
          induction A with
          | nil => simp [tot]
          | cons x A ih => simp only [List.cons_append, tot, ih]; omega
        rw [ht]
        simp [tot]; omega
      · have e1 : L.take (m + 1) = L.take m := by rw [List.take_of_length_le (by omega), List.take_of_length_le (by omega)]
        rw [e1, ih, Nat.min_eq_right (by omega), Nat.min_eq_right (by omega)]
  have := h L.length 0
  rw [take_all, Nat.min_self] at this
  rw [sumN, this]; omega
theorem fold_max {α : Type} (f : α → Int) (v : Int) : ∀ (l : List α) (m : Int), m ≤ v → (∀ a ∈ l, f a ≤ v) → l.foldl (fun m a => max m (f a)) m ≤ v
  | [], m, h, _ => h
  | a :: l, m, h, hl => fold_max f v l _ (by have := hl a (by simp); show max m (f a) ≤ v; omega) fun b hb => hl b (by simp [hb])
theorem zip_full {α : Type} [DecidableEq α] (P : List α) (M : List Bool) (h : M.length = P.length) {p : α} (hp : p ∈ P) : (p, true) ∈ P.zip M ∨ (p, false) ∈ P.zip M := by
  obtain ⟨b, hb⟩ := zip_has P M h p hp
  cases b
  · exact .inr hb
  · exact .inl hb
/-- what a pair's edge keeps: one ahead of the other -/
theorem pair_ok {RR : List (List Int)} {D : List P2} {o : O2} (h : La RR D o) {X : List (P2 × Bool)} (hX : ∀ x ∈ X, x.1 ∈ D) {d : List Int} (hd : Pa.Good (ptN RR RR.length) (nE (edX RR o X)) d) {a b : Nat} (hp : ((a : Int), (b : Int)) ∈ D) (hx : (((a : Int), (b : Int)), true) ∈ X ∨ (((a : Int), (b : Int)), false) ∈ X) :
    ∃ ka kb : Nat, ka < (RR.getD 0 []).length ∧ kb < (RR.getD 1 []).length ∧ (Od.tnL ((oo RR.length o).getD 0 [])).getD a 0 = (ka : Int) ∧ (Od.tnL ((oo RR.length o).getD 1 [])).getD b 0 = (kb : Int) ∧ ((oo RR.length o).getD 0 []).getD ka 0 = (a : Int) ∧ ((oo RR.length o).getD 1 []).getD kb 0 = (b : Int) ∧ (sv RR d 0 (ka + 1) ≤ sv RR d 1 kb ∨ sv RR d 1 (kb + 1) ≤ sv RR d 0 ka) := by
  obtain ⟨a', b', e, ha, hb, h2⟩ := h.pair _ hp
  injection e with e1 e2
  obtain rfl : a = a' := by omega
  obtain rfl : b = b' := by omega
  obtain ⟨ka, hk, hk2, hk3⟩ := pl_in (h.ord 0 (by omega)).1 (h.ord 0 (by omega)).2 ha
  obtain ⟨kb, hm, hm2, hm3⟩ := pl_in (h.ord 1 (by omega)).1 (h.ord 1 (by omega)).2 hb
  refine ⟨ka, kb, hk2, hm2, hk, hm, hk3, hm3, ?_⟩
  obtain ⟨p0, e0, l0⟩ := mk_in h.row (show 0 < RR.length by omega) (k := ka) (by omega)
  obtain ⟨p1, e1, l1⟩ := mk_in h.row (show 0 < RR.length by omega) (k := ka + 1) (by omega)
  obtain ⟨q0, f0, m0⟩ := mk_in h.row (show 1 < RR.length by omega) (k := kb) (by omega)
  obtain ⟨q1, f1, m1⟩ := mk_in h.row (show 1 < RR.length by omega) (k := kb + 1) (by omega)
  have s0 := (sv_ok h hX hd (show 0 < RR.length by omega)).2.2.1 (ka + 1) (by omega)
  have s1 := (sv_ok h hX hd (show 1 < RR.length by omega)).2.2.1 (kb + 1) (by omega)
  have hE : ∀ x ∈ X, prE ((PLn (oo RR.length o) RR.length).getD 0 []) ((PLn (oo RR.length o) RR.length).getD 1 []) ((MKn RR RR.length).getD 0 []) ((MKn RR RR.length).getD 1 []) x ∈ edX RR o X := fun x hx => by
    unfold edX edN
    exact List.mem_append.2 (.inr (List.mem_map.2 ⟨x, hx, rfl⟩))
  have hL0 := PL_at (oo RR.length o) (show 0 < RR.length by omega)
  have hL1 := PL_at (oo RR.length o) (show 1 < RR.length by omega)
  have hM0 := MK_at RR (show 0 < RR.length by omega)
  have hM1 := MK_at RR (show 1 < RR.length by omega)
  unfold sv at s0 s1 ⊢
  rw [e1] at s0 ⊢
  rw [f1] at s1 ⊢
  rw [e0, f0]
  rcases hx with hx | hx
  · right
    have hm9 := hE _ hx
    unfold prE at hm9
    simp only [hL0, hL1, hM0, hM1, Int.toNat_natCast, hk, hm, if_true, f1, e0] at hm9
    have := hd.2.1.2 _ (nE_mem hm9) s1
    simp only [Int.add_zero] at this
    exact this
  · left
    have hm9 := hE _ hx
    unfold prE at hm9
    simp only [hL0, hL1, hM0, hM1, Int.toNat_natCast, hk, hm, if_false, Bool.false_eq_true, e1, f0] at hm9
    have := hd.2.1.2 _ (nE_mem hm9) s0
    simp only [Int.add_zero] at this
    exact this
theorem sv_up {s : Nat → Int} {n : Nat} (h : ∀ k, k < n → s k ≤ s (k + 1)) : ∀ {j k : Nat}, j ≤ k → k ≤ n → s j ≤ s k := by
  intro j k hjk
  induction hjk with
  | refl => intro _; exact Int.le_refl _
  | step hjk ih => intro hk; exact Int.le_trans (ih (by omega)) (h _ (by omega))
theorem sv_grow {RR : List (List Int)} {D : List P2} {o : O2} (h : La RR D o) {X : List (P2 × Bool)} (hX : ∀ x ∈ X, x.1 ∈ D) {d : List Int} (hd : Pa.Good (ptN RR RR.length) (nE (edX RR o X)) d) {r : Nat} (hr : r < RR.length) {k : Nat} (hk : k ≤ (RR.getD r []).length) : sv RR d r k ≤ g d 1 := by
  obtain ⟨_, h2, _, h4⟩ := sv_ok h hX hd hr
  rw [← h4]
  exact sv_up (n := (RR.getD r []).length) (fun k hk => by have := h2 k hk; have := (rg_at (h.row _ (getD_mem (z := []) hr)).2.2 (((oo RR.length o).getD r []).getD k 0).toNat).1; omega) hk (Nat.le_refl _)
/-- some phases of a row, apart from a stretch of time -/
theorem row_pack {RR : List (List Int)} {D : List P2} {o : O2} (h : La RR D o) {X : List (P2 × Bool)} (hX : ∀ x ∈ X, x.1 ∈ D) {d : List Int} (hd : Pa.Good (ptN RR RR.length) (nE (edX RR o X)) d) {r : Nat} (hr : r < RR.length) {Q : List Nat} (hn : Q.Nodup) {S E : Int} (hSE : S ≤ E) (hS : 0 ≤ S) (hE : E ≤ g d 1)
    (hq : ∀ a ∈ Q, ∃ k : Nat, k < (RR.getD r []).length ∧ ((oo RR.length o).getD r []).getD k 0 = (a : Int) ∧ (Od.tnL ((oo RR.length o).getD r [])).getD a 0 = (k : Int) ∧ (sv RR d r (k + 1) ≤ S ∨ E ≤ sv RR d r k)) : tot (fun a => (RR.getD r []).getD a 0) Q ≤ S + g d 1 - E := by
  obtain ⟨h1, h2, _, h4⟩ := sv_ok h hX hd hr
  have := pack (t := fun a => (RR.getD r []).getD a 0) (pl := fun a => ((Od.tnL ((oo RR.length o).getD r [])).getD a 0).toNat) (s := sv RR d r) (o := fun k => (((oo RR.length o).getD r []).getD k 0).toNat) (n := (RR.getD r []).length) (S := S) (E := E) (Q := Q)
    (fun a => (rg_at (h.row _ (getD_mem (z := []) hr)).2.2 a).1) h1 h2
    (fun a ha => by obtain ⟨k, k1, k2, k3, _⟩ := hq a ha; simp only [k3, Int.toNat_natCast, k2]; exact ⟨k1, trivial⟩) hn hSE hS (by rw [h4]; exact hE)
    (fun a ha => by obtain ⟨k, k1, k2, k3, k4⟩ := hq a ha; simp only [k3, Int.toNat_natCast]; exact k4)
  rw [h4] at this
  exact this
theorem row_sum {RR : List (List Int)} {D : List P2} {o : O2} (h : La RR D o) {X : List (P2 × Bool)} (hX : ∀ x ∈ X, x.1 ∈ D) {d : List Int} (hd : Pa.Good (ptN RR RR.length) (nE (edX RR o X)) d) {r : Nat} (hr : r < RR.length) : sumN (RR.getD r []) ≤ g d 1 := by
  have h0 : 0 ≤ g d 1 := by have := sv_grow h hX hd hr (k := 0) (by omega); rw [(sv_ok h hX hd hr).1] at this; exact this
  have := row_pack h hX hd hr (Q := List.range (RR.getD r []).length) List.nodup_range (S := g d 1) (E := g d 1) (Int.le_refl _) h0 (Int.le_refl _) (fun a ha => by
    obtain ⟨k, k1, k2, k3⟩ := pl_in (h.ord r hr).1 (h.ord r hr).2 (List.mem_range.1 ha)
    exact ⟨k, k2, k3, k1, .inl (sv_grow h hX hd hr (by omega))⟩)
  rw [sum_tot]
  omega
/-- no layout is shorter than the floor -/
theorem floor_le {RR : List (List Int)} {D : List P2} {o : O2} (h : La RR D o) (hD : D.Nodup) {X : List (P2 × Bool)} (hX : ∀ x ∈ X, x.1 ∈ D) (hf : ∀ p ∈ D, (p, true) ∈ X ∨ (p, false) ∈ X) {v : Bt} (hv : fX RR o X = some v) : flr RR D ≤ v.2 := by
  obtain ⟨_, hd, hv2⟩ := fX_good h hX hv
  rw [hv2, gd_1 (by rw [hd.1.1]; exact ptN_ge RR RR.length)]
  have hA : flA RR ≤ g v.1.2 1 := by
    refine fold_max sumN _ RR 0 ?_ fun L hL => ?_
    · have := sv_grow h hX hd (r := 0) (by have := h.two; omega) (k := 0) (by omega)
      rw [(sv_ok h hX hd (by have := h.two; omega)).1] at this
      exact this
    · obtain ⟨r, hr, rfl⟩ := List.getElem_of_mem hL
      have := row_sum h hX hd hr
      rw [List.getD_eq_getElem?_getD, List.getElem?_eq_getElem hr] at this
      exact this
  have hP : ∀ p ∈ D, D.foldl (stA (RR.getD 1 []) p) ((RR.getD 0 []).getD p.1.toNat 0) ≤ g v.1.2 1 ∧ D.foldl (stB (RR.getD 0 []) p) ((RR.getD 1 []).getD p.2.toNat 0) ≤ g v.1.2 1 := fun p hp => by
    obtain ⟨a, b, e, ha, hb, h2⟩ := h.pair p hp
    subst e
    have eA : stA (RR.getD 1 []) ((a : Int), (b : Int)) = fun x q => if (decide (q.1 = (a : Int))) = true then x + (fun k => (RR.getD 1 []).getD k 0) q.2.toNat else x := by funext x q; simp [stA]
    have eB : stB (RR.getD 0 []) ((a : Int), (b : Int)) = fun x q => if (decide (q.2 = (b : Int))) = true then x + (fun k => (RR.getD 0 []).getD k 0) q.1.toNat else x := by funext x q; simp [stB]
    rw [eA, eB, fold_tot (fun q : P2 => decide (q.1 = (a : Int))) (fun q : P2 => q.2.toNat) (fun k => (RR.getD 1 []).getD k 0) D, fold_tot (fun q : P2 => decide (q.2 = (b : Int))) (fun q : P2 => q.1.toNat) (fun k => (RR.getD 0 []).getD k 0) D]
    obtain ⟨ka, kb, k1, k2, k3, k4, k5, k6, _⟩ := pair_ok h hX hd hp (hf _ hp)
    have s0 := (sv_ok h hX hd (show 0 < RR.length by omega)).2
    have s1 := (sv_ok h hX hd (show 1 < RR.length by omega)).2
    have u0 := s0.1 ka k1
    have u1 := s1.1 kb k2
    rw [k5, Int.toNat_natCast] at u0
    rw [k6, Int.toNat_natCast] at u1
    have t0 := (rg_at (h.row _ (getD_mem (z := []) (show 0 < RR.length by omega))).2.2 a).1
    have t1 := (rg_at (h.row _ (getD_mem (z := []) (show 1 < RR.length by omega))).2.2 b).1
    have w0 := sv_grow h hX hd (show 0 < RR.length by omega) (k := ka + 1) (by omega)
    have w1 := sv_grow h hX hd (show 1 < RR.length by omega) (k := kb + 1) (by omega)
    have r1 := row_pack h hX hd (show 1 < RR.length by omega) (Q := (D.filter fun q : P2 => decide (q.1 = (a : Int))).map fun q => q.2.toNat) (by
        rw [List.Nodup, List.pairwise_map]
        refine (hD.filter _).imp_of_mem ?_
        intro x y hx hy hne e
        rw [List.mem_filter, decide_eq_true_eq] at hx hy
        obtain ⟨_, b1, f1, _⟩ := h.pair x hx.1
        obtain ⟨_, b2, f2, _⟩ := h.pair y hy.1
        subst f1 f2
        have hx2 := hx.2
        have hy2 := hy.2
        simp only [Int.toNat_natCast] at e hx2 hy2
        exact hne (by rw [hx2, hy2, e])) (S := sv RR v.1.2 0 ka) (E := sv RR v.1.2 0 (ka + 1)) (by omega) (s0.2.1 ka (by omega)) w0 (fun c hc => by
        obtain ⟨q, hq, rfl⟩ := List.mem_map.1 hc
        rw [List.mem_filter, decide_eq_true_eq] at hq
        obtain ⟨a', b', f1, g1, g2, _⟩ := h.pair q hq.1
        subst f1
        have hq2 := hq.2
        simp only at hq2
        rw [hq2] at hq
        obtain ⟨ka', kb', m1, m2, m3, m4, m5, m6, m7⟩ := pair_ok h hX hd hq.1 (hf _ hq.1)
        have : ka' = ka := by omega
        subst this
        exact ⟨kb', m2, by simpa using m6, by simpa using m4, m7.symm⟩)
    have r2 := row_pack h hX hd (show 0 < RR.length by omega) (Q := (D.filter fun q : P2 => decide (q.2 = (b : Int))).map fun q => q.1.toNat) (by
        rw [List.Nodup, List.pairwise_map]
        refine (hD.filter _).imp_of_mem ?_
        intro x y hx hy hne e
        rw [List.mem_filter, decide_eq_true_eq] at hx hy
        obtain ⟨b1, _, f1, _⟩ := h.pair x hx.1
        obtain ⟨b2, _, f2, _⟩ := h.pair y hy.1
        subst f1 f2
        have hx2 := hx.2
        have hy2 := hy.2
        simp only [Int.toNat_natCast] at e hx2 hy2
        exact hne (by rw [hx2, hy2, e])) (S := sv RR v.1.2 1 kb) (E := sv RR v.1.2 1 (kb + 1)) (by omega) (s1.2.1 kb (by omega)) w1 (fun c hc => by
        obtain ⟨q, hq, rfl⟩ := List.mem_map.1 hc
        rw [List.mem_filter, decide_eq_true_eq] at hq
        obtain ⟨a', b', f1, g1, g2, _⟩ := h.pair q hq.1
        subst f1
        have hq2 := hq.2
        simp only at hq2
        rw [hq2] at hq
        obtain ⟨ka', kb', m1, m2, m3, m4, m5, m6, m7⟩ := pair_ok h hX hd hq.1 (hf _ hq.1)
        have : kb' = kb := by omega
        subst this
        exact ⟨ka', m1, by simpa using m5, by simpa using m3, m7⟩)
    simp only [Int.toNat_natCast]
    exact ⟨by omega, by omega⟩
  unfold flr
  have hl : ∀ (l : List P2) (m : Int), (∀ p ∈ l, p ∈ D) → m ≤ g v.1.2 1 → l.foldl (flS (RR.getD 0 []) (RR.getD 1 []) D) m ≤ g v.1.2 1 := by
    intro l
    induction l with
    | nil => intro m _ h; exact h
    | cons p l ih =>
      intro m hl hm
      obtain ⟨h1, h2⟩ := hP p (hl p (by simp))
      exact ih _ (fun q hq => hl q (by simp [hq])) (by unfold flS; omega)
  exact hl D _ (fun p hp => hp) hA
end Gp
end Go.Proofs.Ytakandlehneciaa
