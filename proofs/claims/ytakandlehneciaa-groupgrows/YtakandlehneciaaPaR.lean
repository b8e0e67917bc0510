/- Ways by sets of points, plain: from where a point can be come to, and the first of the ways, step by step. -/
import Derived.Test.YtakandlehneciaaPaQ
import Derived.Lib.TrailingZeros
namespace Go.Proofs.Ytakandlehneciaa
set_option linter.unusedVariables false
set_option linter.unusedSimpArgs false
set_option maxRecDepth 10000
namespace Pa
/-- from a point a way leads to another one by points that are not gone by -/
def Rch (T : Nat → Nat → Bool) (n G to p : Nat) : Prop := ∃ r, isW T to (p :: r) ∧ ∀ x ∈ p :: r, x < n ∧ bt G x = false
theorem rch_end {T : Nat → Nat → Bool} {n G to : Nat} (h : to < n) (hg : bt G to = false) : Rch T n G to to := ⟨[], rfl, fun x hx => by
  have : x = to := by simpa using hx
  subst this; exact ⟨h, hg⟩⟩
theorem rch_more {T : Nat → Nat → Bool} {n G to p q : Nat} (h : Rch T n G to q) (ht : T p q = true) (hp : p < n) (hg : bt G p = false) : Rch T n G to p := by
  obtain ⟨r, h1, h2⟩ := h
  refine ⟨q :: r, ⟨ht, h1⟩, fun x hx => ?_⟩
  rcases List.mem_cons.1 hx with rfl | hx
  · exact ⟨hp, hg⟩
  · exact h2 x hx
/-- what holds while points are gathered: f those that are found, l those that are left to be looked at -/
structure Ld (T : Nat → Nat → Bool) (n G to f l : Nat) : Prop where
  e : bt f to = true
  sub : ∀ p, bt l p = true → bt f p = true
  r : ∀ p, bt f p = true → Rch T n G to p
  c : ∀ v u, bt f v = true → bt l v = false → T u v = true → bt G u = false → u < n → bt f u = true
theorem ld_zero {T : Nat → Nat → Bool} {n G to : Nat} (h : to < n) (hg : bt G to = false) : Ld T n G to (0 ||| 2 ^ to) (0 ||| 2 ^ to) := by
  have b : ∀ p, bt (0 ||| 2 ^ to) p = decide (to = p) := fun p => by rw [bt_put]; simp [bt]
  refine ⟨by rw [b]; simp, fun p hp => hp, fun p hp => ?_, fun v u h1 h2 => ?_⟩
  · rw [b, decide_eq_true_eq] at hp
    subst hp; exact rch_end h hg
  · rw [h1] at h2; exact absurd h2 (by simp)
theorem ld_step {T : Nat → Nat → Bool} {n G to f l : Nat} (h : Ld T n G to f l) {p m f2 l2 : Nat} (hp : bt l p = true) (hT : ∀ u v, T u v = true → u < n) (hm : ∀ u, bt m u = (T u p && !(bt f u || bt G u))) (hf : ∀ u, bt f2 u = (bt f u || bt m u)) (hl : ∀ u, bt l2 u = ((bt l u && !decide (p = u)) || bt m u)) : Ld T n G to f2 l2 := by
  refine ⟨by rw [hf, h.e]; rfl, fun q hq => ?_, fun q hq => ?_, fun v u h1 h2 h3 h4 h5 => ?_⟩
  · rw [hl] at hq
    rw [hf]
    rcases Bool.or_eq_true_iff.1 hq with hq | hq
    · rw [h.sub q (Bool.and_eq_true_iff.1 hq).1]; rfl
    · rw [hq]; simp
  · rw [hf] at hq
    rcases Bool.or_eq_true_iff.1 hq with hq | hq
    · exact h.r q hq
    · rw [hm] at hq
      obtain ⟨h1, h2⟩ := Bool.and_eq_true_iff.1 hq
      have h3 : bt f q = false ∧ bt G q = false := by simpa using h2
      exact rch_more (h.r p (h.sub p hp)) h1 (hT _ _ h1) h3.2
  · rw [hl] at h2
    rw [hf] at h1 ⊢
    obtain ⟨h6, h7⟩ := Bool.or_eq_false_iff.1 h2
    rw [h7, Bool.or_false] at h1
    by_cases hv : p = v
    · subst hv
      rw [hm, h3, h4]
      cases bt f u <;> rfl
    · have : bt l v = false := by simpa [hv] using h6
      rw [h.c v u h1 this h3 h4 h5]; rfl
theorem ld_end {T : Nat → Nat → Bool} {n G to f : Nat} (h : Ld T n G to f 0) (p : Nat) : bt f p = true ↔ Rch T n G to p := by
  refine ⟨h.r p, ?_⟩
  rintro ⟨r, h1, h2⟩
  induction r generalizing p with
  | nil =>
    have : p = to := h1
    subst this; exact h.e
  | cons q r ih =>
    have h3 := ih q h1.2 (fun x hx => h2 x (List.mem_cons_of_mem _ hx))
    have h4 := h2 p (by simp)
    exact h.c q p h3 (by simp [bt]) h1.1 h4.2 h4.1
/-- how much is left to be done -/
def lw (f l : Nat) : Nat := ((List.range 64).map fun x => (if bt f x then 0 else 1) + (if bt l x then 1 else 0)).sum
theorem sum_le {a b : Nat → Nat} : ∀ L : List Nat, (∀ x ∈ L, a x ≤ b x) → (L.map a).sum ≤ (L.map b).sum
  | [], _ => Nat.le_refl _
  | x :: L, h => by
    have h1 := h x (by simp)
    have h2 := sum_le L (fun y hy => h y (by simp [hy]))
    simp only [List.map_cons, List.sum_cons]; omega
theorem sum_lt {a b : Nat → Nat} {p : Nat} : ∀ L : List Nat, (∀ x ∈ L, a x ≤ b x) → p ∈ L → a p < b p → (L.map a).sum < (L.map b).sum
  | [], _, hp, _ => absurd hp (by simp)
  | x :: L, h, hp, hlt => by
    have h1 := h x (by simp)
    have h2 := sum_le L (fun y hy => h y (by simp [hy]))
    simp only [List.map_cons, List.sum_cons]
    rcases List.mem_cons.1 hp with rfl | hp
    · omega
    · have := sum_lt L (fun y hy => h y (by simp [hy])) hp hlt; omega
theorem lw_lt {T : Nat → Nat → Bool} {n G to f l : Nat} (h : Ld T n G to f l) {p m f2 l2 : Nat} (hp : bt l p = true) (hp64 : p < 64) (hm : ∀ u, bt m u = (T u p && !(bt f u || bt G u))) (hf : ∀ u, bt f2 u = (bt f u || bt m u)) (hl : ∀ u, bt l2 u = ((bt l u && !decide (p = u)) || bt m u)) : lw f2 l2 < lw f l := by
  unfold lw
  have hmf : ∀ x, bt m x = true → bt f x = false := fun x hx => by
    rw [hm] at hx
    have := (Bool.and_eq_true_iff.1 hx).2
    cases hb : bt f x with
    | false => rfl
    | true => rw [hb] at this; simp at this
  refine sum_lt (p := p) _ (fun x _ => ?_) (List.mem_range.2 hp64) ?_
  · rw [hf, hl]
    have h2 := h.sub x
    cases h3 : bt m x with
    | true =>
      have h4 := hmf x h3
      rw [h4] at h2 ⊢
      cases h5 : bt l x with
      | true => rw [h5] at h2; exact absurd (h2 rfl) (by simp)
      | false => simp
    | false => cases bt f x <;> cases bt l x <;> by_cases hx : p = x <;> simp [hx]
  · rw [hf, hl, hp, h.sub p hp]
    have : bt m p = false := by
      cases h3 : bt m p with
      | false => rfl
      | true => have := hmf p h3; rw [h.sub p hp] at this; exact absurd this (by simp)
    simp [this]
/-- the least point of a set -/
theorem ctz_least {x : Nat} (h0 : x ≠ 0) (h : x < 18446744073709551616) : Lib.ctz 64 x < 64 ∧ bt x (Lib.ctz 64 x) = true ∧ ∀ q, bt x q = true → Lib.ctz 64 x ≤ q := by
  unfold Lib.ctz
  rw [if_neg h0]
  obtain ⟨m, hm, hk⟩ := Lib.ctzFrom_spec 64 x (by omega) h
  generalize Lib.ctzFrom 64 x = k at hm hk ⊢
  refine ⟨hk, ?_, fun q hq => ?_⟩
  · rw [hm, bt, Nat.mul_comm, Nat.testBit_mul_two_pow]
    simp [Nat.testBit_zero]
  · rw [hm, bt, Nat.mul_comm, Nat.testBit_mul_two_pow] at hq
    simp at hq
    exact hq.1
/-- a way that goes by no point twice, out of any way -/
theorem isW_drop {T : Nat → Nat → Bool} {to q : Nat} : ∀ w, isW T to w → q ∈ w → ∃ r, isW T to (q :: r) ∧ ∀ x ∈ q :: r, x ∈ w
  | [], _, h => absurd h (by simp)
  | [a], h, hq => by
    have : q = a := by simpa using hq
    subst this; exact ⟨[], h, fun x hx => hx⟩
  | a :: b :: w, h, hq => by
    rcases List.mem_cons.1 hq with rfl | hq
    · exact ⟨_, h, fun x hx => hx⟩
    · obtain ⟨r, h1, h2⟩ := isW_drop (b :: w) h.2 hq
      exact ⟨r, h1, fun x hx => List.mem_cons_of_mem _ (h2 x hx)⟩
theorem isW_suf {T : Nat → Nat → Bool} {to q : Nat} : ∀ w : List Nat, isW T to w → w.Nodup → q ∈ w → ∃ r, isW T to (q :: r) ∧ (q :: r).Nodup ∧ ∀ x ∈ q :: r, x ∈ w
  | [], _, _, h => absurd h (by simp)
  | [a], h, hn, hq => by
    have : q = a := by simpa using hq
    subst this; exact ⟨[], h, hn, fun x hx => hx⟩
  | a :: b :: w, h, hn, hq => by
    rcases List.mem_cons.1 hq with rfl | hq
    · exact ⟨_, h, hn, fun x hx => hx⟩
    · obtain ⟨r, h1, h2, h3⟩ := isW_suf (b :: w) h.2 (List.nodup_cons.1 hn).2 hq
      exact ⟨r, h1, h2, fun x hx => List.mem_cons_of_mem _ (h3 x hx)⟩
theorem isW_simple {T : Nat → Nat → Bool} {to : Nat} : ∀ (r : List Nat) (p : Nat), isW T to (p :: r) → ∃ s, isW T to (p :: s) ∧ (p :: s).Nodup ∧ ∀ x ∈ p :: s, x ∈ p :: r
  | [], p, h => ⟨[], h, by simp, fun x hx => hx⟩
  | q :: r, p, h => by
    obtain ⟨s, h1, h2, h3⟩ := isW_simple r q h.2
    by_cases hp : p ∈ q :: s
    · obtain ⟨t, h4, h5, h6⟩ := isW_suf (q :: s) h1 h2 hp
      exact ⟨t, h4, h5, fun x hx => List.mem_cons_of_mem _ (h3 x (h6 x hx))⟩
    · refine ⟨q :: s, ⟨h.1, h1⟩, List.nodup_cons.2 ⟨hp, h2⟩, fun x hx => ?_⟩
      rcases List.mem_cons.1 hx with rfl | hx
      · simp
      · exact List.mem_cons_of_mem _ (h3 x hx)
/-- the first way -/
def Fw (T : Nat → Nat → Bool) (n to : Nat) (u : List Bool) (a : Nat) (w : List Nat) : Prop := Ok T n to u a w ∧ ∀ v, Ok T n to u a v → le w v
theorem rch_ok {T : Nat → Nat → Bool} {n G to p : Nat} {u : List Bool} (hu : ∀ x, x < n → ub u x = bt G x) : Rch T n G to p ↔ ∃ w, Ok T n to u p w := by
  constructor
  · rintro ⟨r, h1, h2⟩
    obtain ⟨s, h3, h4, h5⟩ := isW_simple r p h1
    refine ⟨p :: s, ⟨s, rfl⟩, h3, h4, fun x hx => ?_⟩
    have := h2 x (h5 x hx)
    exact ⟨this.1, by rw [hu x this.1]; exact this.2⟩
  · rintro ⟨w, ⟨r, rfl⟩, h1, h2, h3⟩
    exact ⟨r, h1, fun x hx => ⟨(h3 x hx).1, by rw [← hu x (h3 x hx).1]; exact (h3 x hx).2⟩⟩
theorem le_tail {a : Nat} {v w : List Nat} (h : le (a :: v) (a :: w)) : le v w := by
  rcases h with h | ⟨_, h⟩
  · omega
  · exact h
/-- a step of the first way: the least point of those that an edge leads to and from where the end can be come to -/
theorem fw_step {T : Nat → Nat → Bool} {n G to a : Nat} {u : List Bool} {w : List Nat} (hul : u.length = n) (ha : a < n) (h0 : ub u a = false) (hat : a ≠ to) (hw : Fw T n to u a w) (hG : ∀ x, x < n → ub (u.set a true) x = bt G x) {F N : Nat} (hF : ∀ p, bt F p = true ↔ Rch T n G to p) (hN : ∀ p, bt N p = (T a p && bt F p)) (h64 : N < 18446744073709551616) :
    N ≠ 0 ∧ Lib.ctz 64 N < n ∧ bt G (Lib.ctz 64 N) = false ∧ ∃ r, w = a :: r ∧ Fw T n to (u.set a true) (Lib.ctz 64 N) r := by
  have hs := fun v => @ok_step T n to u a hul ha h0 v hat
  obtain ⟨p, r, rfl, h1, h2, h3, h4⟩ := (hs w).1 hw.1
  have hFp : bt F p = true := (hF p).2 ((rch_ok hG).2 ⟨r, h4⟩)
  have hNp : bt N p = true := by rw [hN, h1, hFp]; rfl
  have hne : N ≠ 0 := fun e => by rw [e] at hNp; simp [bt] at hNp
  obtain ⟨c1, c2, c3⟩ := ctz_least hne h64
  generalize Lib.ctz 64 N = q at c1 c2 c3 ⊢
  have c4 := c3 p hNp
  rw [hN] at c2
  obtain ⟨c5, c6⟩ := Bool.and_eq_true_iff.1 c2
  obtain ⟨s, hsk⟩ := (rch_ok hG).1 ((hF q).1 c6)
  have hq := hsk.2.2.2 q (by obtain ⟨⟨s', rfl⟩, _⟩ := hsk; simp)
  have h5 := le_tail (hw.2 (a :: s) ((hs _).2 ⟨q, s, rfl, c5, hq.2, hq.1, hsk⟩))
  have hpq : p = q := by
    obtain ⟨⟨r', rfl⟩, _⟩ := h4
    obtain ⟨⟨s', rfl⟩, _⟩ := hsk
    rcases h5 with h5 | ⟨h5, _⟩
    · omega
    · exact h5
  subst hpq
  refine ⟨hne, h3, by rw [← hG p h3]; exact h2, r, rfl, h4, fun v hv => le_tail (hw.2 (a :: v) ((hs _).2 ⟨p, v, rfl, h1, h2, h3, hv⟩))⟩
theorem fw_end {T : Nat → Nat → Bool} {n to : Nat} {u : List Bool} {w : List Nat} (ha : to < n) (h0 : ub u to = false) (hw : Fw T n to u to w) : w = [to] := by
  obtain ⟨⟨r, rfl⟩, _⟩ := hw.1
  have h1 : Ok T n to u to [to] := ⟨⟨[], rfl⟩, rfl, by simp, fun x hx => by
    have : x = to := by simpa using hx
    subst this; exact ⟨ha, h0⟩⟩
  have h2 := le_tail (hw.2 _ h1)
  cases r with
  | nil => rfl
  | cons b r => exact h2.elim
theorem fw_on {T : Nat → Nat → Bool} {n to a : Nat} {u : List Bool} (hu : u.length = n) (ha : a < n) (h0 : ub u a = false) {f : Nat} (hf : u.count false ≤ f) (hx : ∃ w, Ok T n to u a w) : Fw T n to u a (onW T n to f a u) := by
  rcases on_one T n to f a u hu ha h0 hf with ⟨_, h⟩ | h
  · obtain ⟨w, hw⟩ := hx
    exact absurd hw (h w)
  · exact h
theorem ub_rep (n p : Nat) : ub (List.replicate n false) p = false := by
  unfold ub
  rw [List.getD_eq_getElem?_getD, List.getElem?_replicate]
  split <;> rfl
/-- the first of the longest ways -/
def wyN (n : Nat) (E : List Ed) (d : List Int) (to : Nat) : List Nat := onW (tg E (g d)) n to n 0 (List.replicate n false)
theorem wy_fw {n : Nat} {E : List Ed} (hg : Gr n E) {d : List Int} (h : Good n E d) {to : Nat} (h0 : 0 ≤ g d to) : Fw (tg E (g d)) n to (List.replicate n false) 0 (wyN n E d to) := by
  refine fw_on (by simp) hg.1 (ub_rep n 0) (by rw [List.count_replicate]; simp) ?_
  obtain ⟨w, h1, h2, h3, h4⟩ := way_ex hg h.2.1 h.2.2 h0
  exact ⟨w, h1, h2, h3, fun x hx => ⟨h4 x hx, ub_rep n x⟩⟩
theorem tg_lt {n : Nat} {E : List Ed} (hg : Gr n E) (d : Nat → Int) : ∀ u v, tg E d u v = true → u < n ∧ v < n := fun u v h => by
  obtain ⟨l, h1, _⟩ := tg_iff.1 h
  have := hg.2 _ h1
  exact ⟨this.1, this.2.1⟩
end Pa
end Go.Proofs.Ytakandlehneciaa
