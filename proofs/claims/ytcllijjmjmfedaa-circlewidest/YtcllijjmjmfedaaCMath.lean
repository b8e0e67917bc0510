/- The ticks of a cycle and arcs in form: plain facts. No program is met here. -/
import Derived.WalkKit
namespace Go.Proofs.Ytcllijjmjmfedaa
set_option linter.unusedVariables false
set_option linter.unusedSimpArgs false
abbrev Pr := Int × Int
/-- is there a cycle of so many ticks? -/
def Cyc (c : Int) : Prop := 1 ≤ c ∧ c ≤ 6000
instance (c : Int) : Decidable (Cyc c) := by unfold Cyc; infer_instance
/-- is tick t of the arc a? -/
def Ia (c : Int) (a : Pr) (t : Int) : Prop := Cyc c ∧ 1 ≤ a.2 ∧ (t - a.1) % c < a.2
/-- is tick t of one of the arcs? -/
def Ta (c : Int) (l : List Pr) (t : Int) : Prop := ∃ a, a ∈ l ∧ Ia c a t
/-- it comes again each c ticks -/
def Per (c : Int) (P : Int → Prop) : Prop := ∀ t, P (t + c) ↔ P t
def Full (c : Int) (P : Int → Prop) : Prop := ∀ t, 0 ≤ t → t < c → P t
/-- an arc of the ticks P that nothing goes on -/
def Arc (c : Int) (P : Int → Prop) (a : Pr) : Prop := 0 ≤ a.1 ∧ a.1 < c ∧ 1 ≤ a.2 ∧ a.2 < c ∧ (∀ k, 0 ≤ k → k < a.2 → P (a.1 + k)) ∧ ¬ P (a.1 + a.2) ∧ ¬ P (a.1 - 1)
def Rise (L : List Pr) : Prop := L.Pairwise fun x y => x.1 < y.1
/-- the arcs L are the ticks P in form -/
def FormOf (c : Int) (P : Int → Prop) (L : List Pr) : Prop := (Full c P ∧ L = [(0, c)]) ∨ (¬ Full c P ∧ Rise L ∧ ∀ a, a ∈ L ↔ Arc c P a)
/-- .. and none where there is no cycle -/
def Fo (c : Int) (P : Int → Prop) (L : List Pr) : Prop := (¬ Cyc c ∧ L = []) ∨ (Cyc c ∧ FormOf c P L)

theorem em_one {c x : Int} (h : 0 ≤ x) (h2 : x < c) : x % c = x := Int.emod_eq_of_lt h h2
theorem em_up (c x : Int) : (x + c) % c = x % c := Int.add_emod_right x c
theorem em_dn (c x : Int) : (x - c) % c = x % c := by
  have := em_up c (x - c)
  rw [show x - c + c = x by omega] at this
  exact this.symm
theorem em_neg {c x : Int} (h : -c ≤ x) (h2 : x < 0) : x % c = x + c := by
  rw [← em_up c x]
  exact em_one (by omega) (by omega)
theorem em_two {c x : Int} (h : c ≤ x) (h2 : x < 2 * c) : x % c = x - c := by
  rw [← em_dn c x]
  exact em_one (by omega) (by omega)
theorem em_bd {c : Int} (h : 1 ≤ c) (x : Int) : 0 ≤ x % c ∧ x % c < c := ⟨Int.emod_nonneg _ (by omega), Int.emod_lt_of_pos _ (by omega)⟩
theorem em_sub (c x y : Int) : (x - y % c) % c = (x - y) % c := by rw [Int.sub_emod, Int.emod_emod, ← Int.sub_emod]
theorem em_sub' (c x y : Int) : (x % c - y) % c = (x - y) % c := by rw [Int.sub_emod, Int.emod_emod, ← Int.sub_emod]
theorem em_add (c x y : Int) : (x + y % c) % c = (x + y) % c := by rw [Int.add_emod, Int.emod_emod, ← Int.add_emod]

theorem per_dn {c : Int} {P : Int → Prop} (h : Per c P) (t : Int) : P (t - c) ↔ P t := by
  have := h (t - c)
  rw [show t - c + c = t by omega] at this
  exact this.symm
theorem ta_per (c : Int) (l : List Pr) : Per c (Ta c l) := by
  intro t
  unfold Ta Ia
  have : ∀ a : Pr, (t + c - a.1) % c = (t - a.1) % c := fun a => by rw [show t + c - a.1 = (t - a.1) + c by omega]; exact em_up _ _
  simp only [this]
theorem per_and {c : Int} {P Q : Int → Prop} (h : Per c P) (k : Per c Q) : Per c (fun t => P t ∧ Q t) := fun t => by
  show (P (t + c) ∧ Q (t + c)) ↔ _
  rw [h t, k t]
theorem per_not {c : Int} {P : Int → Prop} (h : Per c P) : Per c (fun t => ¬ P t) := fun t => by
  show (¬ P (t + c)) ↔ _
  rw [h t]
theorem per_sub {c : Int} {P : Int → Prop} (h : Per c P) (b : Int) : Per c (fun t => P (t - b)) := fun t => by
  show P (t + c - b) ↔ _
  rw [show t + c - b = (t - b) + c by omega]
  exact h _
theorem per_mul {c : Int} {P : Int → Prop} (h : Per c P) (t : Int) : ∀ n : Nat, P (t + n * c) ↔ P t
  | 0 => by simp
  | n + 1 => by
    rw [show t + ((n + 1 : Nat) : Int) * c = (t + n * c) + c by rw [show (((n + 1 : Nat) : Int)) = (n : Int) + 1 by omega, Int.add_mul]; omega]
    rw [h, per_mul h t n]
theorem per_em {c : Int} {P : Int → Prop} (h : Per c P) (t : Int) : P (t % c) ↔ P t := by
  have e := Int.emod_add_mul_ediv t c
  by_cases hq : 0 ≤ t / c
  · obtain ⟨n, hn⟩ := Int.eq_ofNat_of_zero_le hq
    rw [hn, Int.mul_comm] at e
    have := per_mul h (t % c) n
    rw [e] at this
    exact this.symm
  · obtain ⟨n, hn⟩ := Int.eq_ofNat_of_zero_le (show 0 ≤ -(t / c) by omega)
    have := per_mul h t n
    rw [← hn, Int.neg_mul, Int.mul_comm, show t + -(c * (t / c)) = t % c by omega] at this
    exact this
theorem per_agree {c : Int} {P Q : Int → Prop} (hP : Per c P) (hQ : Per c Q) (hc : 1 ≤ c) (h : ∀ t, 0 ≤ t → t < c → (P t ↔ Q t)) (t : Int) : P t ↔ Q t := by
  rw [← per_em hP t, ← per_em hQ t]
  exact h _ (em_bd hc t).1 (em_bd hc t).2

theorem rise_eq : ∀ {L M : List Pr}, Rise L → Rise M → (∀ a, a ∈ L ↔ a ∈ M) → L = M
  | [], [], _, _, _ => rfl
  | [], y :: M, _, _, h => by have := (h y).2 (by simp); simp at this
  | x :: L, [], _, _, h => by have := (h x).1 (by simp); simp at this
  | x :: L, y :: M, hL, hM, h => by
    unfold Rise at hL hM
    rw [List.pairwise_cons] at hL hM
    have e : x = y := by
      have h1 := (h x).1 (by simp)
      have h2 := (h y).2 (by simp)
      simp only [List.mem_cons] at h1 h2
      rcases h1 with h1 | h1
      · exact h1
      · rcases h2 with h2 | h2
        · exact h2.symm
        · have := hM.1 _ h1
          have := hL.1 _ h2
          omega
    subst e
    have : L = M := rise_eq hL.2 hM.2 fun a => by
      have := h a
      simp only [List.mem_cons] at this
      constructor
      · intro ha
        rcases this.1 (.inr ha) with e | e
        · have := hL.1 _ ha
          rw [e] at this
          omega
        · exact e
      · intro ha
        rcases this.2 (.inr ha) with e | e
        · have := hM.1 _ ha
          rw [e] at this
          omega
        · exact e
    rw [this]
theorem arc_congr {c : Int} {P Q : Int → Prop} (h : ∀ t, P t ↔ Q t) (a : Pr) : Arc c P a ↔ Arc c Q a := by unfold Arc; simp only [h]
theorem full_congr {c : Int} {P Q : Int → Prop} (h : ∀ t, P t ↔ Q t) : Full c P ↔ Full c Q := by unfold Full; simp only [h]
theorem form_congr {c : Int} {P Q : Int → Prop} (h : ∀ t, P t ↔ Q t) {L : List Pr} (hf : FormOf c P L) : FormOf c Q L := by
  have : P = Q := funext fun t => propext (h t)
  rw [← this]
  exact hf
theorem form_one {c : Int} {P : Int → Prop} {L M : List Pr} (h : FormOf c P L) (k : FormOf c P M) : L = M := by
  rcases h with ⟨f, rfl⟩ | ⟨f, r, m⟩
  · rcases k with ⟨_, rfl⟩ | ⟨f', _⟩
    · rfl
    · exact absurd f f'
  · rcases k with ⟨f', _⟩ | ⟨_, r', m'⟩
    · exact absurd f' f
    · exact rise_eq r r' fun a => (m a).trans (m' a).symm
theorem fo_one {c : Int} {P Q : Int → Prop} {L M : List Pr} (hP : Per c P) (hQ : Per c Q) (h : Fo c P L) (k : Fo c Q M) (e : Cyc c → ∀ t, 0 ≤ t → t < c → (P t ↔ Q t)) : L = M := by
  rcases h with ⟨f, rfl⟩ | ⟨f, h⟩
  · rcases k with ⟨_, rfl⟩ | ⟨f', _⟩
    · rfl
    · exact absurd f' f
  · rcases k with ⟨f', _⟩ | ⟨_, k⟩
    · exact absurd f f'
    · exact form_one (form_congr (per_agree hP hQ f.1 (e f)) h) k
theorem fo_congr {c : Int} {P Q : Int → Prop} {L : List Pr} (hP : Per c P) (hQ : Per c Q) (h : Fo c P L) (e : Cyc c → ∀ t, 0 ≤ t → t < c → (P t ↔ Q t)) : Fo c Q L := by
  rcases h with ⟨f, rfl⟩ | ⟨f, h⟩
  · exact .inl ⟨f, rfl⟩
  · exact .inr ⟨f, form_congr (per_agree hP hQ f.1 (e f)) h⟩

/-- the least number of which something holds -/
theorem least {p : Nat → Prop} : ∀ n, p n → ∃ m, m ≤ n ∧ p m ∧ ∀ j, j < m → ¬ p j := by
  intro n
  induction n using Nat.strongRecOn with
  | ind n ih =>
    intro h
    by_cases hx : ∃ j, j < n ∧ p j
    · obtain ⟨j, hj, hp⟩ := hx
      obtain ⟨m, h1, h2, h3⟩ := ih j hj hp
      exact ⟨m, by omega, h2, h3⟩
    · exact ⟨n, Nat.le_refl _, h, fun j hj hp => hx ⟨j, hj, hp⟩⟩
/-- each tick of P lies in an arc -/
theorem arc_ex {c : Int} {P : Int → Prop} (hp : Per c P) (hc : 1 ≤ c) (hf : ¬ Full c P) {t : Int} (h0 : 0 ≤ t) (h1 : t < c) (ht : P t) : ∃ a, Arc c P a ∧ (t - a.1) % c < a.2 := by
  have : ∃ u, 0 ≤ u ∧ u < c ∧ ¬ P u := by
    apply Classical.byContradiction
    intro h
    exact hf fun u a b => Classical.byContradiction fun k => h ⟨u, a, b, k⟩
  obtain ⟨u, u0, u1, hu⟩ := this
  have hut : u ≠ t := fun e => hu (e ▸ ht)
  obtain ⟨j0, hj0, hpj⟩ : ∃ j0 : Nat, (j0 : Int) < c ∧ ¬ P (t - 1 - j0) := by
    by_cases h : u < t
    · refine ⟨(t - 1 - u).toNat, by omega, ?_⟩
      rw [show t - 1 - ((t - 1 - u).toNat : Int) = u by omega]
      exact hu
    · refine ⟨(t - 1 - u + c).toNat, by omega, ?_⟩
      rw [show t - 1 - ((t - 1 - u + c).toNat : Int) = u - c by omega, per_dn hp]
      exact hu
  obtain ⟨j, hj, pj, lj⟩ := least (p := fun j : Nat => ¬ P (t - 1 - (j : Int))) j0 hpj
  have pk : ∀ k : Int, 0 ≤ k → k ≤ j → P (t - j + k) := by
    intro k k0 k1
    by_cases e : k = j
    · rw [e, show t - (j : Int) + j = t by omega]; exact ht
    · have := lj (j - 1 - k).toNat (by omega)
      rw [show t - 1 - ((((j : Int) - 1 - k).toNat : Nat) : Int) = t - j + k by omega] at this
      exact Classical.not_not.1 this
  have hz : ¬ P (t - j + (c - 1)) := by
    rw [show t - (j : Int) + (c - 1) = (t - 1 - j) + c by omega, hp]
    exact pj
  obtain ⟨n, hn, pn, ln⟩ := least (p := fun n : Nat => ¬ P (t - j + (n : Int))) (c - 1).toNat (by rw [show (((c - 1).toNat : Nat) : Int) = c - 1 by omega]; exact hz)
  have hnj : j < n := by
    apply Nat.lt_of_not_le
    intro h
    exact pn (pk n (by omega) (by omega))
  have hall : ∀ k : Int, 0 ≤ k → k < n → P (t - j + k) := by
    intro k k0 k1
    have := ln k.toNat (by omega)
    rw [show ((k.toNat : Nat) : Int) = k by omega] at this
    exact Classical.not_not.1 this
  by_cases hs : 0 ≤ t - j
  · refine ⟨(t - j, n), ⟨hs, by omega, by omega, by omega, hall, pn, ?_⟩, ?_⟩
    · rw [show t - (j : Int) - 1 = t - 1 - j by omega]; exact pj
    · show (t - (t - (j : Int))) % c < n
      rw [show t - (t - (j : Int)) = j by omega, em_one (by omega) (by omega)]
      omega
  · refine ⟨(t - j + c, n), ⟨by omega, by omega, by omega, by omega, ?_, ?_, ?_⟩, ?_⟩
    · intro k k0 k1
      show P (t - j + c + k)
      rw [show t - (j : Int) + c + k = (t - j + k) + c by omega, hp]
      exact hall k k0 k1
    · show ¬ P (t - j + c + n)
      rw [show t - (j : Int) + c + n = (t - j + n) + c by omega, hp]
      exact pn
    · show ¬ P (t - j + c - 1)
      rw [show t - (j : Int) + c - 1 = (t - 1 - j) + c by omega, hp]
      exact pj
    · show (t - (t - (j : Int) + c)) % c < n
      rw [show t - (t - (j : Int) + c) = j - c by omega, em_dn, em_one (by omega) (by omega)]
      omega
/-- an arc has its ticks -/
theorem arc_in {c : Int} {P : Int → Prop} (hp : Per c P) {a : Pr} (ha : Arc c P a) {t : Int} (h0 : 0 ≤ t) (h1 : t < c) (h : (t - a.1) % c < a.2) : P t := by
  obtain ⟨a0, a1, n1, nc, hk, _, _⟩ := ha
  by_cases hs : 0 ≤ t - a.1
  · rw [em_one hs (by omega)] at h
    have := hk (t - a.1) hs h
    rw [show a.1 + (t - a.1) = t by omega] at this
    exact this
  · rw [em_neg (by omega) (by omega)] at h
    have := hk (t - a.1 + c) (by omega) h
    rw [show a.1 + (t - a.1 + c) = t + c by omega, hp] at this
    exact this
theorem arc_len {c : Int} {P : Int → Prop} {a : Int} {n m : Int} (h : Arc c P (a, n)) (k : Arc c P (a, m)) : n = m := by
  obtain ⟨_, _, n1, nc, hk, hn, _⟩ := h
  obtain ⟨_, _, m1, mc, kk, km, _⟩ := k
  simp only at *
  by_cases h1 : n < m
  · exact absurd (kk n (by omega) h1) hn
  · by_cases h2 : m < n
    · exact absurd (hk m (by omega) h2) km
    · omega
/-- arcs in form have just their ticks -/
theorem form_ta {c : Int} {P : Int → Prop} {L : List Pr} (hp : Per c P) (hc : Cyc c) (h : FormOf c P L) (t : Int) : Ta c L t ↔ P t := by
  refine per_agree (ta_per c L) hp hc.1 (fun t h0 h1 => ?_) t
  rcases h with ⟨f, rfl⟩ | ⟨f, r, m⟩
  · constructor
    · intro _; exact f t h0 h1
    · intro _
      exact ⟨(0, c), by simp, hc, hc.1, by show (t - 0) % c < c; exact (em_bd hc.1 _).2⟩
  · constructor
    · rintro ⟨a, ha, _, _, hi⟩
      exact arc_in hp ((m a).1 ha) h0 h1 hi
    · intro ht
      obtain ⟨a, ha, hi⟩ := arc_ex hp hc.1 f h0 h1 ht
      exact ⟨a, (m a).2 ha, hc, ha.2.2.1, hi⟩
theorem fo_ta {c : Int} {P : Int → Prop} {L : List Pr} (hp : Per c P) (h : Fo c P L) (hc : Cyc c) (t : Int) : Ta c L t ↔ P t := by
  rcases h with ⟨f, _⟩ | ⟨_, h⟩
  · exact absurd hc f
  · exact form_ta hp hc h t
end Go.Proofs.Ytcllijjmjmfedaa
