/- A cycle that is cut open: rows of pieces, what they are joined, what lies between them, what two rows share, and their arcs in form: plain facts. -/
import Derived.Test.YtcllijjmjmfedaaCMath
namespace Go.Proofs.Ytcllijjmjmfedaa
set_option linter.unusedVariables false
set_option linter.unusedSimpArgs false
/-- is tick t of one of the pieces? -/
def Mm (l : List Pr) (t : Int) : Prop := ∃ p, p ∈ l ∧ p.1 ≤ t ∧ t < p.2
/-- pieces of a cycle -/
def Ok (c : Int) (l : List Pr) : Prop := ∀ p, p ∈ l → 0 ≤ p.1 ∧ p.1 < p.2 ∧ p.2 ≤ c
/-- pieces that rise, with a tick of none between any two -/
def Ap (c : Int) (l : List Pr) : Prop := Ok c l ∧ l.Pairwise fun p q => p.2 < q.1
theorem mm_nil (t : Int) : ¬ Mm [] t := by rintro ⟨p, hp, _⟩; simp at hp
theorem mm_cons (p : Pr) (l : List Pr) (t : Int) : Mm (p :: l) t ↔ (p.1 ≤ t ∧ t < p.2) ∨ Mm l t := by
  unfold Mm
  constructor
  · rintro ⟨q, hq, h⟩
    rcases List.mem_cons.1 hq with e | e
    · subst e; exact .inl h
    · exact .inr ⟨q, e, h⟩
  · rintro (h | ⟨q, hq, h⟩)
    · exact ⟨p, by simp, h⟩
    · exact ⟨q, by simp [hq], h⟩
theorem mm_append (l m : List Pr) (t : Int) : Mm (l ++ m) t ↔ Mm l t ∨ Mm m t := by
  unfold Mm
  constructor
  · rintro ⟨q, hq, h⟩
    rcases List.mem_append.1 hq with e | e
    · exact .inl ⟨q, e, h⟩
    · exact .inr ⟨q, e, h⟩
  · rintro (⟨q, hq, h⟩ | ⟨q, hq, h⟩)
    · exact ⟨q, by simp [hq], h⟩
    · exact ⟨q, by simp [hq], h⟩
theorem mm_one (p : Pr) (t : Int) : Mm [p] t ↔ p.1 ≤ t ∧ t < p.2 := by
  rw [mm_cons]; constructor
  · rintro (h | h)
    · exact h
    · exact absurd h (mm_nil t)
  · exact .inl
theorem mm_perm {l m : List Pr} (h : ∀ p, p ∈ l ↔ p ∈ m) (t : Int) : Mm l t ↔ Mm m t := by unfold Mm; simp only [h]
/-! ### one arc, cut open -/
/-- an arc in form -/
def nm (c : Int) (a : Pr) : Pr := if ¬ Cyc c ∨ a.2 < 1 then (0, 0) else if c ≤ a.2 then (0, c) else (a.1 % c, a.2)
/-- what the cut leaves of an arc -/
def pc (c : Int) (a : Pr) : List Pr := if (nm c a).2 = 0 then [] else if (nm c a).1 + (nm c a).2 > c then [((nm c a).1, c), (0, (nm c a).1 + (nm c a).2 - c)] else [((nm c a).1, (nm c a).1 + (nm c a).2)]
def pcs (c : Int) (l : List Pr) : List Pr := l.flatMap (pc c)
theorem nm_bd (c : Int) (a : Pr) : ((nm c a).2 = 0 ∧ (nm c a).1 = 0) ∨ (Cyc c ∧ 0 ≤ (nm c a).1 ∧ (nm c a).1 < c ∧ 1 ≤ (nm c a).2 ∧ (nm c a).2 ≤ c) := by
  unfold nm
  by_cases h : ¬ Cyc c ∨ a.2 < 1
  · rw [if_pos h]; exact .inl ⟨rfl, rfl⟩
  · rw [if_neg h]
    have hc : Cyc c := Classical.byContradiction fun k => h (.inl k)
    have hn : ¬ a.2 < 1 := fun k => h (.inr k)
    have := hc.1
    by_cases h2 : c ≤ a.2
    · rw [if_pos h2]; exact .inr ⟨hc, by simp only; omega, by simp only; omega, by simp only; omega, by simp only; omega⟩
    · rw [if_neg h2]
      have := em_bd hc.1 a.1
      exact .inr ⟨hc, this.1, this.2, by simp only; omega, by simp only; omega⟩
theorem pc_ok (c : Int) (a : Pr) : Ok c (pc c a) := by
  intro p hp
  unfold pc at hp
  rcases nm_bd c a with ⟨h, _⟩ | ⟨hc, h1, h2, h3, h4⟩
  · rw [if_pos h] at hp; simp at hp
  · rw [if_neg (by omega)] at hp
    by_cases h : (nm c a).1 + (nm c a).2 > c
    · rw [if_pos h] at hp
      simp only [List.mem_cons, List.not_mem_nil, or_false] at hp
      rcases hp with rfl | rfl <;> simp only <;> omega
    · rw [if_neg h] at hp
      simp only [List.mem_cons, List.not_mem_nil, or_false] at hp
      subst hp; simp only; omega
theorem pcs_ok (c : Int) (l : List Pr) : Ok c (pcs c l) := by
  intro p hp
  unfold pcs at hp
  rw [List.mem_flatMap] at hp
  obtain ⟨a, _, h⟩ := hp
  exact pc_ok c a p h
theorem pc_mm (c : Int) (a : Pr) (t : Int) (h0 : 0 ≤ t) (h1 : t < c) : Mm (pc c a) t ↔ Ia c a t := by
  have key : ∀ x : Int, nm c a = (x, a.2) → Cyc c → 0 ≤ x → x < c → 1 ≤ a.2 → a.2 < c → (Mm (pc c a) t ↔ (t - x) % c < a.2) := by
    intro x e hc x0 x1 n1 n2
    unfold pc
    rw [e]
    simp only
    rw [if_neg (by omega)]
    by_cases h : x + a.2 > c
    · rw [if_pos h, mm_cons, mm_one]
      simp only
      by_cases hs : 0 ≤ t - x
      · rw [em_one hs (by omega)]; omega
      · rw [em_neg (by omega) (by omega)]; omega
    · rw [if_neg h, mm_one]
      simp only
      by_cases hs : 0 ≤ t - x
      · rw [em_one hs (by omega)]; omega
      · rw [em_neg (by omega) (by omega)]; omega
  by_cases h : ¬ Cyc c ∨ a.2 < 1
  · have e : nm c a = (0, 0) := by unfold nm; rw [if_pos h]
    have e2 : pc c a = [] := by unfold pc; rw [e]; rfl
    rw [e2]
    constructor
    · intro k; exact absurd k (mm_nil t)
    · rintro ⟨k1, k2, _⟩
      rcases h with h | h
      · exact absurd k1 h
      · omega
  · have hc : Cyc c := Classical.byContradiction fun k => h (.inl k)
    have hn : ¬ a.2 < 1 := fun k => h (.inr k)
    by_cases h2 : c ≤ a.2
    · have e : nm c a = (0, c) := by unfold nm; rw [if_neg h, if_pos h2]
      have e2 : pc c a = [(0, c)] := by
        unfold pc; rw [e]; simp only
        rw [if_neg (by have := hc.1; omega), if_neg (by omega), Int.zero_add]
      rw [e2, mm_one]
      constructor
      · intro _; exact ⟨hc, by omega, by have := (em_bd hc.1 (t - a.1)).2; omega⟩
      · intro _; exact ⟨h0, h1⟩
    · have e : nm c a = (a.1 % c, a.2) := by unfold nm; rw [if_neg h, if_neg h2]
      have := em_bd hc.1 a.1
      rw [key _ e hc this.1 this.2 (by omega) (by omega), em_sub]
      exact ⟨fun k => ⟨hc, by omega, k⟩, fun k => k.2.2⟩
theorem pcs_mm (c : Int) (l : List Pr) (t : Int) (h0 : 0 ≤ t) (h1 : t < c) : Mm (pcs c l) t ↔ Ta c l t := by
  constructor
  · rintro ⟨p, hp, h⟩
    unfold pcs at hp
    rw [List.mem_flatMap] at hp
    obtain ⟨a, ha, h2⟩ := hp
    exact ⟨a, ha, (pc_mm c a t h0 h1).1 ⟨p, h2, h⟩⟩
  · rintro ⟨a, ha, h⟩
    obtain ⟨p, hp, h2⟩ := (pc_mm c a t h0 h1).2 h
    exact ⟨p, by unfold pcs; rw [List.mem_flatMap]; exact ⟨a, ha, hp⟩, h2⟩
theorem pc_len (c : Int) (a : Pr) : (pc c a).length ≤ 2 := by
  unfold pc; split
  · simp
  · split <;> simp
theorem pcs_len (c : Int) : ∀ l : List Pr, (pcs c l).length ≤ 2 * l.length
  | [] => by simp [pcs]
  | a :: l => by
    have := pcs_len c l
    have := pc_len c a
    simp only [pcs, List.flatMap_cons, List.length_append, List.length_cons] at *
    omega
theorem pcs_none {c : Int} (h : ¬ Cyc c) (l : List Pr) : pcs c l = [] := by
  induction l with
  | nil => rfl
  | cons a l ih =>
    simp only [pcs, List.flatMap_cons] at *
    rw [ih]
    have e : nm c a = (0, 0) := by unfold nm; rw [if_pos (.inl h)]
    simp [pc, e]
theorem mm_bd {c : Int} {l : List Pr} (h : Ok c l) {t : Int} (ht : Mm l t) : 0 ≤ t ∧ t < c := by
  obtain ⟨p, hp, h1, h2⟩ := ht
  have := h p hp
  omega
/-! ### joined -/
/-- one piece more -/
def jn (A : List Pr) (p : Pr) : List Pr := match A.getLast? with
  | none => [p]
  | some q => if p.1 ≤ q.2 then A.dropLast ++ [(q.1, max q.2 p.2)] else A ++ [p]
def jns (l : List Pr) : List Pr := l.foldl jn []
theorem jn_nil (p : Pr) : jn [] p = [p] := rfl
theorem jn_last (A : List Pr) (q p : Pr) : jn (A ++ [q]) p = if p.1 ≤ q.2 then A ++ [(q.1, max q.2 p.2)] else A ++ [q] ++ [p] := by
  unfold jn
  simp
theorem jn_step {c : Int} {A : List Pr} {p : Pr} (hA : Ap c A) (hp : 0 ≤ p.1 ∧ p.1 < p.2 ∧ p.2 ≤ c) (hb : ∀ q, q ∈ A → q.1 ≤ p.1) :
    Ap c (jn A p) ∧ (∀ t, Mm (jn A p) t ↔ Mm A t ∨ (p.1 ≤ t ∧ t < p.2)) ∧ ∀ q, q ∈ jn A p → q.1 ≤ p.1 := by
  rcases List.eq_nil_or_concat A with rfl | ⟨A, q, rfl⟩
  · rw [jn_nil]
    refine ⟨⟨?_, by simp⟩, ?_, ?_⟩
    · intro q hq; simp at hq; subst hq; exact hp
    · intro t; rw [mm_one]
      constructor
      · exact .inr
      · rintro (h | h)
        · exact absurd h (mm_nil t)
        · exact h
    · intro q hq; simp at hq; subst hq; omega
  · simp only [List.concat_eq_append] at *
    obtain ⟨h1, h2⟩ := hA
    have hq := h1 q (by simp)
    have hqp := hb q (by simp)
    rw [List.pairwise_append] at h2
    obtain ⟨h2, _, h3⟩ := h2
    have h3' : ∀ x, x ∈ A → x.2 < q.1 := fun x hx => h3 x hx q (by simp)
    rw [jn_last]
    by_cases h : p.1 ≤ q.2
    · rw [if_pos h]
      refine ⟨⟨?_, ?_⟩, ?_, ?_⟩
      · intro x hx
        rcases List.mem_append.1 hx with hx | hx
        · exact h1 x (by simp [hx])
        · simp at hx; subst hx; simp only; omega
      · rw [List.pairwise_append]
        refine ⟨h2, by simp, ?_⟩
        intro x hx y hy
        simp at hy; subst hy
        exact h3' x hx
      · intro t
        rw [mm_append, mm_append, mm_one, mm_one]
        simp only
        constructor
        · rintro (h | h)
          · exact .inl (.inl h)
          · by_cases k : t < q.2
            · exact .inl (.inr ⟨h.1, k⟩)
            · exact .inr (by omega)
        · rintro ((h | h) | h)
          · exact .inl h
          · exact .inr (by omega)
          · exact .inr (by omega)
      · intro x hx
        rcases List.mem_append.1 hx with hx | hx
        · exact hb x (by simp [hx])
        · simp at hx; subst hx; exact hqp
    · rw [if_neg h]
      refine ⟨⟨?_, ?_⟩, ?_, ?_⟩
      · intro x hx
        rcases List.mem_append.1 hx with hx | hx
        · exact h1 x hx
        · simp at hx; subst hx; exact hp
      · rw [List.pairwise_append, List.pairwise_append]
        refine ⟨⟨h2, by simp, h3⟩, by simp, ?_⟩
        intro x hx y hy
        simp only [List.mem_singleton] at hy; subst hy
        rcases List.mem_append.1 hx with hx | hx
        · have := h3' x hx; omega
        · simp only [List.mem_singleton] at hx; subst hx; omega
      · intro t
        rw [mm_append (A ++ [q]), mm_one p]
      · intro x hx
        rcases List.mem_append.1 hx with hx | hx
        · exact hb x hx
        · simp only [List.mem_singleton] at hx; subst hx; omega
theorem jns_from {c : Int} : ∀ (l A : List Pr), Ok c l → l.Pairwise (fun p q => p.1 ≤ q.1) → Ap c A → (∀ p, p ∈ l → ∀ q, q ∈ A → q.1 ≤ p.1) →
    Ap c (l.foldl jn A) ∧ ∀ t, Mm (l.foldl jn A) t ↔ Mm A t ∨ Mm l t
  | [], A, _, _, hA, _ => ⟨hA, fun t => by
      show Mm A t ↔ _
      exact ⟨.inl, fun h => h.elim id fun k => absurd k (mm_nil t)⟩⟩
  | p :: l, A, ho, hs, hA, hb => by
    rw [List.pairwise_cons] at hs
    obtain ⟨h1, h2, h3⟩ := jn_step hA (ho p (by simp)) (fun q hq => hb p (by simp) q hq)
    obtain ⟨r1, r2⟩ := jns_from l (jn A p) (fun q hq => ho q (by simp [hq])) hs.2 h1 (fun x hx q hq => by
      have := h3 q hq
      have := hs.1 x hx
      omega)
    refine ⟨r1, fun t => ?_⟩
    rw [List.foldl_cons, r2 t, h2 t, mm_cons]
    constructor
    · rintro ((h | h) | h)
      · exact .inl h
      · exact .inr (.inl h)
      · exact .inr (.inr h)
    · rintro (h | h | h)
      · exact .inl (.inl h)
      · exact .inl (.inr h)
      · exact .inr h
theorem jns_ap {c : Int} {l : List Pr} (ho : Ok c l) (hs : l.Pairwise (fun p q => p.1 ≤ q.1)) : Ap c (jns l) ∧ ∀ t, Mm (jns l) t ↔ Mm l t := by
  obtain ⟨h1, h2⟩ := jns_from l [] ho hs ⟨fun p hp => by simp at hp, List.Pairwise.nil⟩ (fun p _ q hq => by simp at hq)
  refine ⟨h1, fun t => ?_⟩
  unfold jns
  rw [h2 t]
  exact ⟨fun h => h.elim (fun k => absurd k (mm_nil t)) id, .inr⟩
theorem jn_len (A : List Pr) (p : Pr) : (jn A p).length ≤ A.length + 1 := by
  rcases List.eq_nil_or_concat A with rfl | ⟨A, q, rfl⟩
  · simp [jn_nil]
  · simp only [List.concat_eq_append]
    rw [jn_last]; split <;> simp
/-! ### what lies between -/
/-- a piece more: the pieces that are left, and where the rest begins -/
def bt (s : List Pr × Int) (p : Pr) : List Pr × Int := (if p.1 > s.2 then s.1 ++ [(s.2, p.1)] else s.1, p.2)
def bts (c : Int) (l : List Pr) : List Pr := if (l.foldl bt ([], 0)).2 < c then (l.foldl bt ([], 0)).1 ++ [((l.foldl bt ([], 0)).2, c)] else (l.foldl bt ([], 0)).1
/-- what holds when some pieces are gone through: L is left of the ticks below f -/
def Bt (c : Int) (A L : List Pr) (f : Int) : Prop := 0 ≤ f ∧ f ≤ c ∧ Ap c L ∧ (∀ q, q ∈ L → q.2 < f) ∧ ∀ t, 0 ≤ t → t < f → (Mm L t ↔ ¬ Mm A t)
theorem bts_from {c : Int} : ∀ (l A L : List Pr) (f : Int), Ap c l → (∀ p, p ∈ A → p.2 ≤ f) → (∀ p, p ∈ l → f < p.1 ∨ (f = 0 ∧ p.1 = 0 ∧ L = [])) → Bt c A L f →
    Bt c (A ++ l) (l.foldl bt (L, f)).1 (l.foldl bt (L, f)).2 ∧ ∀ p, p ∈ A ++ l → p.2 ≤ (l.foldl bt (L, f)).2
  | [], A, L, f, _, hA, _, hb => by exact ⟨by rw [List.append_nil]; exact hb, by rw [List.append_nil]; exact hA⟩
  | p :: l, A, L, f, hl, hA, hf, ⟨f0, fc, hL, hq, hm⟩ => by
    obtain ⟨ho, hs⟩ := hl
    rw [List.pairwise_cons] at hs
    have hp := ho p (by simp)
    have hfp := hf p (by simp)
    have e : A ++ p :: l = (A ++ [p]) ++ l := by simp
    rw [List.foldl_cons, e]
    refine bts_from l (A ++ [p]) (bt (L, f) p).1 (bt (L, f) p).2 ⟨fun q hq => ho q (by simp [hq]), hs.2⟩ ?_ ?_ ?_
    · intro q hq
      show q.2 ≤ p.2
      rcases List.mem_append.1 hq with h | h
      · have := hA q h; omega
      · simp at h; subst h; omega
    · intro q hq
      left
      exact hs.1 q hq
    · show Bt c (A ++ [p]) (if p.1 > f then L ++ [(f, p.1)] else L) p.2
      have hAf : ∀ t, f ≤ t → ¬ Mm A t := by
        rintro t ht ⟨q, hq, h1, h2⟩
        have := hA q hq
        omega
      by_cases h : p.1 > f
      · rw [if_pos h]
        refine ⟨by omega, hp.2.2, ⟨?_, ?_⟩, ?_, ?_⟩
        · intro q hq'
          rcases List.mem_append.1 hq' with k | k
          · exact hL.1 q k
          · simp at k; subst k; simp only; omega
        · rw [List.pairwise_append]
          refine ⟨hL.2, by simp, ?_⟩
          intro x hx y hy
          simp at hy; subst hy
          exact hq x hx
        · intro q hq'
          rcases List.mem_append.1 hq' with k | k
          · have := hq q k; omega
          · simp at k; subst k; simp only; omega
        · intro t t0 t1
          rw [mm_append, mm_append, mm_one, mm_one]
          simp only
          by_cases k : t < f
          · rw [hm t t0 k]
            constructor
            · rintro (h | h)
              · rintro (h' | h')
                · exact h h'
                · omega
              · omega
            · intro h'
              exact .inl fun h => h' (.inl h)
          · have : ¬ Mm L t := by
              rintro ⟨q, hq', h1, h2⟩
              have := hq q hq'
              omega
            have := hAf t (by omega)
            constructor
            · rintro (h | h)
              · exact absurd h (by assumption)
              · rintro (h' | h')
                · exact absurd h' (by assumption)
                · omega
            · intro h'
              right
              refine ⟨by omega, ?_⟩
              apply Classical.byContradiction
              intro k2
              exact h' (.inr ⟨by omega, t1⟩)
      · rw [if_neg h]
        obtain ⟨rfl, hp0, rfl⟩ : f = 0 ∧ p.1 = 0 ∧ L = [] := by
          rcases hfp with h' | h'
          · omega
          · exact h'
        refine ⟨by omega, hp.2.2, hL, fun q hq' => by simp at hq', ?_⟩
        intro t t0 t1
        constructor
        · intro h'; exact absurd h' (mm_nil t)
        · intro h'
          exact absurd ((mm_append A [p] t).2 (.inr ((mm_one p t).2 ⟨by omega, t1⟩))) h'
theorem bts_ap {c : Int} {l : List Pr} (hc : 0 ≤ c) (h : Ap c l) : Ap c (bts c l) ∧ ∀ t, 0 ≤ t → t < c → (Mm (bts c l) t ↔ ¬ Mm l t) := by
  have hpos : ∀ p, p ∈ l → (0 : Int) < p.1 ∨ ((0 : Int) = 0 ∧ p.1 = 0 ∧ ([] : List Pr) = []) := by
    intro p hp
    have := (h.1 p hp).1
    by_cases k : 0 < p.1
    · exact .inl k
    · exact .inr ⟨rfl, by omega, rfl⟩
  obtain ⟨⟨f0, fc, hL, hq, hm⟩, hA⟩ := bts_from l [] [] 0 h (fun p hp => by simp at hp) hpos ⟨Int.le_refl _, hc, ⟨fun p hp => by simp at hp, List.Pairwise.nil⟩, fun q hq => by simp at hq, fun t t0 t1 => by omega⟩
  simp only [List.nil_append] at hm hA
  unfold bts
  generalize (l.foldl bt ([], 0)).1 = L at *
  generalize (l.foldl bt ([], 0)).2 = f at *
  have hAf : ∀ t, f ≤ t → ¬ Mm l t := by
    rintro t ht ⟨q, hq, h1, h2⟩
    have := hA q hq
    omega
  by_cases k : f < c
  · rw [if_pos k]
    refine ⟨⟨?_, ?_⟩, ?_⟩
    · intro q hq'
      rcases List.mem_append.1 hq' with k | k
      · exact hL.1 q k
      · simp at k; subst k; simp only; omega
    · rw [List.pairwise_append]
      refine ⟨hL.2, by simp, ?_⟩
      intro x hx y hy
      simp at hy; subst hy
      exact hq x hx
    · intro t t0 t1
      rw [mm_append, mm_one]
      simp only
      by_cases kt : t < f
      · rw [hm t t0 kt]
        constructor
        · rintro (h | h)
          · exact h
          · omega
        · exact .inl
      · constructor
        · intro _; exact hAf t (by omega)
        · intro _; exact .inr (by omega)
  · rw [if_neg k]
    exact ⟨hL, fun t t0 t1 => hm t t0 (by omega)⟩
/-! ### what two rows share -/
def cmn : List Pr → List Pr → List Pr
  | [], _ => []
  | _ :: _, [] => []
  | p :: l, q :: m => (if max p.1 q.1 < min p.2 q.2 then [(max p.1 q.1, min p.2 q.2)] else []) ++ (if p.2 < q.2 then cmn l (q :: m) else cmn (p :: l) m)
termination_by l m => l.length + m.length
theorem cmn_cons (p q : Pr) (l m : List Pr) : cmn (p :: l) (q :: m) = (if max p.1 q.1 < min p.2 q.2 then [(max p.1 q.1, min p.2 q.2)] else []) ++ (if p.2 < q.2 then cmn l (q :: m) else cmn (p :: l) m) := by
  rw [cmn]
theorem cmn_nil (m : List Pr) : cmn [] m = [] := by rw [cmn]
theorem cmn_nil' (l : List Pr) : cmn l [] = [] := by cases l <;> rw [cmn]
theorem cmn_ap {c : Int} : ∀ (n : Nat) (l m : List Pr), l.length + m.length ≤ n → Ap c l → Ap c m →
    Ap c (cmn l m) ∧ (∀ x, x ∈ cmn l m → (∃ p, p ∈ l ∧ p.1 ≤ x.1) ∧ ∃ q, q ∈ m ∧ q.1 ≤ x.1) ∧ ∀ t, Mm (cmn l m) t ↔ Mm l t ∧ Mm m t
  | _, [], m, _, _, _ => by
    rw [cmn_nil]
    exact ⟨⟨fun p hp => by simp at hp, List.Pairwise.nil⟩, fun x hx => by simp at hx, fun t => ⟨fun h => absurd h (mm_nil t), fun h => absurd h.1 (mm_nil t)⟩⟩
  | _, p :: l, [], _, _, _ => by
    rw [cmn_nil']
    exact ⟨⟨fun p hp => by simp at hp, List.Pairwise.nil⟩, fun x hx => by simp at hx, fun t => ⟨fun h => absurd h (mm_nil t), fun h => absurd h.2 (mm_nil t)⟩⟩
  | 0, p :: l, q :: m, h, _, _ => by simp at h
  | n + 1, p :: l, q :: m, h, hl, hm => by
    have hp := hl.1 p (by simp)
    have hq := hm.1 q (by simp)
    have hl' : Ap c l := ⟨fun x hx => hl.1 x (by simp [hx]), (List.pairwise_cons.1 hl.2).2⟩
    have hm' : Ap c m := ⟨fun x hx => hm.1 x (by simp [hx]), (List.pairwise_cons.1 hm.2).2⟩
    have sl : ∀ x, x ∈ l → p.2 < x.1 := fun x hx => (List.pairwise_cons.1 hl.2).1 x hx
    have sm : ∀ x, x ∈ m → q.2 < x.1 := fun x hx => (List.pairwise_cons.1 hm.2).1 x hx
    simp only [List.length_cons] at h
    rw [cmn_cons]
    -- what comes behind
    obtain ⟨R, hR⟩ : ∃ R, R = if p.2 < q.2 then cmn l (q :: m) else cmn (p :: l) m := ⟨_, rfl⟩
    rw [← hR]
    have hr : Ap c R ∧ (∀ x, x ∈ R → min p.2 q.2 < x.1) ∧ (∀ x, x ∈ R → (∃ y, y ∈ p :: l ∧ y.1 ≤ x.1) ∧ ∃ y, y ∈ q :: m ∧ y.1 ≤ x.1) ∧ ∀ t, (max p.1 q.1 ≤ t ∧ t < min p.2 q.2) ∨ Mm R t ↔ Mm (p :: l) t ∧ Mm (q :: m) t := by
      by_cases k : p.2 < q.2
      · rw [if_pos k] at hR
        subst hR
        obtain ⟨r1, r2, r3⟩ := cmn_ap n l (q :: m) (by simp only [List.length_cons]; omega) hl' hm
        refine ⟨r1, ?_, ?_, ?_⟩
        · intro x hx
          obtain ⟨⟨y, hy, hyx⟩, _⟩ := r2 x hx
          have := sl y hy
          omega
        · intro x hx
          obtain ⟨⟨y, hy, hyx⟩, h2⟩ := r2 x hx
          exact ⟨⟨y, by simp [hy], hyx⟩, h2⟩
        · intro t
          rw [r3 t, mm_cons p, mm_cons q]
          constructor
          · rintro (h | ⟨h1, h2⟩)
            · exact ⟨.inl (by omega), .inl (by omega)⟩
            · exact ⟨.inr h1, h2⟩
          · rintro ⟨h1 | h1, h2 | h2⟩
            · exact .inl (by omega)
            · obtain ⟨y, hy, y1, y2⟩ := h2
              have := sm y hy
              omega
            · exact .inr ⟨h1, .inl h2⟩
            · exact .inr ⟨h1, .inr h2⟩
      · rw [if_neg k] at hR
        subst hR
        obtain ⟨r1, r2, r3⟩ := cmn_ap n (p :: l) m (by simp only [List.length_cons]; omega) hl hm'
        refine ⟨r1, ?_, ?_, ?_⟩
        · intro x hx
          obtain ⟨_, ⟨y, hy, hyx⟩⟩ := r2 x hx
          have := sm y hy
          omega
        · intro x hx
          obtain ⟨h2, ⟨y, hy, hyx⟩⟩ := r2 x hx
          exact ⟨h2, ⟨y, by simp [hy], hyx⟩⟩
        · intro t
          rw [r3 t, mm_cons p, mm_cons q]
          constructor
          · rintro (h | ⟨h1, h2⟩)
            · exact ⟨.inl (by omega), .inl (by omega)⟩
            · exact ⟨h1, .inr h2⟩
          · rintro ⟨h1 | h1, h2 | h2⟩
            · exact .inl (by omega)
            · exact .inr ⟨.inl h1, h2⟩
            · obtain ⟨y, hy, y1, y2⟩ := h1
              have := sl y hy
              omega
            · exact .inr ⟨.inr h1, h2⟩
    obtain ⟨r1, r2, r3, r4⟩ := hr
    by_cases k : max p.1 q.1 < min p.2 q.2
    · rw [if_pos k]
      refine ⟨⟨?_, ?_⟩, ?_, ?_⟩
      · intro x hx
        rcases List.mem_append.1 hx with hx | hx
        · simp at hx; subst hx; simp only; omega
        · exact r1.1 x hx
      · rw [List.pairwise_append]
        refine ⟨by simp, r1.2, ?_⟩
        intro x hx y hy
        simp at hx; subst hx
        exact r2 y hy
      · intro x hx
        rcases List.mem_append.1 hx with hx | hx
        · simp at hx; subst hx
          exact ⟨⟨p, by simp, by simp only; omega⟩, ⟨q, by simp, by simp only; omega⟩⟩
        · exact r3 x hx
      · intro t
        rw [mm_append, mm_one]
        exact r4 t
    · rw [if_neg k]
      refine ⟨by simpa using r1, by simpa using r3, fun t => ?_⟩
      rw [List.nil_append, ← r4 t]
      exact ⟨.inr, fun h => h.elim (fun h' => by omega) id⟩
end Go.Proofs.Ytcllijjmjmfedaa
