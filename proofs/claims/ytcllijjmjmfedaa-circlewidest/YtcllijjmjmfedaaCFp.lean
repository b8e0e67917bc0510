/- Pieces of a cycle as arcs in form; how many ticks there are: plain facts. -/
import Derived.Test.YtcllijjmjmfedaaCPiece
namespace Go.Proofs.Ytcllijjmjmfedaa
set_option linter.unusedVariables false
set_option linter.unusedSimpArgs false
/-- a piece as an arc -/
def ar (p : Pr) : Pr := (p.1, p.2 - p.1)
theorem ap_tri {l : List Pr} (h : l.Pairwise fun p q => p.2 < q.1) : ∀ {p q : Pr}, p ∈ l → q ∈ l → p = q ∨ p.2 < q.1 ∨ q.2 < p.1 := by
  induction l with
  | nil => intro p q hp; simp at hp
  | cons x l ih =>
    rw [List.pairwise_cons] at h
    intro p q hp hq
    rcases List.mem_cons.1 hp with e1 | k1
    · rcases List.mem_cons.1 hq with e2 | k2
      · exact .inl (e1.trans e2.symm)
      · rw [e1]; exact .inr (.inl (h.1 q k2))
    · rcases List.mem_cons.1 hq with e2 | k2
      · rw [e2]; exact .inr (.inr (h.1 p k1))
      · exact ih h.2 k1 k2
theorem ap_end {c : Int} {l : List Pr} (h : Ap c l) {p : Pr} (hp : p ∈ l) : ¬ Mm l p.2 := by
  rintro ⟨q, hq, h1, h2⟩
  have := h.1 p hp
  have := h.1 q hq
  rcases ap_tri h.2 hp hq with rfl | k | k <;> omega
theorem ap_ahead {c : Int} {l : List Pr} (h : Ap c l) {p : Pr} (hp : p ∈ l) : ¬ Mm l (p.1 - 1) := by
  rintro ⟨q, hq, h1, h2⟩
  have := h.1 p hp
  have := h.1 q hq
  rcases ap_tri h.2 hp hq with rfl | k | k <;> omega
theorem ap_rise {c : Int} {l : List Pr} (h : Ap c l) : Rise (l.map ar) := by
  unfold Rise
  rw [List.pairwise_map]
  refine List.Pairwise.imp_of_mem (fun {a b} ha hb hab => ?_) h.2
  have := h.1 a ha
  show a.1 < b.1
  omega
/-- an arc begins where a piece begins -/
theorem arc_piece {c : Int} {P : Int → Prop} {l : List Pr} (hp : Per c P) (h : Ap c l) (hm : ∀ t, 0 ≤ t → t < c → (P t ↔ Mm l t)) {a : Pr} (ha : Arc c P a) : ∃ p, p ∈ l ∧ p.1 = a.1 := by
  obtain ⟨a0, a1, n1, nc, hk, hn, hb⟩ := ha
  have h0 := hk 0 (by omega) (by omega)
  rw [Int.add_zero, hm _ a0 a1] at h0
  obtain ⟨p, hpl, p1, p2⟩ := h0
  refine ⟨p, hpl, ?_⟩
  apply Classical.byContradiction
  intro hne
  have := h.1 p hpl
  exact hb ((hm _ (by omega) (by omega)).2 ⟨p, hpl, by omega, by omega⟩)
/-- where the row does not go over the end -/
theorem form_plain {c : Int} {P : Int → Prop} {l : List Pr} (hp : Per c P) (hc : 1 ≤ c) (h : Ap c l) (hm : ∀ t, 0 ≤ t → t < c → (P t ↔ Mm l t))
    (hn : ∀ p q, p ∈ l → q ∈ l → p.1 = 0 → q.2 = c → l = [p]) : FormOf c P (l.map ar) := by
  by_cases hf : Full c P
  · left
    refine ⟨hf, ?_⟩
    obtain ⟨p, hpl, p1, p2⟩ := (hm 0 (by omega) (by omega)).1 (hf 0 (by omega) (by omega))
    have hpo := h.1 p hpl
    have e0 : p.1 = 0 := by omega
    have ec : p.2 = c := by
      apply Classical.byContradiction
      intro k
      exact ap_end h hpl ((hm _ (by omega) (by omega)).1 (hf _ (by omega) (by omega)))
    rw [hn p p hpl hpl e0 ec]
    simp [ar, e0, ec]
  · right
    refine ⟨hf, ap_rise h, fun a => ?_⟩
    have fwd : ∀ p, p ∈ l → Arc c P (ar p) := by
      intro p hpl
      have hpo := h.1 p hpl
      have hw : ∀ q r, q ∈ l → r ∈ l → q.1 = 0 → r.2 = c → False := by
        intro q r hq hr q0 rc
        have e := hn q r hq hr q0 rc
        rw [e] at hr
        simp at hr
        subst hr
        exact hf fun t t0 t1 => (hm t t0 t1).2 ⟨r, hq, by omega, by omega⟩
      refine ⟨by show 0 ≤ p.1; omega, by show p.1 < c; omega, by show 1 ≤ p.2 - p.1; omega, ?_, ?_, ?_, ?_⟩
      · show p.2 - p.1 < c
        apply Classical.byContradiction
        intro k
        exact hw p p hpl hpl (by omega) (by omega)
      · intro k k0 k1
        show P (p.1 + k)
        have : k < p.2 - p.1 := k1
        exact (hm _ (by omega) (by omega)).2 ⟨p, hpl, by omega, by omega⟩
      · show ¬ P (p.1 + (p.2 - p.1))
        rw [show p.1 + (p.2 - p.1) = p.2 by omega]
        by_cases k : p.2 < c
        · rw [hm _ (by omega) k]; exact ap_end h hpl
        · have e : p.2 = 0 + c := by omega
          rw [e, hp, hm _ (by omega) (by omega)]
          rintro ⟨q, hq, q1, q2⟩
          have := h.1 q hq
          exact hw q p hq hpl (by omega) (by omega)
      · show ¬ P (p.1 - 1)
        by_cases k : 0 < p.1
        · rw [hm _ (by omega) (by omega)]; exact ap_ahead h hpl
        · rw [← hp, hm _ (by omega) (by omega)]
          rintro ⟨q, hq, q1, q2⟩
          have := h.1 q hq
          exact hw p q hpl hq (by omega) (by omega)
    constructor
    · intro ha
      rw [List.mem_map] at ha
      obtain ⟨p, hpl, rfl⟩ := ha
      exact fwd p hpl
    · intro ha
      obtain ⟨p, hpl, e⟩ := arc_piece hp h hm ha
      have h2 := fwd p hpl
      have : a = ar p := by
        obtain ⟨x, n⟩ := a
        simp only at e
        subst e
        rw [arc_len ha h2]
        rfl
      rw [this]
      exact List.mem_map_of_mem hpl
/-- where the last one goes on with the first one -/
theorem form_wrap {c : Int} {P : Int → Prop} {x z : Pr} {m : List Pr} (hp : Per c P) (hc : 1 ≤ c) (h : Ap c (x :: (m ++ [z]))) (hm : ∀ t, 0 ≤ t → t < c → (P t ↔ Mm (x :: (m ++ [z])) t))
    (hx : x.1 = 0) (hz : z.2 = c) : FormOf c P (m.map ar ++ [(z.1, z.2 - z.1 + (x.2 - x.1))]) := by
  have xm : x ∈ x :: (m ++ [z]) := by simp
  have zm : z ∈ x :: (m ++ [z]) := by simp
  have mm : ∀ p, p ∈ m → p ∈ x :: (m ++ [z]) := fun p hp => by simp [hp]
  have hs := h.2
  rw [List.pairwise_cons, List.pairwise_append] at hs
  obtain ⟨s1, s2, _, s3⟩ := hs
  have xo := h.1 x xm
  have zo := h.1 z zm
  have xz := s1 z (by simp)
  have nx : ¬ P x.2 := by rw [hm _ (by omega) (by omega)]; exact ap_end h xm
  right
  refine ⟨fun hf => nx (hf _ (by omega) (by omega)), ?_, fun a => ?_⟩
  · unfold Rise
    rw [List.pairwise_append]
    refine ⟨ap_rise ⟨fun p hp => h.1 p (mm p hp), s2⟩, by simp, ?_⟩
    intro a ha b hb
    rw [List.mem_map] at ha
    obtain ⟨p, hpm, rfl⟩ := ha
    simp at hb
    subst hb
    have := s3 p hpm z (by simp)
    have := h.1 p (mm p hpm)
    show p.1 < z.1
    omega
  · have fz : Arc c P (z.1, z.2 - z.1 + (x.2 - x.1)) := by
      refine ⟨by show 0 ≤ z.1; omega, by show z.1 < c; omega, by show 1 ≤ z.2 - z.1 + (x.2 - x.1); omega, by show z.2 - z.1 + (x.2 - x.1) < c; omega, ?_, ?_, ?_⟩
      · intro k k0 k1
        show P (z.1 + k)
        have k2 : k < z.2 - z.1 + (x.2 - x.1) := k1
        by_cases hk : z.1 + k < c
        · exact (hm _ (by omega) hk).2 ⟨z, zm, by omega, by omega⟩
        · rw [← per_dn hp]
          exact (hm _ (by omega) (by omega)).2 ⟨x, xm, by omega, by omega⟩
      · show ¬ P (z.1 + (z.2 - z.1 + (x.2 - x.1)))
        rw [show z.1 + (z.2 - z.1 + (x.2 - x.1)) = x.2 + c by omega, hp]
        exact nx
      · show ¬ P (z.1 - 1)
        rw [hm _ (by omega) (by omega)]
        exact ap_ahead h zm
    have fm : ∀ p, p ∈ m → Arc c P (ar p) := by
      intro p hpm
      have hpo := h.1 p (mm p hpm)
      have h1 := s1 p (by simp [hpm])
      have h2 := s3 p hpm z (by simp)
      refine ⟨by show 0 ≤ p.1; omega, by show p.1 < c; omega, by show 1 ≤ p.2 - p.1; omega, by show p.2 - p.1 < c; omega, ?_, ?_, ?_⟩
      · intro k k0 k1
        show P (p.1 + k)
        have : k < p.2 - p.1 := k1
        exact (hm _ (by omega) (by omega)).2 ⟨p, mm p hpm, by omega, by omega⟩
      · show ¬ P (p.1 + (p.2 - p.1))
        rw [show p.1 + (p.2 - p.1) = p.2 by omega, hm _ (by omega) (by omega)]
        exact ap_end h (mm p hpm)
      · show ¬ P (p.1 - 1)
        rw [hm _ (by omega) (by omega)]
        exact ap_ahead h (mm p hpm)
    constructor
    · intro ha
      rcases List.mem_append.1 ha with ha | ha
      · rw [List.mem_map] at ha
        obtain ⟨p, hpm, rfl⟩ := ha
        exact fm p hpm
      · simp at ha
        subst ha
        exact fz
    · intro ha
      obtain ⟨p, hpl, e⟩ := arc_piece hp h hm ha
      have same : ∀ n, Arc c P (p.1, n) → a = (p.1, n) := by
        intro n hn
        obtain ⟨y, k⟩ := a
        simp only at e
        subst e
        rw [arc_len ha hn]
      rcases List.mem_cons.1 hpl with rfl | hpl
      · exfalso
        have := ha.2.2.2.2.2.2
        rw [← e, hx, ← hp] at this
        exact this ((hm _ (by omega) (by omega)).2 ⟨z, zm, by omega, by omega⟩)
      · rcases List.mem_append.1 hpl with hpl | hpl
        · rw [same _ (fm p hpl)]
          exact List.mem_append.2 (.inl (List.mem_map_of_mem hpl))
        · simp at hpl
          subst hpl
          rw [same _ fz]
          simp
/-! ### how many ticks -/
open Classical in
noncomputable def cnt (P : Int → Prop) : Nat → Int
  | 0 => 0
  | n + 1 => cnt P n + if P n then 1 else 0
theorem cnt_yes {P : Int → Prop} {n : Nat} (h : P n) : cnt P (n + 1) = cnt P n + 1 := by simp [cnt, h]
theorem cnt_no {P : Int → Prop} {n : Nat} (h : ¬ P n) : cnt P (n + 1) = cnt P n := by simp [cnt, h]
theorem cnt_congr {P Q : Int → Prop} : ∀ n : Nat, (∀ t : Int, 0 ≤ t → t < n → (P t ↔ Q t)) → cnt P n = cnt Q n
  | 0, _ => rfl
  | n + 1, h => by
    have ih := cnt_congr (P := P) (Q := Q) n fun t a b => h t a (by omega)
    by_cases k : P n
    · rw [cnt_yes k, cnt_yes ((h n (by omega) (by omega)).1 k), ih]
    · rw [cnt_no k, cnt_no (fun q => k ((h n (by omega) (by omega)).2 q)), ih]
theorem cnt_bd (P : Int → Prop) : ∀ n : Nat, 0 ≤ cnt P n ∧ cnt P n ≤ n
  | 0 => by simp [cnt]
  | n + 1 => by
    have := cnt_bd P n
    by_cases k : P n
    · rw [cnt_yes k]; omega
    · rw [cnt_no k]; omega
theorem cnt_full {P : Int → Prop} : ∀ n : Nat, cnt P n = n ↔ ∀ t : Int, 0 ≤ t → t < n → P t
  | 0 => ⟨fun _ t a b => by omega, fun _ => rfl⟩
  | n + 1 => by
    have ih := cnt_full (P := P) n
    have bd := cnt_bd P n
    by_cases k : P n
    · rw [cnt_yes k]
      constructor
      · intro h t a b
        by_cases e : t = n
        · rw [e]; exact k
        · exact ih.1 (by omega) t a (by omega)
      · intro h
        have := ih.2 fun t a b => h t a (by omega)
        omega
    · rw [cnt_no k]
      constructor
      · intro h; omega
      · intro h; exact absurd (h n (by omega) (by omega)) k
theorem cnt_not (P : Int → Prop) : ∀ n : Nat, cnt P n + cnt (fun t => ¬ P t) n = n
  | 0 => rfl
  | n + 1 => by
    have := cnt_not P n
    by_cases k : P n
    · rw [cnt_yes k, cnt_no (P := fun t => ¬ P t) (fun h => h k)]; omega
    · rw [cnt_no k, cnt_yes (P := fun t => ¬ P t) k]; omega
theorem cnt_or {P Q : Int → Prop} (h : ∀ t, ¬ (P t ∧ Q t)) : ∀ n : Nat, cnt (fun t => P t ∨ Q t) n = cnt P n + cnt Q n
  | 0 => rfl
  | n + 1 => by
    have ih := cnt_or h n
    by_cases k : P n
    · rw [cnt_yes (P := fun t => P t ∨ Q t) (.inl k), cnt_yes k, cnt_no (P := Q) (fun q => h n ⟨k, q⟩)]; omega
    · by_cases q : Q n
      · rw [cnt_yes (P := fun t => P t ∨ Q t) (.inr q), cnt_no k, cnt_yes q]; omega
      · rw [cnt_no (P := fun t => P t ∨ Q t) (fun r => r.elim k q), cnt_no k, cnt_no q]; omega
theorem cnt_iv {a b : Int} (h0 : 0 ≤ a) (h1 : a ≤ b) : ∀ n : Nat, cnt (fun t => a ≤ t ∧ t < b) n = if (n : Int) ≤ a then 0 else if (n : Int) ≤ b then n - a else b - a
  | 0 => by rw [if_pos (by omega)]; rfl
  | n + 1 => by
    have ih := cnt_iv h0 h1 n
    by_cases k : a ≤ (n : Int) ∧ (n : Int) < b
    · rw [cnt_yes (P := fun t => a ≤ t ∧ t < b) k, ih]
      rw [if_neg (show ¬ ((n + 1 : Nat) : Int) ≤ a by omega), if_pos (show ((n + 1 : Nat) : Int) ≤ b by omega)]
      split
      · omega
      · rw [if_pos (by omega)]; omega
    · rw [cnt_no (P := fun t => a ≤ t ∧ t < b) k, ih]
      repeat' split
      all_goals omega
def tot (l : List Pr) : Int := l.foldl (fun s p => s + (p.2 - p.1)) 0
theorem tot_from : ∀ (l : List Pr) (s : Int), l.foldl (fun s p => s + (p.2 - p.1)) s = s + tot l
  | [], s => by simp [tot]
  | p :: l, s => by
    unfold tot
    rw [List.foldl_cons, List.foldl_cons, tot_from l (s + (p.2 - p.1)), tot_from l (0 + (p.2 - p.1))]
    omega
theorem tot_cons (p : Pr) (l : List Pr) : tot (p :: l) = (p.2 - p.1) + tot l := by
  show l.foldl _ (0 + (p.2 - p.1)) = _
  rw [tot_from]; omega
theorem tot_cnt {c : Int} : ∀ {l : List Pr}, Ap c l → tot l = cnt (Mm l) c.toNat
  | [], _ => by
    have : cnt (Mm []) c.toNat = cnt (fun t => ¬ True) c.toNat := cnt_congr _ fun t _ _ => ⟨fun h => absurd h (mm_nil t), fun h => absurd trivial h⟩
    rw [this]
    have h2 := cnt_not (fun _ => True) c.toNat
    have h3 := (cnt_full (P := fun _ => True) c.toNat).2 fun _ _ _ => trivial
    show 0 = _
    omega
  | p :: l, h => by
    have hl : Ap c l := ⟨fun x hx => h.1 x (by simp [hx]), (List.pairwise_cons.1 h.2).2⟩
    have hp := h.1 p (by simp)
    have e : cnt (Mm (p :: l)) c.toNat = cnt (fun t => (p.1 ≤ t ∧ t < p.2) ∨ Mm l t) c.toNat := cnt_congr _ fun t _ _ => mm_cons p l t
    rw [tot_cons, tot_cnt hl, e, cnt_or, cnt_iv hp.1 (by omega)]
    · rw [if_neg (by omega)]
      split <;> omega
    · rintro t ⟨⟨a, b⟩, ⟨q, hq, q1, q2⟩⟩
      have := (List.pairwise_cons.1 h.2).1 q hq
      omega
theorem cnt_next {P : Int → Prop} : ∀ n : Nat, cnt (fun t => P (t - 1)) (n + 1) + cnt (fun t => P (n + 0 * t)) 0 = cnt P n + cnt (fun t => P (t - 1)) 1
  | 0 => by simp [cnt]
  | n + 1 => by
    have ih := cnt_next (P := P) n
    have e : ((n + 1 : Nat) : Int) - 1 = n := by omega
    by_cases k : P n
    · rw [cnt_yes (P := fun t => P (t - 1)) (n := n + 1) (by show P _; rw [e]; exact k), cnt_yes k]
      simp only [cnt] at ih ⊢
      omega
    · rw [cnt_no (P := fun t => P (t - 1)) (n := n + 1) (by show ¬ P _; rw [e]; exact k), cnt_no k]
      simp only [cnt] at ih ⊢
      omega
theorem cnt_turn1 {c : Int} {P : Int → Prop} (hp : Per c P) (hc : 1 ≤ c) : cnt (fun t => P (t - 1)) c.toNat = cnt P c.toNat := by
  obtain ⟨n, hn⟩ : ∃ n, c.toNat = n + 1 := ⟨c.toNat - 1, by omega⟩
  rw [hn]
  have h1 := cnt_next (P := P) n
  have z : cnt (fun t => P (n + 0 * t)) 0 = 0 := rfl
  by_cases k : P n
  · rw [cnt_yes k]
    have : cnt (fun t => P (t - 1)) 1 = 1 := by
      rw [cnt_yes (P := fun t => P (t - 1)) (n := 0)]
      · rfl
      · show P _
        rw [← hp]
        rw [show ((0 : Nat) : Int) - 1 + c = n by omega]
        exact k
    omega
  · rw [cnt_no k]
    have : cnt (fun t => P (t - 1)) 1 = 0 := by
      rw [cnt_no (P := fun t => P (t - 1)) (n := 0)]
      · rfl
      · show ¬ P _
        rw [← hp]
        rw [show ((0 : Nat) : Int) - 1 + c = n by omega]
        exact k
    omega
theorem cnt_turn {c : Int} {P : Int → Prop} (hp : Per c P) (hc : 1 ≤ c) : ∀ b : Nat, cnt (fun t => P (t - b)) c.toNat = cnt P c.toNat
  | 0 => by
    apply cnt_congr
    intro t _ _
    simp
  | b + 1 => by
    rw [← cnt_turn hp hc b, ← cnt_turn1 (per_sub hp b) hc]
    apply cnt_congr
    intro t _ _
    show P _ ↔ P _
    rw [show t - ((b + 1 : Nat) : Int) = t - 1 - b by omega]
end Go.Proofs.Ytcllijjmjmfedaa
