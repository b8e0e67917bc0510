/- Package group, plain: the best of many, each pair once; the search by steps. -/
import Derived.Test.YtakandlehneciaaNum
namespace Go.Proofs.Ytakandlehneciaa
set_option linter.unusedVariables false
set_option linter.unusedSimpArgs false
set_option linter.unusedSectionVars false
set_option maxRecDepth 10000
namespace Gp
/-- is it shorter than the best so far? -/
def lt {β : Type} (B : Option (β × Int)) (x : Int) : Bool := match B with
  | none => true
  | some b => decide (x < b.2)
/-- one more: the best so far -/
def sf {α β : Type} (f : α → Option (β × Int)) (B : Option (β × Int)) (a : α) : Option (β × Int) := match f a with
  | none => B
  | some y => if lt B y.2 = true then some y else B
def idl {α β : Type} (f : α → Option (β × Int)) (B : Option (β × Int)) (a : α) : Prop := ∀ y, f a = some y → lt B y.2 = false
theorem sf_idl {α β : Type} {f : α → Option (β × Int)} {B : Option (β × Int)} {a : α} (h : idl f B a) : sf f B a = B := by
  unfold sf
  cases h1 : f a with
  | none => rfl
  | some y => simp [h y h1]
theorem idl_self {α β : Type} (f : α → Option (β × Int)) (B : Option (β × Int)) (a : α) : idl f (sf f B a) a := by
  intro y hy
  unfold sf
  rw [hy]
  simp only
  cases h : lt B y.2 with
  | false => simp [h]
  | true => simp [lt]
theorem lt_sf {α β : Type} (f : α → Option (β × Int)) (B : Option (β × Int)) (a : α) (x : Int) (h : lt B x = false) : lt (sf f B a) x = false := by
  unfold sf
  cases hy : f a with
  | none => exact h
  | some y =>
    simp only
    cases h1 : lt B y.2 with
    | false => simpa using h
    | true =>
      cases B with
      | none => simp [lt] at h
      | some b => simp [lt] at h h1 ⊢; omega
theorem idl_sf {α β : Type} {f : α → Option (β × Int)} {B : Option (β × Int)} {c : α} (h : idl f B c) (a : α) : idl f (sf f B a) c := fun y hy => lt_sf f B a y.2 (h y hy)
theorem fold_idl {α β : Type} {f : α → Option (β × Int)} : ∀ (l : List α) (B : Option (β × Int)), (∀ a ∈ l, idl f B a) → l.foldl (sf f) B = B
  | [], B, _ => rfl
  | a :: l, B, h => by
    rw [List.foldl_cons, sf_idl (h a (by simp))]
    exact fold_idl l B fun c hc => h c (by simp [hc])
theorem fold_lt {α β : Type} {f : α → Option (β × Int)} : ∀ (l : List α) (B : Option (β × Int)) (x : Int), lt B x = false → lt (l.foldl (sf f) B) x = false
  | [], B, x, h => h
  | a :: l, B, x, h => fold_lt l _ x (lt_sf f B a x h)
theorem fold_all {α β : Type} {f : α → Option (β × Int)} : ∀ (l : List α) (B : Option (β × Int)), ∀ a ∈ l, idl f (l.foldl (sf f) B) a
  | c :: l, B, a, ha => by
    rw [List.foldl_cons]
    rcases List.mem_cons.1 ha with rfl | ha
    · exact fun y hy => fold_lt l _ _ (idl_self f B a y hy)
    · exact fold_all l _ a ha
/-- what is told is one of them, or what it was -/
theorem fold_in {α β : Type} {f : α → Option (β × Int)} : ∀ (l : List α) (B : Option (β × Int)), l.foldl (sf f) B = B ∨ ∃ a ∈ l, ∃ y, f a = some y ∧ l.foldl (sf f) B = some y
  | [], B => .inl rfl
  | c :: l, B => by
    rw [List.foldl_cons]
    rcases fold_in l (sf f B c) with h | ⟨a, ha, y, h1, h2⟩
    · rw [h]
      unfold sf
      cases hy : f c with
      | none => exact .inl rfl
      | some y =>
        simp only
        by_cases h1 : lt B y.2 = true
        · rw [if_pos h1]; exact .inr ⟨c, by simp, y, hy, rfl⟩
        · rw [if_neg h1]; exact .inl rfl
    · exact .inr ⟨a, by simp [ha], y, h1, h2⟩
theorem fold_none {α β : Type} {f : α → Option (β × Int)} {l : List α} {B : Option (β × Int)} (h : l.foldl (sf f) B = none) : ∀ a ∈ l, f a = none := fun a ha => by
  cases hy : f a with
  | none => rfl
  | some y =>
    have := fold_all l B a ha y hy
    rw [h] at this
    simp [lt] at this
/-- what is left out is no shorter than something ahead of it -/
theorem fold_keep {α β : Type} {f : α → Option (β × Int)} (keep : α → Bool) : ∀ (l pre : List α) (B : Option (β × Int)), (∀ a ∈ pre, idl f B a) → (∀ p y q, pre ++ l = p ++ y :: q → keep y = false → ∃ z ∈ p, ∀ v, f y = some v → ∃ u, f z = some u ∧ u.2 ≤ v.2) → l.foldl (sf f) B = (l.filter keep).foldl (sf f) B
  | [], pre, B, _, _ => rfl
  | a :: l, pre, B, hp, hd => by
    have hn : (∀ c ∈ pre ++ [a], idl f (sf f B a) c) := fun c hc => by
      rcases List.mem_append.1 hc with hc | hc
      · exact idl_sf (hp c hc) a
      · simp at hc; subst hc; exact idl_self f B c
    have ih := fold_keep keep l (pre ++ [a]) (sf f B a) hn (fun p y q h => hd p y q (by rw [← h]; simp))
    rw [List.foldl_cons, ih, List.filter_cons]
    cases hk : keep a with
    | true => simp
    | false =>
      obtain ⟨z, hz, hv⟩ := hd pre a l rfl hk
      have : sf f B a = B := sf_idl fun y hy => by
        obtain ⟨u, hu, hl⟩ := hv y hy
        have := hp z hz u hu
        cases B with
        | none => simp [lt] at this
        | some b => simp [lt] at this ⊢; omega
      simp [this]
/-- all rows of n bits, in their order -/
def allB : Nat → List (List Bool)
  | 0 => [[]]
  | n + 1 => (allB n).map (false :: ·) ++ (allB n).map (true :: ·)
theorem mem_allB : ∀ {n : Nat} {M : List Bool}, M ∈ allB n ↔ M.length = n
  | 0, M => by simp [allB]
  | n + 1, M => by
    cases M with
    | nil => simp [allB]
    | cons b M => cases b <;> simp [allB, mem_allB]
theorem allB_len : ∀ n, (allB n).length = 2 ^ n
  | 0 => rfl
  | n + 1 => by simp [allB, allB_len n, Nat.pow_succ]; omega
/-- bits as a number, the first the highest -/
def nv : List Bool → Nat
  | [] => 0
  | b :: L => (if b then 2 ^ L.length else 0) + nv L
theorem nv_lt : ∀ L : List Bool, nv L < 2 ^ L.length
  | [] => by simp [nv]
  | b :: L => by
    have := nv_lt L
    simp only [nv, List.length_cons, Nat.pow_succ]
    split <;> omega
theorem allB_up : ∀ n, (allB n).Pairwise fun a b => nv a < nv b
  | 0 => by simp [allB]
  | n + 1 => by
    rw [allB, List.pairwise_append]
    refine ⟨?_, ?_, ?_⟩
    · rw [List.pairwise_map]
      refine (allB_up n).imp ?_
      intro a b h
      simpa [nv] using h
    · rw [List.pairwise_map]
      refine (allB_up n).imp_of_mem ?_
      intro a b ha hb h
      have h1 := mem_allB.1 ha
      have h2 := mem_allB.1 hb
      simp only [nv, h1, h2]
      simpa using h
    · intro a ha b hb
      obtain ⟨a, ha2, rfl⟩ := List.mem_map.1 ha
      obtain ⟨b, hb2, rfl⟩ := List.mem_map.1 hb
      have h0 := nv_lt a
      have h1 := mem_allB.1 ha2
      have h2 := mem_allB.1 hb2
      rw [h1] at h0
      simp only [nv, h1, h2]
      simp
      omega
/-- bit by bit no more: no greater -/
def ble : List Bool → List Bool → Prop
  | [], [] => True
  | a :: A, b :: B => (a = true → b = true) ∧ ble A B
  | _, _ => False
theorem ble_nv : ∀ {A B : List Bool}, ble A B → A.length = B.length ∧ nv A ≤ nv B ∧ (nv A = nv B → A = B)
  | [], [], _ => by simp
  | a :: A, b :: B, h => by
    obtain ⟨h1, h2, h3⟩ := ble_nv h.2
    have hA := nv_lt A
    have hB := nv_lt B
    have h4 := h.1
    simp only [nv, List.length_cons, h1]
    rw [h1] at hA
    cases a <;> cases b <;> simp at h4 ⊢
    · exact ⟨h2, h3⟩
    · exact ⟨by omega, by omega⟩
    · exact ⟨h2, h3⟩
theorem pw_in {n : Nat} {p q : List (List Bool)} {y z : List Bool} (h : allB n = p ++ y :: q) (hz : z.length = n) (hl : nv z < nv y) : z ∈ p := by
  have hu := allB_up n
  have hm : z ∈ allB n := mem_allB.2 hz
  rw [h] at hu hm
  rcases List.mem_append.1 hm with h1 | h1
  · exact h1
  · rw [List.pairwise_append, List.pairwise_cons] at hu
    rcases List.mem_cons.1 h1 with rfl | h1
    · omega
    · have := hu.2.1.1 z h1; omega
section Dn
variable {α : Type} [DecidableEq α]
/-- each once, those in S left out -/
def dn (S : List α) : List α → List α
  | [] => []
  | p :: P => if p ∈ S then dn S P else p :: dn (S ++ [p]) P
theorem dn_mem : ∀ (P S : List α) (x : α), x ∈ S ++ dn S P ↔ x ∈ S ++ P
  | [], S, x => by simp [dn]
  | p :: P, S, x => by
    rw [dn]
    by_cases h : p ∈ S
    · rw [if_pos h, dn_mem P S x]
      simp only [List.mem_append, List.mem_cons]
      constructor
      · rintro (h | h) <;> simp [h]
      · rintro (h1 | rfl | h1)
        · exact .inl h1
        · exact .inl h
        · exact .inr h1
    · have := dn_mem P (S ++ [p]) x
      rw [if_neg h]
      simp only [List.mem_append, List.mem_cons, List.append_assoc, List.cons_append, List.nil_append] at this ⊢
      exact this
theorem dn_nd : ∀ (P S : List α), S.Nodup → (S ++ dn S P).Nodup
  | [], S, h => by simpa [dn] using h
  | p :: P, S, h => by
    rw [dn]
    by_cases hp : p ∈ S
    · rw [if_pos hp]; exact dn_nd P S h
    · rw [if_neg hp]
      have := dn_nd P (S ++ [p]) (by
        rw [List.nodup_append]
        exact ⟨h, by simp, fun a ha b hb => by simp at hb; subst hb; intro e; subst e; exact hp ha⟩)
      simpa using this
theorem dn_len : ∀ (P S : List α), (dn S P).length ≤ P.length
  | [], S => by simp [dn]
  | p :: P, S => by
    rw [dn]
    split
    · have := dn_len P S; simp; omega
    · have := dn_len P (S ++ [p]); simp; omega
theorem dn_snoc : ∀ (P S : List α) (p : α), dn S (P ++ [p]) = if p ∈ S ++ dn S P then dn S P else dn S P ++ [p]
  | [], S, p => by simp [dn]
  | q :: P, S, p => by
    rw [List.cons_append, dn, dn]
    by_cases hq : q ∈ S
    · rw [if_pos hq, if_pos hq, dn_snoc P S p]
    · rw [if_neg hq, if_neg hq, dn_snoc P (S ++ [q]) p]
      simp only [List.append_assoc, List.cons_append, List.nil_append]
      split <;> simp
def lk (S : List (α × Bool)) (p : α) : Option Bool := S.lookup p
/-- the bits of all, out of those of each once -/
def ex (S : List (α × Bool)) : List α → List Bool → List Bool
  | [], _ => []
  | p :: P, L => match S.lookup p with
    | some b => b :: ex S P L
    | none => match L with
      | [] => []
      | b :: L => b :: ex (S ++ [(p, b)]) P L
/-- do equal ones have equal bits? -/
def con (S : List (α × Bool)) : List α → List Bool → Bool
  | [], _ => true
  | _ :: _, [] => true
  | p :: P, b :: M => match S.lookup p with
    | some s => s == b && con S P M
    | none => con (S ++ [(p, b)]) P M
theorem lk_none {S : List (α × Bool)} {p : α} : S.lookup p = none ↔ p ∉ S.map (·.1) := by
  induction S with
  | nil => simp
  | cons x S ih =>
    obtain ⟨q, b⟩ := x
    rw [List.lookup_cons]
    by_cases h : p = q
    · subst h; simp
    · have : (p == q) = false := by simpa using h
      simp [this, ih, h]
theorem lk_some {S : List (α × Bool)} {p : α} {b : Bool} (h : S.lookup p = some b) : (p, b) ∈ S := by
  induction S with
  | nil => simp at h
  | cons x S ih =>
    obtain ⟨q, c⟩ := x
    rw [List.lookup_cons] at h
    by_cases hq : p = q
    · subst hq; simp at h; subst h; simp
    · have : (p == q) = false := by simpa using hq
      rw [this] at h
      simp [ih h]
theorem con_filter : ∀ (P : List α) (S : List (α × Bool)), (allB P.length).filter (con S P) = (allB (dn (S.map (·.1)) P).length).map (ex S P)
  | [], S => by simp [allB, dn, con, ex]
  | p :: P, S => by
    rw [List.length_cons, allB, List.filter_append, List.filter_map, List.filter_map]
    cases h : S.lookup p with
    | some s =>
      have hm : p ∈ S.map (·.1) := by
        have := lk_some h
        exact List.mem_map.2 ⟨_, this, rfl⟩
      rw [dn, if_pos hm]
      have e1 : (con S (p :: P)) ∘ (fun x => s :: x) = con S P := by funext M; simp [con, h]
      have e2 : ∀ M, con S (p :: P) ((!s) :: M) = false := fun M => by simp [con, h]
      have e3 : (fun L => ex S (p :: P) L) = fun L => s :: ex S P L := by funext L; simp [ex, h]
      have ih := con_filter P S
      have e4 : (allB P.length).filter ((con S (p :: P)) ∘ (fun x => (!s) :: x)) = [] := by
        rw [List.filter_eq_nil_iff]; intro a _; simp [e2]
      cases s
      · simp only [Bool.not_false] at e4
        rw [e1, e4, ih]
        simp [ex, h]
      · simp only [Bool.not_true] at e4
        rw [e1, e4, ih]
        simp [ex, h]
    | none =>
      have hm : p ∉ S.map (·.1) := lk_none.1 h
      rw [dn, if_neg hm, List.length_cons, allB, List.map_append, List.map_map, List.map_map]
      have e1 : ∀ b : Bool, (con S (p :: P)) ∘ (fun x => b :: x) = con (S ++ [(p, b)]) P := fun b => by funext M; simp [con, h]
      have e2 : ∀ b : Bool, (ex S (p :: P)) ∘ (fun x => b :: x) = fun L => b :: ex (S ++ [(p, b)]) P L := fun b => by funext L; simp [ex, h]
      have ih := fun b : Bool => con_filter P (S ++ [(p, b)])
      simp only [List.map_append, List.map_cons, List.map_nil] at ih
      rw [e1, e1, e2, e2, ih, ih, List.map_map, List.map_map]
      rfl
theorem ex_len : ∀ (P : List α) (S : List (α × Bool)) (L : List Bool), L.length = (dn (S.map (·.1)) P).length → (ex S P L).length = P.length
  | [], S, L, h => by simp [ex]
  | p :: P, S, L, h => by
    cases h1 : S.lookup p with
    | some s =>
      have hm : p ∈ S.map (·.1) := List.mem_map.2 ⟨_, lk_some h1, rfl⟩
      rw [dn, if_pos hm] at h
      simp [ex, h1, ex_len P S L h]
    | none =>
      rw [dn, if_neg (lk_none.1 h1)] at h
      cases L with
      | nil => simp at h
      | cons b L =>
        have := ex_len P (S ++ [(p, b)]) L (by simpa using h)
        simp [ex, h1, this]
theorem ex_mem : ∀ (P : List α) (S : List (α × Bool)) (L : List Bool), L.length = (dn (S.map (·.1)) P).length → ∀ x, x ∈ S ++ P.zip (ex S P L) ↔ x ∈ S ++ (dn (S.map (·.1)) P).zip L
  | [], S, L, h, x => by simp [ex, dn]
  | p :: P, S, L, h, x => by
    cases h1 : S.lookup p with
    | some s =>
      have hk := lk_some h1
      have hm : p ∈ S.map (·.1) := List.mem_map.2 ⟨_, hk, rfl⟩
      rw [dn, if_pos hm] at h ⊢
      have ih := ex_mem P S L h x
      simp only [ex, h1, List.zip_cons_cons, List.mem_append, List.mem_cons] at ih ⊢
      rw [← ih]
      constructor
      · rintro (h | rfl | h)
        · exact .inl h
        · exact .inl hk
        · exact .inr h
      · rintro (h | h) <;> simp [h]
    | none =>
      have hm := lk_none.1 h1
      rw [dn, if_neg hm] at h ⊢
      cases L with
      | nil => simp at h
      | cons b L =>
        have ih := ex_mem P (S ++ [(p, b)]) L (by simpa using h) x
        simp only [ex, h1, List.zip_cons_cons, List.mem_append, List.mem_cons, List.map_append, List.map_cons, List.map_nil, List.not_mem_nil, or_false] at ih ⊢
        rw [or_assoc, or_assoc] at ih
        exact ih
theorem con_map (k : α → Bool) : ∀ (P : List α) (S : List (α × Bool)), (∀ x ∈ S, x.2 = k x.1) → con S P (P.map k) = true
  | [], S, _ => rfl
  | p :: P, S, h => by
    rw [List.map_cons, con]
    cases h1 : S.lookup p with
    | some s =>
      have := h _ (lk_some h1)
      simp only at this
      simp [this, con_map k P S h]
    | none =>
      simp only
      exact con_map k P _ fun x hx => by
        rcases List.mem_append.1 hx with hx | hx
        · exact h x hx
        · simp at hx; subst hx; rfl
/-- the lesser one of what is at odds -/
def nb (P : List α) (M : List Bool) : List Bool := P.map fun p => decide ((p, false) ∉ P.zip M)
theorem zip_map_self (k : α → Bool) : ∀ P : List α, P.zip (P.map k) = P.map fun p => (p, k p)
  | [] => rfl
  | p :: P => by simp [zip_map_self k P]
theorem zip_has : ∀ (P : List α) (M : List Bool), M.length = P.length → ∀ p ∈ P, ∃ b, (p, b) ∈ P.zip M
  | [], M, _, p, h => by simp at h
  | q :: P, [], h, p, _ => by simp at h
  | q :: P, b :: M, h, p, hp => by
    rcases List.mem_cons.1 hp with rfl | hp
    · exact ⟨b, by simp⟩
    · obtain ⟨c, hc⟩ := zip_has P M (by simpa using h) p hp
      exact ⟨c, by simp [hc]⟩
theorem nb_sub {P : List α} {M : List Bool} (h : M.length = P.length) : ∀ x ∈ P.zip (nb P M), x ∈ P.zip M := by
  intro x hx
  rw [nb, zip_map_self] at hx
  obtain ⟨p, hp, rfl⟩ := List.mem_map.1 hx
  obtain ⟨b, hb⟩ := zip_has P M h p hp
  by_cases hf : (p, false) ∈ P.zip M
  · simp [hf]
  · cases b with
    | false => exact absurd hb hf
    | true => simpa [hf] using hb
theorem ble_of (X : List (α × Bool)) : ∀ (P : List α) (M : List Bool), M.length = P.length → (∀ x ∈ P.zip M, x ∈ X) → ble (P.map fun p => decide ((p, false) ∉ X)) M
  | [], [], _, _ => trivial
  | [], b :: M, h, _ => by simp at h
  | p :: P, [], h, _ => by simp at h
  | p :: P, b :: M, h, hx => by
    refine ⟨fun h1 => ?_, ble_of X P M (by simpa using h) fun x h2 => hx x (by simp [h2])⟩
    cases b with
    | true => rfl
    | false => simp at h1; exact absurd (hx (p, false) (by simp)) h1
theorem nb_lt {P : List α} {M : List Bool} (h : M.length = P.length) (hc : con [] P M = false) : nv (nb P M) < nv M := by
  have h1 := ble_nv (ble_of (P.zip M) P M h fun x hx => hx)
  have h2 : nb P M ≠ M := fun e => by
    rw [← e, nb, con_map _ P [] (by simp)] at hc
    exact absurd hc (by simp)
  have h3 : nv (nb P M) ≠ nv M := fun e => h2 (h1.2.2 e)
  have h4 := h1.2.1
  unfold nb at *
  omega
/-- all, or each once: the same best -/
theorem fold_same {α β : Type} {f g : α → Option (β × Int)} : ∀ (l : List α) (B : Option (β × Int)), (∀ a ∈ l, f a = g a) → l.foldl (sf f) B = l.foldl (sf g) B
  | [], B, _ => rfl
  | a :: l, B, h => by
    have : sf f B a = sf g B a := by unfold sf; rw [h a (by simp)]
    rw [List.foldl_cons, List.foldl_cons, this]
    exact fold_same l _ fun c hc => h c (by simp [hc])
theorem once {β : Type} {F : List (α × Bool) → Option (β × Int)} (hF : ∀ X Y, (∀ x ∈ X, x ∈ Y) → ∀ v, F Y = some v → ∃ u, F X = some u ∧ u.2 ≤ v.2) (hS : ∀ X Y, (∀ x, x ∈ X ↔ x ∈ Y) → F X = F Y) (P : List α) (B : Option (β × Int)) : (allB P.length).foldl (sf fun M => F (P.zip M)) B = (allB (dn [] P).length).foldl (sf fun L => F ((dn [] P).zip L)) B := by
  rw [fold_keep (con [] P) (allB P.length) [] B (by simp), con_filter P [], List.foldl_map]
  · refine fold_same (f := fun L => F (P.zip (ex [] P L))) _ B fun L hL => hS _ _ fun x => ?_
    have := ex_mem P [] L (mem_allB.1 hL) x
    simpa using this
  · intro p y q h hk
    have hy : y.length = P.length := mem_allB.1 (by rw [List.nil_append] at h; rw [h]; simp)
    refine ⟨nb P y, pw_in (by simpa using h) (by simp [nb]) (nb_lt hy hk), fun v hv => hF _ _ (nb_sub hy) v hv⟩
end Dn
end Gp
namespace Gp
section Go
variable {O β : Type}
/-- the search: how many steps there are yet, the best so far, what is to be looked at -/
def go (f : O → List Bool → Option (β × Int)) (n : Nat) (fl : Int) : Nat → Option (β × Int) → List (O × List Bool) → Bool × Option (β × Int) × Nat
  | k, B, [] => (true, B, k)
  | 0, B, _ :: _ => (false, B, 0)
  | k + 1, B, t :: T => match f t.1 t.2 with
    | none => go f n fl k B T
    | some y => if lt B y.2 = true then (if t.2.length < n then go f n fl k B ((t.1, t.2 ++ [false]) :: (t.1, t.2 ++ [true]) :: T) else if y.2 = fl then (true, some y, k) else go f n fl k (some y) T) else go f n fl k B T
variable {f : O → List Bool → Option (β × Int)} {n : Nat} {fl : Int}
theorem go_nil (k : Nat) (B : Option (β × Int)) : go f n fl k B [] = (true, B, k) := by cases k <;> rfl
theorem go_out (B : Option (β × Int)) (t : O × List Bool) (T : List (O × List Bool)) : go f n fl 0 B (t :: T) = (false, B, 0) := rfl
theorem go_none {k : Nat} {B : Option (β × Int)} {t : O × List Bool} {T : List (O × List Bool)} (h : f t.1 t.2 = none) : go f n fl (k + 1) B (t :: T) = go f n fl k B T := by rw [go, h]
theorem go_long {k : Nat} {B : Option (β × Int)} {t : O × List Bool} {T : List (O × List Bool)} {y : β × Int} (h : f t.1 t.2 = some y) (hl : lt B y.2 = false) : go f n fl (k + 1) B (t :: T) = go f n fl k B T := by rw [go, h]; simp [hl]
theorem go_two {k : Nat} {B : Option (β × Int)} {t : O × List Bool} {T : List (O × List Bool)} {y : β × Int} (h : f t.1 t.2 = some y) (hl : lt B y.2 = true) (hn : t.2.length < n) : go f n fl (k + 1) B (t :: T) = go f n fl k B ((t.1, t.2 ++ [false]) :: (t.1, t.2 ++ [true]) :: T) := by rw [go, h]; simp [hl, hn]
theorem go_stop {k : Nat} {B : Option (β × Int)} {t : O × List Bool} {T : List (O × List Bool)} {y : β × Int} (h : f t.1 t.2 = some y) (hl : lt B y.2 = true) (hn : ¬ t.2.length < n) (he : y.2 = fl) : go f n fl (k + 1) B (t :: T) = (true, some y, k) := by rw [go, h]; simp only [hl, hn, if_true, if_false, if_pos he]
theorem go_on {k : Nat} {B : Option (β × Int)} {t : O × List Bool} {T : List (O × List Bool)} {y : β × Int} (h : f t.1 t.2 = some y) (hl : lt B y.2 = true) (hn : ¬ t.2.length < n) (he : ¬ y.2 = fl) : go f n fl (k + 1) B (t :: T) = go f n fl k (some y) T := by rw [go, h]; simp [hl, hn, he]
/-- one of the five -/
theorem go_case (B : Option (β × Int)) (t : O × List Bool) : (f t.1 t.2 = none) ∨ (∃ y, f t.1 t.2 = some y ∧ lt B y.2 = false) ∨ (∃ y, f t.1 t.2 = some y ∧ lt B y.2 = true ∧ t.2.length < n) ∨ (∃ y, f t.1 t.2 = some y ∧ lt B y.2 = true ∧ ¬ t.2.length < n ∧ y.2 = fl) ∨ (∃ y, f t.1 t.2 = some y ∧ lt B y.2 = true ∧ ¬ t.2.length < n ∧ ¬ y.2 = fl) := by
  cases h : f t.1 t.2 with
  | none => exact .inl rfl
  | some y =>
    right
    cases hl : lt B y.2 with
    | false => exact .inl ⟨y, rfl, hl⟩
    | true =>
      right
      by_cases hn : t.2.length < n
      · exact .inl ⟨y, rfl, hl, hn⟩
      · right
        by_cases he : y.2 = fl
        · exact .inl ⟨y, rfl, hl, hn, he⟩
        · exact .inr ⟨y, rfl, hl, hn, he⟩
/-- no more steps are left than there were, and none where they were too few -/
theorem go_le : ∀ (k : Nat) (B : Option (β × Int)) (T : List (O × List Bool)), (go f n fl k B T).2.2 ≤ k ∧ ((go f n fl k B T).1 = false → (go f n fl k B T).2.2 = 0)
  | k, B, [] => by rw [go_nil]; simp
  | 0, B, t :: T => by rw [go_out]; simp
  | k + 1, B, t :: T => by
    have ih := go_le k
    have up : ∀ B T, (go f n fl k B T).2.2 ≤ k + 1 ∧ ((go f n fl k B T).1 = false → (go f n fl k B T).2.2 = 0) := fun B T => ⟨by have := (ih B T).1; omega, (ih B T).2⟩
    rcases go_case (f := f) (n := n) (fl := fl) B t with h | ⟨y, h, h1⟩ | ⟨y, h, h1, h2⟩ | ⟨y, h, h1, h2, h3⟩ | ⟨y, h, h1, h2, h3⟩
    · rw [go_none h]; exact up _ _
    · rw [go_long h h1]; exact up _ _
    · rw [go_two h h1 h2]; exact up _ _
    · rw [go_stop h h1 h2 h3]; simp
    · rw [go_on h h1 h2 h3]; exact up _ _
/-- with more steps it tells the same -/
theorem go_more : ∀ (k j : Nat) (B : Option (β × Int)) (T : List (O × List Bool)), (go f n fl k B T).1 = true → go f n fl (k + j) B T = (true, (go f n fl k B T).2.1, (go f n fl k B T).2.2 + j)
  | k, j, B, [], _ => by rw [go_nil, go_nil]
  | 0, j, B, t :: T, h => by rw [go_out] at h; simp at h
  | k + 1, j, B, t :: T, hh => by
    have ih := go_more k j
    rw [show k + 1 + j = (k + j) + 1 by omega]
    rcases go_case (f := f) (n := n) (fl := fl) B t with h | ⟨y, h, h1⟩ | ⟨y, h, h1, h2⟩ | ⟨y, h, h1, h2, h3⟩ | ⟨y, h, h1, h2, h3⟩
    · rw [go_none h] at hh ⊢; rw [go_none h]; exact ih _ _ hh
    · rw [go_long h h1] at hh ⊢; rw [go_long h h1]; exact ih _ _ hh
    · rw [go_two h h1 h2] at hh ⊢; rw [go_two h h1 h2]; exact ih _ _ hh
    · rw [go_stop h h1 h2 h3, go_stop h h1 h2 h3]
    · rw [go_on h h1 h2 h3] at hh ⊢; rw [go_on h h1 h2 h3]; exact ih _ _ hh
/-- all that is to come of something to be looked at -/
def lvs (n : Nat) (t : O × List Bool) : List (O × List Bool) := (allB (n - t.2.length)).map fun M => (t.1, t.2 ++ M)
theorem lvs_two {t : O × List Bool} (h : t.2.length < n) : lvs n t = lvs n (t.1, t.2 ++ [false]) ++ lvs n (t.1, t.2 ++ [true]) := by
  obtain ⟨m, hm⟩ : ∃ m, n - t.2.length = m + 1 := ⟨n - t.2.length - 1, by omega⟩
  unfold lvs
  simp only [List.length_append, List.length_cons, List.length_nil]
  rw [hm, show n - (t.2.length + (0 + 1)) = m by omega, allB]
  simp [List.map_map, Function.comp_def]
theorem lvs_end {t : O × List Bool} (h : t.2.length = n) : lvs n t = [t] := by
  unfold lvs; rw [h, Nat.sub_self]; simp [allB]
def fl2 (f : O → List Bool → Option (β × Int)) (t : O × List Bool) : Option (β × Int) := f t.1 t.2
/-- it tells the best of all -/
theorem go_fold (hm : ∀ o L M y, f o (L ++ M) = some y → ∃ x, f o L = some x ∧ x.2 ≤ y.2) (hf : ∀ o L y, L.length = n → f o L = some y → fl ≤ y.2) : ∀ (k : Nat) (B : Option (β × Int)) (T : List (O × List Bool)), (∀ t ∈ T, t.2.length ≤ n) → (go f n fl k B T).1 = true → (go f n fl k B T).2.1 = (T.flatMap (lvs n)).foldl (sf (fl2 f)) B
  | k, B, [], _, _ => by rw [go_nil]; rfl
  | 0, B, t :: T, _, h => by rw [go_out] at h; simp at h
  | k + 1, B, t :: T, hT, hh => by
    have ih := go_fold hm hf k
    have hT2 : ∀ s ∈ T, s.2.length ≤ n := fun s hs => hT s (by simp [hs])
    rw [List.flatMap_cons, List.foldl_append]
    rcases go_case (f := f) (n := n) (fl := fl) B t with h | ⟨y, h, h1⟩ | ⟨y, h, h1, h2⟩ | ⟨y, h, h1, h2, h3⟩ | ⟨y, h, h1, h2, h3⟩
    · rw [go_none h] at hh ⊢
      rw [fold_idl (lvs n t) B, ih _ _ hT2 hh]
      intro a ha y hy
      obtain ⟨M, _, rfl⟩ := List.mem_map.1 ha
      obtain ⟨x, hx, _⟩ := hm _ _ _ _ hy
      rw [h] at hx; cases hx
    · rw [go_long h h1] at hh ⊢
      rw [fold_idl (lvs n t) B, ih _ _ hT2 hh]
      intro a ha v hv
      obtain ⟨M, _, rfl⟩ := List.mem_map.1 ha
      obtain ⟨x, hx, hl⟩ := hm _ _ _ _ hv
      rw [h] at hx; cases hx
      cases B with
      | none => simp [lt] at h1
      | some b => simp [lt] at h1 ⊢; omega
    · rw [go_two h h1 h2] at hh ⊢
      rw [ih _ _ (by intro s hs; simp at hs; rcases hs with rfl | rfl | hs; · simp; omega
                     · simp; omega
                     · exact hT2 s hs) hh, List.flatMap_cons, List.flatMap_cons, List.foldl_append, List.foldl_append, lvs_two h2, List.foldl_append]
    · rw [go_stop h h1 h2 h3]
      have hn : t.2.length = n := by have := hT t (by simp); omega
      rw [lvs_end hn]
      have e1 : [t].foldl (sf (fl2 f)) B = some y := by simp [sf, fl2, h, h1]
      rw [e1, fold_idl]
      intro a ha v hv
      obtain ⟨s, hs, ha⟩ := List.mem_flatMap.1 ha
      have hs2 := hT2 s hs
      obtain ⟨M, hM, rfl⟩ := List.mem_map.1 ha
      have := hf _ _ _ (by simp [mem_allB.1 hM]; omega) hv
      simp [lt]; omega
    · rw [go_on h h1 h2 h3] at hh ⊢
      have hn : t.2.length = n := by have := hT t (by simp); omega
      rw [lvs_end hn, ih _ _ hT2 hh]
      have e1 : [t].foldl (sf (fl2 f)) B = some y := by simp [sf, fl2, h, h1]
      rw [e1]
/-- how many steps it takes at most -/
def cst (n : Nat) (t : O × List Bool) : Nat := 2 ^ (n - t.2.length + 1) - 1
def csts (n : Nat) : List (O × List Bool) → Nat
  | [] => 0
  | t :: T => cst n t + csts n T
theorem go_done : ∀ (k : Nat) (B : Option (β × Int)) (T : List (O × List Bool)), csts n T ≤ k → (go f n fl k B T).1 = true
  | k, B, [], _ => by rw [go_nil]
  | 0, B, t :: T, h => by
    have : 0 < 2 ^ (n - t.2.length) := Nat.pow_pos (by decide)
    simp only [csts, cst, Nat.pow_succ] at h
    omega
  | k + 1, B, t :: T, hk => by
    have ih := go_done k
    have h0 : 0 < 2 ^ (n - t.2.length) := Nat.pow_pos (by decide)
    simp only [csts] at hk
    have hc : 1 ≤ cst n t := by simp only [cst, Nat.pow_succ]; omega
    rcases go_case (f := f) (n := n) (fl := fl) B t with h | ⟨y, h, h1⟩ | ⟨y, h, h1, h2⟩ | ⟨y, h, h1, h2, h3⟩ | ⟨y, h, h1, h2, h3⟩
    · rw [go_none h]; exact ih _ _ (by omega)
    · rw [go_long h h1]; exact ih _ _ (by omega)
    · rw [go_two h h1 h2]
      refine ih _ _ ?_
      obtain ⟨m, hm⟩ : ∃ m, n - t.2.length = m + 1 := ⟨n - t.2.length - 1, by omega⟩
      simp only [csts, cst, List.length_append, List.length_cons, List.length_nil, show n - (t.2.length + (0 + 1)) = m by omega]
      simp only [cst, hm] at hk
      have : 2 ^ (m + 1 + 1) = 2 * 2 ^ (m + 1) := by rw [Nat.pow_succ]; omega
      have h9 : 0 < 2 ^ (m + 1) := Nat.pow_pos (by decide)
      omega
    · rw [go_stop h h1 h2 h3]
    · rw [go_on h h1 h2 h3]; exact ih _ _ (by omega)
theorem csts_all {O : Type} (n : Nat) : ∀ l : List O, csts n (l.map fun o => (o, [])) = l.length * (2 ^ (n + 1) - 1)
  | [] => by simp [csts]
  | o :: l => by simp [csts, csts_all n l, cst, Nat.add_mul]; omega
end Go
end Gp
end Go.Proofs.Ytakandlehneciaa
