/- The document's way, plain: of the ways that go by no point twice the first one. -/
import Derived.Test.YtakandlehneciaaPaN
namespace Go.Proofs.Ytakandlehneciaa
set_option linter.unusedVariables false
set_option linter.unusedSimpArgs false
set_option maxRecDepth 10000
namespace Pa
/-- does a row of points go by edges that T lets be, and end there? -/
def isW (T : Nat → Nat → Bool) (to : Nat) : List Nat → Prop
  | [] => False
  | [a] => a = to
  | a :: b :: w => T a b = true ∧ isW T to (b :: w)
/-- which row is first -/
def le : List Nat → List Nat → Prop
  | [], _ => True
  | _ :: _, [] => False
  | a :: v, b :: w => a < b ∨ (a = b ∧ le v w)
theorem le_one : ∀ v w : List Nat, le v w → le w v → v = w
  | [], [], _, _ => rfl
  | [], _ :: _, _, h => absurd h (by simp [le])
  | _ :: _, [], h, _ => absurd h (by simp [le])
  | a :: v, b :: w, h, h' => by
    simp only [le] at h h'
    rcases h with h | ⟨rfl, h⟩
    · rcases h' with h' | ⟨h', _⟩ <;> omega
    · rcases h' with h' | ⟨_, h'⟩
      · omega
      · rw [le_one v w h h']
/-- the first that is told, of m points from p on -/
def lp (f : Nat → List Nat) : Nat → Nat → List Nat
  | _, 0 => []
  | p, m + 1 => if f p = [] then lp f (p + 1) m else f p
theorem lp_no (f : Nat → List Nat) : ∀ m p, (lp f p m = [] ↔ ∀ q, p ≤ q → q < p + m → f q = [])
  | 0, p => ⟨fun _ q h1 h2 => by omega, fun _ => rfl⟩
  | m + 1, p => by
    unfold lp
    by_cases h : f p = []
    · rw [if_pos h, lp_no f m (p + 1)]
      refine ⟨fun h1 q h2 h3 => ?_, fun h1 q h2 h3 => h1 q (by omega) (by omega)⟩
      by_cases hq : q = p
      · subst hq; exact h
      · exact h1 q (by omega) (by omega)
    · rw [if_neg h]
      exact ⟨fun h1 => absurd h1 h, fun h1 => absurd (h1 p (by omega) (by omega)) h⟩
theorem lp_yes (f : Nat → List Nat) : ∀ m p, lp f p m ≠ [] → ∃ q, p ≤ q ∧ q < p + m ∧ lp f p m = f q ∧ ∀ r, p ≤ r → r < q → f r = []
  | 0, p, h => absurd rfl h
  | m + 1, p, h => by
    unfold lp at h ⊢
    by_cases h0 : f p = []
    · rw [if_pos h0] at h ⊢
      obtain ⟨q, h1, h2, h3, h4⟩ := lp_yes f m (p + 1) h
      refine ⟨q, by omega, by omega, h3, fun r h5 h6 => ?_⟩
      by_cases hr : r = p
      · subst hr; exact h0
      · exact h4 r (by omega) h6
    · rw [if_neg h0] at h ⊢
      exact ⟨p, Nat.le_refl _, by omega, rfl, fun r h5 h6 => by omega⟩
/-- is a point gone by already? -/
def ub (u : List Bool) (p : Nat) : Bool := u.getD p false
/-- the document's on -/
def onW (T : Nat → Nat → Bool) (n to : Nat) : Nat → Nat → List Bool → List Nat
  | 0, _, _ => []
  | f + 1, a, u => if a = to then [to] else
      let r := lp (fun p => if ub (u.set a true) p = true then [] else if T a p = true then onW T n to f p (u.set a true) else []) 0 n
      if r = [] then [] else a :: r
/-- a way from a point on, by points that are not gone by -/
def Ok (T : Nat → Nat → Bool) (n to : Nat) (u : List Bool) (a : Nat) (w : List Nat) : Prop := (∃ r, w = a :: r) ∧ isW T to w ∧ w.Nodup ∧ ∀ x ∈ w, x < n ∧ ub u x = false
theorem ub_set {u : List Bool} {a : Nat} (h : a < u.length) (p : Nat) : ub (u.set a true) p = true ↔ p = a ∨ ub u p = true := by
  unfold ub
  rw [List.getD_eq_getElem?_getD, List.getElem?_set]
  by_cases e : a = p
  · subst e; simp [h]
  · have e' : ¬ p = a := fun x => e x.symm
    simp [e, e', List.getD_eq_getElem?_getD]
theorem cf_set : ∀ (u : List Bool) (a : Nat), a < u.length → ub u a = false → (u.set a true).count false + 1 = u.count false
  | [], a, h, _ => absurd h (by simp)
  | b :: u, 0, h, h0 => by
    have : b = false := by simpa [ub] using h0
    subst this; simp
  | b :: u, a + 1, h, h0 => by
    have h1 : ub u a = false := by simpa [ub] using h0
    have := cf_set u a (by simpa using h) h1
    rw [List.set_cons_succ, List.count_cons, List.count_cons]
    omega
theorem ok_step {T : Nat → Nat → Bool} {n to : Nat} {u : List Bool} {a : Nat} (hu : u.length = n) (ha : a < n) (h0 : ub u a = false) {w : List Nat} (hat : a ≠ to) : Ok T n to u a w ↔ ∃ p r, w = a :: r ∧ T a p = true ∧ ub (u.set a true) p = false ∧ p < n ∧ Ok T n to (u.set a true) p r := by
  constructor
  · rintro ⟨⟨r, rfl⟩, h2, h3, h4⟩
    cases r with
    | nil => exact absurd h2 hat
    | cons p r =>
      have hn := List.nodup_cons.1 h3
      have hx : ∀ x ∈ p :: r, x < n ∧ ub (u.set a true) x = false := fun x hx => by
        have h5 := h4 x (List.mem_cons_of_mem _ hx)
        refine ⟨h5.1, ?_⟩
        cases hb : ub (u.set a true) x with
        | false => rfl
        | true =>
          rcases (ub_set (by omega) x).1 hb with rfl | h6
          · exact absurd hx hn.1
          · rw [h5.2] at h6; exact absurd h6 (by simp)
      exact ⟨p, p :: r, rfl, h2.1, (hx p (by simp)).2, (hx p (by simp)).1, ⟨r, rfl⟩, h2.2, hn.2, hx⟩
  · rintro ⟨p, r, rfl, h1, h2, h3, ⟨s, rfl⟩, h5, h6, h7⟩
    refine ⟨⟨_, rfl⟩, ⟨h1, h5⟩, List.nodup_cons.2 ⟨fun hx => ?_, h6⟩, fun x hx => ?_⟩
    · have := (h7 a hx).2
      rw [(ub_set (by omega) a).2 (.inl rfl)] at this
      exact absurd this (by simp)
    · rcases List.mem_cons.1 hx with rfl | hx
      · exact ⟨ha, h0⟩
      · refine ⟨(h7 x hx).1, ?_⟩
        cases hb : ub u x with
        | false => rfl
        | true =>
          have := (h7 x hx).2
          rw [(ub_set (by omega) x).2 (.inr hb)] at this
          exact absurd this (by simp)
theorem on_one (T : Nat → Nat → Bool) (n to : Nat) : ∀ f a u, u.length = n → a < n → ub u a = false → u.count false ≤ f → (onW T n to f a u = [] ∧ ∀ w, ¬ Ok T n to u a w) ∨ (Ok T n to u a (onW T n to f a u) ∧ ∀ w, Ok T n to u a w → le (onW T n to f a u) w)
  | 0, a, u, hu, ha, h0, hf => by
    have := cf_set u a (by omega) h0
    omega
  | f + 1, a, u, hu, ha, h0, hf => by
    have hc := cf_set u a (by omega) h0
    by_cases hat : a = to
    · subst hat
      simp only [onW, if_true]
      refine .inr ⟨⟨⟨[], rfl⟩, rfl, by simp, fun x hx => ?_⟩, ?_⟩
      · have : x = a := by simpa using hx
        subst this; exact ⟨ha, h0⟩
      · rintro w ⟨⟨r, rfl⟩, _⟩
        exact .inr ⟨rfl, trivial⟩
    · have hs := fun w => @ok_step T n to u a hu ha h0 w hat
      have ih := fun p (hp : p < n) (h1 : ub (u.set a true) p = false) => on_one T n to f p (u.set a true) (by simpa using hu) hp h1 (by omega)
      simp only [onW, if_neg hat]
      generalize hF : (fun p => if ub (u.set a true) p = true then [] else if T a p = true then onW T n to f p (u.set a true) else []) = F
      have hF' : ∀ p, F p = (if ub (u.set a true) p = true then [] else if T a p = true then onW T n to f p (u.set a true) else []) := fun p => by rw [← hF]
      by_cases hr : lp F 0 n = []
      · rw [if_pos hr]
        refine .inl ⟨rfl, fun w hw => ?_⟩
        obtain ⟨p, r, rfl, h1, h2, h3, h4⟩ := (hs w).1 hw
        have h5 := (lp_no F n 0).1 hr p (by omega) (by omega)
        rw [hF', h2, if_neg (by simp), if_pos h1] at h5
        rcases ih p h3 h2 with ⟨_, h6⟩ | ⟨⟨⟨r', h6⟩, _⟩, _⟩
        · exact h6 _ h4
        · rw [h5] at h6; exact absurd h6 (by simp)
      · rw [if_neg hr]
        obtain ⟨q, h1, h2, h3, h4⟩ := lp_yes F n 0 hr
        have h5 : F q ≠ [] := by rw [← h3]; exact hr
        have h6 : ub (u.set a true) q = false := by
          cases hb : ub (u.set a true) q with
          | false => rfl
          | true => exact absurd (by rw [hF', if_pos hb]) h5
        have h7 : T a q = true := by
          cases hb : T a q with
          | true => rfl
          | false => exact absurd (by rw [hF', h6, if_neg (by simp), hb, if_neg (by simp)]) h5
        have h8 : F q = onW T n to f q (u.set a true) := by rw [hF', h6, if_neg (by simp), if_pos h7]
        rw [h3, h8]
        rcases ih q (by omega) h6 with ⟨h9, _⟩ | ⟨h9, h10⟩
        · exact absurd (h8.trans h9) h5
        · refine .inr ⟨(hs _).2 ⟨q, _, rfl, h7, h6, by omega, h9⟩, fun w hw => ?_⟩
          obtain ⟨p, r, rfl, g1, g2, g3, g4⟩ := (hs w).1 hw
          refine .inr ⟨rfl, ?_⟩
          have hpq : q ≤ p := by
            by_cases hlt : p < q
            · have := h4 p (by omega) hlt
              rw [hF', g2, if_neg (by simp), if_pos g1] at this
              rcases ih p g3 g2 with ⟨_, k1⟩ | ⟨⟨⟨r', k1⟩, _⟩, _⟩
              · exact absurd g4 (k1 _)
              · rw [this] at k1; exact absurd k1 (by simp)
            · omega
          by_cases he : p = q
          · subst he; exact h10 _ g4
          · obtain ⟨⟨r1, e1⟩, _⟩ := h9
            obtain ⟨⟨r2, e2⟩, _⟩ := g4
            rw [e1, e2]
            exact .inl (by omega)
end Pa
end Go.Proofs.Ytakandlehneciaa
