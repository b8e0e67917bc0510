/- Which tokens are right: both say the same. -/
import Derived.Test.YtpmfgnolojmimaaLRRight
namespace Go.Proofs.Ytpmfgnolojmimaa
open Go.RowKit
set_option linter.unusedVariables false
set_option linter.unusedSimpArgs false
set_option maxRecDepth 10000
theorem sv_data (l : List UInt8) : (sv l).data.toList = l := rfl
theorem sv_tl (l : List UInt8) : (sv l).toList = l := ByteArray.toList_mk l
theorem rg_ok {t x y : Tok} (h : T t.s = .ok [x, y]) : rg t = (decide (x.k = t.k) && decide (x.n = t.n) && decide (x.s = t.s)) := by unfold rg; rw [h]
theorem rg_no {t : Tok} (h : ∀ x y, T t.s ≠ .ok [x, y]) : rg t = false := by
  unfold rg
  split
  · rename_i x y hx; exact absurd hx (h x y)
  · rfl
theorem ts_two {w : World} {v : Value} {x y : Tok} (h : Ts w v [x, y]) : ∃ ad cap, v = .slice (some ad) 2 cap ∧ ad.block < w.heap.size ∧ Tc w ad x := by
  obtain ⟨a, cap, rfl, _, h⟩ := h
  obtain ⟨ad, rfl, hb, h1⟩ := h 0 (by simp)
  have e : ad.add (0 * 4) = ad := by simp [Addr.add]
  rw [e] at h1
  exact ⟨ad, cap, rfl, hb, h1⟩
theorem right_any (t : Tok) (w : World) (hl : t.s.length ≤ 70000) : Calls Try.prog 13 #[tv t] w fun e w' => e = .returned (.bool (rg t)) ∧ Keep w w' := by
  have A : ∀ w' v, By w' v (sv t.s).data.toList → Calls Try.prog 9 #[v] w' (Tp (T t.s) w') := fun w' v h => toks_any v _ w' hl h
  cases hT : T t.s with
  | error y =>
    obtain ⟨e, a⟩ := y
    rw [hT] at A
    rw [rg_no (fun x y h => by rw [hT] at h; cases h)]
    have he := (T_err hT).1
    refine right_no _ _ _ e a 0 _ w (.inl (by simp; omega)) (hide fun w' v h => (A w' v h).mono ?_)
    rintro _ w'' ⟨u, rfl, h1, _, h3⟩
    obtain ⟨b, cap, rfl⟩ := h1.shape
    exact ⟨b, cap, rfl, h3⟩
  | ok L =>
    rw [hT] at A
    by_cases h2 : L.length = 2
    · obtain ⟨x, y, rfl⟩ : ∃ x y, L = [x, y] := by
        match L, h2 with
        | [x, y], _ => exact ⟨x, y, rfl⟩
      rw [rg_ok hT]
      have B : ∀ w' v, By w' v (sv t.s).data.toList → Calls Try.prog 9 #[v] w' fun e w'' => ∃ ad cap, e = .returned (.tuple #[.slice (some ad) 2 cap, .int .i64 0, .int .i64 0]) ∧ w'.heap.size ≤ ad.block ∧ ad.block < w''.heap.size ∧ Tc w'' ad x ∧ Keep w' w'' := fun w' v h => (A w' v h).mono (by
        rintro _ w'' ⟨u, rfl, h1, h2, h3⟩
        obtain ⟨ad, cap, rfl, hb, hc⟩ := ts_two h1
        exact ⟨ad, cap, rfl, h2 ad _ _ rfl, hb, hc, h3⟩)
      by_cases hk : x.k = t.k
      · by_cases hs : x.s = t.s
        · have hp := T_one hT hs
          by_cases hn : x.n = t.n
          · have e : (decide (x.k = t.k) && decide (x.n = t.n) && decide (x.s = t.s)) = true := by simp [hk, hs, hn]
            rw [e]
            unfold Tc at B
            rw [hk, hs, hn, hp] at B
            exact right_eq _ _ _ _ w (hide B)
          · have e : (decide (x.k = t.k) && decide (x.n = t.n) && decide (x.s = t.s)) = false := by simp [hn]
            rw [e]
            unfold Tc at B
            rw [hk, hs] at B
            exact right_n _ _ _ _ _ _ w hn (hide B)
        · have e : (decide (x.k = t.k) && decide (x.n = t.n) && decide (x.s = t.s)) = false := by simp [hs]
          rw [e]
          unfold Tc at B
          rw [hk] at B
          exact right_s _ _ _ _ _ _ _ w (by rw [sv_tl, sv_tl]; exact hs) (hide B)
      · have e : (decide (x.k = t.k) && decide (x.n = t.n) && decide (x.s = t.s)) = false := by simp [hk]
        rw [e]
        exact right_k _ _ _ _ _ _ _ _ w hk (hide B)
    · rw [rg_no (fun x y h => by rw [hT] at h; simp only [Except.ok.injEq] at h; rw [h] at h2; exact h2 rfl)]
      refine right_no _ _ _ 0 0 L.length _ w (.inr ⟨rfl, by simp; omega⟩) (hide fun w' v h => (A w' v h).mono ?_)
      rintro _ w'' ⟨u, rfl, h1, _, h3⟩
      obtain ⟨b, cap, rfl⟩ := h1.shape
      exact ⟨b, cap, rfl, h3⟩
theorem rright_any (t : Tok) (w : World) (hl : t.s.length ≤ 70000) : Calls Try.prog 14 #[tv t] w fun e w' => e = .returned (.bool (rg t)) ∧ Keep w w' := by
  have A : ∀ w' v, By w' v (sv t.s).data.toList → Calls Try.prog 10 #[v] w' (Tp (T t.s) w') := fun w' v h => rtoks_any v _ w' hl h
  cases hT : T t.s with
  | error y =>
    obtain ⟨e, a⟩ := y
    rw [hT] at A
    rw [rg_no (fun x y h => by rw [hT] at h; cases h)]
    have he := (T_err hT).1
    refine rright_e _ _ _ e a 0 _ w (by simp; omega) (hide fun w' v h => (A w' v h).mono ?_)
    rintro _ w'' ⟨u, rfl, h1, _, h3⟩
    obtain ⟨b, cap, rfl⟩ := h1.shape
    exact ⟨b, cap, rfl, h3⟩
  | ok L =>
    rw [hT] at A
    by_cases h2 : L.length = 2
    · obtain ⟨x, y, rfl⟩ : ∃ x y, L = [x, y] := by
        match L, h2 with
        | [x, y], _ => exact ⟨x, y, rfl⟩
      rw [rg_ok hT]
      have B : ∀ w' v, By w' v (sv t.s).data.toList → Calls Try.prog 10 #[v] w' fun e w'' => ∃ ad cap, e = .returned (.tuple #[.slice (some ad) 2 cap, .int .i64 0, .int .i64 0]) ∧ Tc w'' ad x ∧ Keep w' w'' := fun w' v h => (A w' v h).mono (by
        rintro _ w'' ⟨u, rfl, h1, h2, h3⟩
        obtain ⟨ad, cap, rfl, hb, hc⟩ := ts_two h1
        exact ⟨ad, cap, rfl, hc, h3⟩)
      by_cases hk : x.k = t.k
      · by_cases hn : x.n = t.n
        · have e : (decide (x.k = t.k) && decide (x.n = t.n) && decide (x.s = t.s)) = decide (x.s = t.s) := by simp [hk, hn]
          rw [e]
          unfold Tc at B
          rw [hk, hn] at B
          exact rright_s _ _ _ _ _ _ _ w (by rw [sv_tl, sv_tl, Bool.eq_iff_iff]; simp) (hide B)
        · have e : (decide (x.k = t.k) && decide (x.n = t.n) && decide (x.s = t.s)) = false := by simp [hn]
          rw [e]
          unfold Tc at B
          rw [hk] at B
          exact rright_n _ _ _ _ _ _ _ w (by simpa using hn) (hide B)
      · have e : (decide (x.k = t.k) && decide (x.n = t.n) && decide (x.s = t.s)) = false := by simp [hk]
        rw [e]
        exact rright_k _ _ _ _ _ _ _ _ w (by simpa using hk) (hide B)
    · rw [rg_no (fun x y h => by rw [hT] at h; simp only [Except.ok.injEq] at h; rw [h] at h2; exact h2 rfl)]
      refine rright_l _ _ _ 0 0 L.length _ w rfl (by simp; omega) (hide fun w' v h => (A w' v h).mono ?_)
      rintro _ w'' ⟨u, rfl, h1, _, h3⟩
      obtain ⟨b, cap, rfl⟩ := h1.shape
      exact ⟨b, cap, rfl, h3⟩
end Go.Proofs.Ytpmfgnolojmimaa
