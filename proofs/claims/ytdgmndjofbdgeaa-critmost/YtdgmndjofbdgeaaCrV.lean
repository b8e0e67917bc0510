/- Plain facts of sums of fractions, over rational numbers: what critical sums are worth. No program is met here. -/
import Derived.Test.YtdgmndjofbdgeaaVRf
namespace Go.Proofs.Ytdgmndjofbdgeaa
open Go.RowKit
set_option linter.unusedVariables false
set_option linter.unusedSimpArgs false
namespace Cr
/-- what a fraction is worth, as it counts -/
def vF (f : Int × Int) : Rat := Rat.divInt (cn f.1 f.2) (cd f.1 f.2)
def vS : List (Int × Int) → Rat
  | [] => 0
  | f :: r => vF f + vS r
theorem vS_app : ∀ (L M : List (Int × Int)), vS (L ++ M) = vS L + vS M
  | [], M => by simp only [List.nil_append, vS]; grind
  | f :: L, M => by
    have := vS_app L M
    simp only [List.cons_append, vS]
    grind
theorem cd_nz (n d : Int) : cd n d ≠ 0 := by have := cd_pos n d; omega
theorem rt_v {f : Int × Int} (h : Rt f.1 f.2) : vF f = Rat.divInt f.1 f.2 := by unfold vF; rw [h.cn, h.cd]
theorem ad_v {t f : Int × Int} (h : adE t f = 0) : vF (adX t f, adY t f) = vF t + vF f := by
  have hD : 0 < adD t f := by unfold adD; exact Int.mul_pos (by have := cd_pos t.1 t.2; omega) (by have := cd_pos f.1 f.2; omega)
  have hr := ad_rt h
  obtain ⟨h1, h2, h3⟩ := red_spec (N := adN t f) hD
  rw [rt_v (f := (adX t f, adY t f)) hr]
  unfold vF
  rw [Rat.divInt_add_divInt _ _ (cd_nz _ _) (cd_nz _ _)]
  have e : adX t f = rn (adN t f) (adD t f) ∧ adY t f = rd (adN t f) (adD t f) := by
    unfold adE pE at h
    by_cases hf : (fit (rn (adN t f) (adD t f)) && fit (rd (adN t f) (adD t f))) = true
    · unfold adX adY pN pD
      rw [if_pos hf, if_pos hf]
      exact ⟨rfl, rfl⟩
    · rw [if_neg hf] at h
      cases h
  show Rat.divInt (adX t f) (adY t f) = Rat.divInt (adN t f) (adD t f)
  rw [Rat.divInt_eq_divInt_iff (by have := hr.1; omega) (by omega), e.1, e.2]
  exact h3
theorem sm_v : ∀ (L : List (Int × Int)) (t : Int × Int), Rt t.1 t.2 → (sm t L).2.2 = 0 → Rt (sm t L).1 (sm t L).2.1 ∧ vF ((sm t L).1, (sm t L).2.1) = vF t + vS L
  | [], t, h, _ => by
    refine ⟨h, ?_⟩
    show vF (t.1, t.2) = vF t + 0
    grind
  | f :: L, t, h, hz => by
    rw [sm_cons] at hz ⊢
    by_cases he : adE t f = 0
    · rw [if_pos he] at hz ⊢
      obtain ⟨h1, h2⟩ := sm_v L (adX t f, adY t f) (ad_rt he) hz
      refine ⟨h1, ?_⟩
      rw [h2, ad_v he]
      simp only [vS]
      grind
    · rw [if_neg he] at hz
      exact absurd hz he
theorem v01 : vF (0, 1) = 0 := by rw [rt_v (f := (0, 1)) rt01]; rfl
/-- a sum that fits is right, and worth what its parts are worth together -/
theorem sS_v {L : List (Int × Int)} (h : sZ L = 0) : Rt (sS L).1 (sS L).2 ∧ vF (sS L) = vS L := by
  obtain ⟨h1, h2⟩ := sm_v L (0, 1) rt01 h
  refine ⟨h1, ?_⟩
  show vF ((sm (0, 1) L).1, (sm (0, 1) L).2.1) = vS L
  rw [h2, v01]
  grind
/-- how two are to one another -/
theorem div_le {a b c d : Int} (hb : 0 < b) (hd : 0 < d) : Rat.divInt a b ≤ Rat.divInt c d ↔ a * d ≤ c * b := by
  have pb : (0 : Rat) < (b : Rat) := by rw [show (0 : Rat) = ((0 : Int) : Rat) from rfl, Rat.intCast_lt_intCast]; exact hb
  have pd : (0 : Rat) < (d : Rat) := by rw [show (0 : Rat) = ((0 : Int) : Rat) from rfl, Rat.intCast_lt_intCast]; exact hd
  have e1 : Rat.divInt a b * (b : Rat) = (a : Rat) := by rw [Rat.divInt_eq_div]; exact Rat.div_mul_cancel (by grind)
  have e2 : Rat.divInt c d * (d : Rat) = (c : Rat) := by rw [Rat.divInt_eq_div]; exact Rat.div_mul_cancel (by grind)
  rw [← Rat.intCast_le_intCast, Rat.intCast_mul, Rat.intCast_mul, ← e1, ← e2]
  have pbd : (0 : Rat) < (b : Rat) * (d : Rat) := Rat.mul_pos pb pd
  generalize Rat.divInt a b = x at *
  generalize Rat.divInt c d = y at *
  rw [show x * (b : Rat) * (d : Rat) = x * ((b : Rat) * (d : Rat)) by grind, show y * (d : Rat) * (b : Rat) = y * ((b : Rat) * (d : Rat)) by grind]
  exact ⟨fun h1 => Rat.mul_le_mul_of_nonneg_right h1 (by grind), fun h1 => Rat.le_of_mul_le_mul_right h1 pbd⟩
theorem cm_pos {x y : Int} : 0 < cm x y ↔ y < x := by
  have := cm_le (x := x) (y := y)
  omega
theorem gtF_v {f t : Int × Int} : 0 < gtF f t ↔ ¬ vF f ≤ vF t := by
  unfold gtF vF
  rw [cm_pos, div_le (by have := cd_pos f.1 f.2; omega) (by have := cd_pos t.1 t.2; omega)]
  omega
/-- two right fractions that are worth the same are the same -/
theorem rt_eq {f t : Int × Int} (h1 : Rt f.1 f.2) (h2 : Rt t.1 t.2) (h : vF f = vF t) : f = t := by
  rw [rt_v h1, rt_v h2, Rat.divInt_eq_divInt_iff (by have := h1.1; omega) (by have := h2.1; omega)] at h
  have a := red_one (n := f.1) (d := f.2) (N := t.1) (D := t.2) (by have := h1.1; omega) (by have := h2.1; omega) h1.2.1 h
  have b := red_one (n := t.1) (d := t.2) (N := t.1) (D := t.2) (by have := h2.1; omega) (by have := h2.1; omega) h2.2.1 rfl
  obtain ⟨f1, f2⟩ := f
  obtain ⟨t1, t2⟩ := t
  simp only at a b ⊢
  rw [← a.1, ← a.2, b.1, b.2]
/-- the greatest one of the first k -/
theorem gst_top (L : List (Int × Int)) : ∀ (k j : Nat), j < k → vF (L.getD j (0, 0)) ≤ vF (L.getD (gst L k) (0, 0))
  | 0, j, h => by omega
  | k + 1, j, h => by
    rw [gst]
    by_cases hg : 0 < gtF (L.getD k (0, 0)) (L.getD (gst L k) (0, 0))
    · rw [if_pos hg]
      rw [gtF_v] at hg
      rcases Nat.lt_or_ge j k with h1 | h1
      · have := gst_top L k j h1
        grind
      · obtain rfl : j = k := by omega
        exact Rat.le_refl
    · rw [if_neg hg]
      rcases Nat.lt_or_ge j k with h1 | h1
      · exact gst_top L k j h1
      · obtain rfl : j = k := by omega
        rw [gtF_v] at hg
        exact Classical.not_not.1 hg
theorem fz_all {Z : Nat → Int} : ∀ (n k : Nat), fz Z k n = 0 → ∀ j, k ≤ j → j < k + n → Z j = 0
  | 0, k, _, j, h1, h2 => by omega
  | n + 1, k, h, j, h1, h2 => by
    by_cases hz : Z k = 0
    · rcases Nat.eq_or_lt_of_le h1 with h3 | h3
      · rw [← h3]; exact hz
      · have h5 := fz_no (Z := Z) (k := k) (n := k + n + 1) (r := 0) (by rw [show k + n + 1 - k = n + 1 by omega]; exact h) (by omega) hz
        exact fz_all n (k + 1) (by rw [show k + n + 1 - (k + 1) = n by omega] at h5; exact h5) j (by omega) (by omega)
    · have h5 := fz_yes (Z := Z) (k := k) (n := k + n + 1) (r := 0) (by rw [show k + n + 1 - k = n + 1 by omega]; exact h) (by omega) hz
      exact absurd h5.symm hz
/-- what a critical sum that fits says: each ring's sum fits -/
theorem zS_all {Q : Nat → Nat → List (Int × Int)} {NG : Nat → Nat} {n : Nat} (h : zS Q NG n = 0) : sZ (tb (sU Q NG) n) = 0 ∧ ∀ k, k < n → ∀ j, j < NG k → sZ (Q k j) = 0 := by
  unfold zS at h
  by_cases hf : fz (zK Q NG) 0 n = 0
  · rw [if_pos hf] at h
    refine ⟨h, fun k hk j hj => ?_⟩
    have h1 := fz_all n 0 hf k (by omega) (by omega)
    exact fz_all (NG k) 0 h1 j (by omega) (by omega)
  · rw [if_neg hf] at h
    exact absurd h hf
/-- what the greatest ring of a group is worth -/
theorem sU_v {Q : Nat → Nat → List (Int × Int)} {NG : Nat → Nat} {k : Nat} (hn : 0 < NG k) (hz : ∀ j, j < NG k → sZ (Q k j) = 0) : vF (sU Q NG k) = vS (Q k (gR Q NG k)) ∧ ∀ j, j < NG k → vS (Q k j) ≤ vF (sU Q NG k) := by
  have hg : gR Q NG k < NG k := gR_lt hn
  have e : ∀ j, j < NG k → (eL Q NG k).getD j (0, 0) = sS (Q k j) := fun j hj => tb_at _ _ _ _ hj
  refine ⟨?_, fun j hj => ?_⟩
  · unfold sU
    rw [e _ hg]
    exact (sS_v (hz _ hg)).2
  · have h1 := gst_top (eL Q NG k) (NG k) j hj
    rw [e j hj, (sS_v (hz j hj)).2] at h1
    exact h1
/-- sums over groups -/
def gS (f : Nat → Rat) : Nat → Rat
  | 0 => 0
  | n + 1 => gS f n + f n
theorem vS_tb (f : Nat → Int × Int) : ∀ n, vS (tb f n) = gS (fun k => vF (f k)) n
  | 0 => rfl
  | n + 1 => by
    have e : tb f (n + 1) = tb f n ++ [f n] := rfl
    rw [e, vS_app, vS_tb f n, gS]
    simp only [vS]
    grind
theorem gS_le {f g : Nat → Rat} : ∀ n, (∀ k, k < n → f k ≤ g k) → gS f n ≤ gS g n
  | 0, _ => Rat.le_refl
  | n + 1, h => by
    have h1 := gS_le n (fun k hk => h k (by omega))
    have h2 := h n (by omega)
    simp only [gS]
    grind
theorem gS_eq {f g : Nat → Rat} : ∀ n, (∀ k, k < n → f k = g k) → gS f n = gS g n
  | 0, _ => rfl
  | n + 1, h => by
    have h1 := gS_eq n (fun k hk => h k (by omega))
    have h2 := h n (by omega)
    simp only [gS]
    grind
/-- a critical sum that fits is right, and what it is worth -/
theorem crit_v {Q : Nat → Nat → List (Int × Int)} {NG : Nat → Nat} {n : Nat} (hn : ∀ k, k < n → 0 < NG k) (h : zS Q NG n = 0) : Rt (sS (tb (sU Q NG) n)).1 (sS (tb (sU Q NG) n)).2 ∧ vF (sS (tb (sU Q NG) n)) = gS (fun k => vS (Q k (gR Q NG k))) n := by
  obtain ⟨h1, h2⟩ := zS_all h
  obtain ⟨h3, h4⟩ := sS_v h1
  refine ⟨h3, ?_⟩
  rw [h4, vS_tb]
  exact gS_eq n fun k hk => (sU_v (hn k hk) (h2 k hk)).1
/-- no way has a greater sum -/
theorem crit_most {Q : Nat → Nat → List (Int × Int)} {NG : Nat → Nat} {n : Nat} (hn : ∀ k, k < n → 0 < NG k) (h : zS Q NG n = 0) (G : Nat → Nat) (hG : ∀ k, k < n → G k < NG k) : gS (fun k => vS (Q k (G k))) n ≤ vF (sS (tb (sU Q NG) n)) := by
  obtain ⟨h1, h2⟩ := zS_all h
  obtain ⟨h3, h4⟩ := sS_v h1
  rw [h4, vS_tb]
  exact gS_le n fun k hk => (sU_v (hn k hk) (h2 k hk)).2 _ (hG k hk)
/-- rows one behind the other -/
theorem vS_rts (R : List (Int × Int)) : ∀ (L M : List Int), vS (rts R (L ++ M)) = vS (rts R L) + vS (rts R M) := fun L M => by rw [rts, List.map_append, vS_app]; rfl
theorem vS_way (R : List (Int × Int)) (A : List UInt8 → Int) (T : Nat → Nat → List (List UInt8)) (G : Nat → Nat) : ∀ n, vS (rts R (wayL A T G n)) = gS (fun k => vS (Qr R A T k (G k))) n
  | 0 => rfl
  | n + 1 => by
    have e : wayL A T G (n + 1) = wayL A T G n ++ plc A (T n (G n)) := rfl
    rw [e, vS_rts, vS_way R A T G n]
    rfl
end Cr
end Go.Proofs.Ytdgmndjofbdgeaa
