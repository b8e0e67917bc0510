/- Package paths: edges in memory; which are a graph. -/
import Derived.Test.YtakandlehneciaaPaS
namespace Go.Proofs.Ytakandlehneciaa
open Go.RowKit
attribute [local go_sem ↓] Go.wp_at_zero Go.wp_at_succ
set_option linter.unusedVariables false
set_option linter.unusedSimpArgs false
set_option maxRecDepth 10000
namespace Pa
/-- an edge as it stands in memory -/
abbrev E3 := Int × Int × Int
def z3 : E3 := (0, 0, 0)
/-- the three cells of an edge -/
def C3 (w : World) (ad : Addr) (e : E3) : Prop := w.cell? ad = some (.int .i64 e.1) ∧ w.cell? ⟨ad.block, ad.off + 1, none⟩ = some (.int .i64 e.2.1) ∧ w.cell? ⟨ad.block, ad.off + 2, none⟩ = some (.int .i64 e.2.2)
theorem C3.keep {w w' : World} {ad : Addr} {e : E3} (h : C3 w ad e) (hk : Keep w w') : C3 w' ad e := ⟨kc hk h.1, kc hk h.2.1, kc hk h.2.2⟩
/-- a slice that reads as edges -/
def Es (w : World) (v : Value) (R : List E3) : Prop := ∃ a cap, v = .slice a R.length cap ∧ ∀ k, k < R.length → ∃ ad, a = some ad ∧ C3 w (ad.add (k * 3)) (R.getD k z3)
theorem Es.keep {w w' : World} {v : Value} {R : List E3} (h : Es w v R) (hk : Keep w w') : Es w' v R := by
  obtain ⟨a, cap, rfl, h⟩ := h
  refine ⟨a, cap, rfl, fun k hlt => ?_⟩
  obtain ⟨ad, e, h2⟩ := h k hlt
  exact ⟨ad, e, h2.keep hk⟩
/-- an edge that may not be -/
def badE (n : Int) (e : E3) : Bool := decide (e.1 < 0 ∨ n ≤ e.1 ∨ e.2.1 < 0 ∨ n ≤ e.2.1 ∨ e.2.2 < 0 ∨ 6000 < e.2.2)
def isG (n : Int) (R : List E3) : Bool := decide (1 ≤ n ∧ n ≤ 64) && R.all fun e => !badE n e
theorem bad_or (n f t l : Int) : (f < 0 ∧ badE n (f, t, l) = true) ∨ (¬ f < 0 ∧ n ≤ f ∧ badE n (f, t, l) = true) ∨ (¬ f < 0 ∧ ¬ n ≤ f ∧ t < 0 ∧ badE n (f, t, l) = true) ∨ (¬ f < 0 ∧ ¬ n ≤ f ∧ ¬ t < 0 ∧ n ≤ t ∧ badE n (f, t, l) = true) ∨ (¬ f < 0 ∧ ¬ n ≤ f ∧ ¬ t < 0 ∧ ¬ n ≤ t ∧ l < 0 ∧ badE n (f, t, l) = true) ∨ (¬ f < 0 ∧ ¬ n ≤ f ∧ ¬ t < 0 ∧ ¬ n ≤ t ∧ ¬ l < 0 ∧ 6000 < l ∧ badE n (f, t, l) = true) ∨ (¬ f < 0 ∧ ¬ n ≤ f ∧ ¬ t < 0 ∧ ¬ n ≤ t ∧ ¬ l < 0 ∧ ¬ 6000 < l ∧ badE n (f, t, l) = false) := by
  simp only [badE, decide_eq_true_eq, decide_eq_false_iff_not]; omega
set_option maxHeartbeats 2000000 in
theorem bad_any (n f t l : Int) (c : Nat) (w : World) (hc : w.cell? ⟨c, 0, none⟩ = some (.int .i64 n)) (hcl : c < w.heap.size) :
    Calls Try.prog 66 #[.agg #[.int .i64 f, .int .i64 t, .int .i64 l], .pointer (some ⟨c, 0, none⟩)] w fun e w' => e = .returned (.bool (badE n (f, t, l))) ∧ Keep w w' := by
  have HO := bad_or n f t l
  generalize badE n (f, t, l) = B at HO ⊢
  rcases HO with ⟨g1, rfl⟩ | ⟨g1, g2, rfl⟩ | ⟨g1, g2, g3, rfl⟩ | ⟨g1, g2, g3, g4, rfl⟩ | ⟨g1, g2, g3, g4, g5, rfl⟩ | ⟨g1, g2, g3, g4, g5, g6, rfl⟩ | ⟨g1, g2, g3, g4, g5, g6, rfl⟩
  all_goals (
    go_enter Try.func66, Try.ntmps66
    go_wp2_with fail
    go_ret
    exact ⟨rfl, (Keep.refl w).alloc _⟩)
theorem all_more {R : List E3} {n : Int} {k : Nat} (h : ∀ j, j < k → badE n (R.getD j z3) = false) (hb : badE n (R.getD k z3) = false) : ∀ j, j < k + 1 → badE n (R.getD j z3) = false := fun j hj => by
  rcases Nat.lt_or_eq_of_le (Nat.le_of_lt_succ hj) with h1 | h1
  · exact h j h1
  · rw [h1]; exact hb
theorem all_yes {R : List E3} {n : Int} (h : ∀ j, j < R.length → badE n (R.getD j z3) = false) : (R.all fun e => !badE n e) = true := by
  rw [List.all_eq_true]
  intro e he
  obtain ⟨j, hj, rfl⟩ := List.getElem_of_mem he
  have := h j hj
  rw [List.getD_eq_getElem?_getD, List.getElem?_eq_getElem hj] at this
  simp only [Option.getD_some] at this
  rw [this]; rfl
theorem all_no {R : List E3} {n : Int} {k : Nat} (hk : k < R.length) (h : badE n (R.getD k z3) = true) : (R.all fun e => !badE n e) = false := by
  rw [List.all_eq_false]
  rw [List.getD_eq_getElem?_getD, List.getElem?_eq_getElem hk] at h
  exact ⟨R[k], List.getElem_mem hk, by simpa using h⟩
def Fnd (B : Bool) (r : Int) : Prop := if B = true then r = -1 else 0 ≤ r
set_option maxHeartbeats 2000000 in
theorem ixf_any (v : Value) (R : List E3) (n : Int) (c : Nat) (w : World) (hR : Es w v R) (hl : R.length ≤ 1000) (hc : w.cell? ⟨c, 0, none⟩ = some (.int .i64 n)) (hcl : c < w.heap.size) :
    Calls Try.prog 73 #[v, .func (.func 66) #[] #[.pointer (some ⟨c, 0, none⟩)]] w fun e w' => ∃ r : Int, e = .returned (.int .i64 r) ∧ Fnd (R.all fun e => !badE n e) r ∧ Keep w w' := by
  obtain ⟨a, cap, rfl, hR⟩ := hR
  have HC := hide hR
  clear hR
  have HB := hide (fun f t l => bad_any n f t l c)
  obtain ⟨m, hm⟩ : ∃ m, R.length = m := ⟨_, rfl⟩
  have HM := hide hm
  rw [hm] at hl HC ⊢
  clear hm
  have H0 := hide hc
  have HL := hide hcl
  clear hc hcl
  go_enter Try.func73, Try.ntmps73
  go_wp2_with fail
  go_loopw [8] (fun vi wr => ∃ k : Nat, vi = .int .i64 (k : Int) ∧ k ≤ m ∧ Hid (Keep w wr) ∧ Hid (∀ j, j < k → badE n (R.getD j z3) = false)) (fun vi _ => m - (intOf vi).toNat)
  case atStart => exact ⟨0, rfl, Nat.zero_le _, hide (Keep.refl _), hide (fun j hj => by omega)⟩
  case round =>
    obtain ⟨k, rfl, hk, KW, HF⟩ := hrel
    by_cases hlt : k < m
    · have li : (k : Int) < (m : Int) := by omega
      obtain ⟨ad, rfl, hc3⟩ := (unhide HC) k hlt
      obtain ⟨x0, x1, x2⟩ := hc3.keep (unhide KW)
      have TK := hide ((unhide HB) (R.getD k z3).1 (R.getD k z3).2.1 (R.getD k z3).2.2 wr (kc (unhide KW) (unhide H0)) (Nat.lt_of_lt_of_le (unhide HL) (unhide KW).size))
      obtain ⟨y, HY⟩ : ∃ y, Hid (R.getD k z3 = y) := ⟨_, hide rfl⟩
      rw [unhide HY] at x0 x1 x2 TK
      obtain ⟨f, t, l⟩ := y
      simp only at x0 x1 x2 TK
      clear hc3
      cases hB : badE n (f, t, l)
      · have HF2 := hide (all_more (unhide HF) (by rw [unhide HY]; exact hB))
        rw [hB] at TK
        clear hB HF
        go_wp2_with fail
        (refine (unhide TK).mono ?_; rintro e w2 ⟨rfl, hk9⟩; have K2 := hide ((unhide KW).trans hk9); clear hk9)
        go_wp2_with fail
        go_roundw
        case rel => exact ⟨k + 1, by go_num, by omega, K2, HF2⟩
        case measure => simp [intOf]; omega
      · have hr := hide (all_no (R := R) (by rw [unhide HM]; exact hlt) (by rw [unhide HY]; exact hB))
        rw [hB] at TK
        clear hB HF
        go_wp2_with fail
        (refine (unhide TK).mono ?_; rintro e w2 ⟨rfl, hk9⟩; have K2 := hide ((unhide KW).trans hk9); clear hk9)
        go_wp2_with fail
        go_ret
        exact ⟨_, rfl, by rw [unhide hr]; simp [Fnd], unhide K2⟩
    · have li : ¬ (k : Int) < (m : Int) := by omega
      obtain rfl : k = m := by omega
      have hr := hide (all_yes (R := R) (n := n) (fun j hj => unhide HF j (by rw [unhide HM] at hj; exact hj)))
      go_wp2_with fail
      go_ret
      exact ⟨_, rfl, by rw [unhide hr]; simp [Fnd], unhide KW⟩
set_option maxHeartbeats 2000000 in
theorem cof_any (v : Value) (R : List E3) (n : Int) (c : Nat) (w : World) (hR : Es w v R) (hl : R.length ≤ 1000) (hc : w.cell? ⟨c, 0, none⟩ = some (.int .i64 n)) (hcl : c < w.heap.size) :
    Calls Try.prog 65 #[v, .func (.func 66) #[] #[.pointer (some ⟨c, 0, none⟩)]] w fun e w' => e = .returned (.bool (!(R.all fun e => !badE n e))) ∧ Keep w w' := by
  have T := hide (ixf_any v R n c w hR hl hc hcl)
  obtain ⟨a, cap, rfl, _⟩ := hR
  generalize R.length = m at *
  generalize (R.all fun e => !badE n e) = B at T ⊢
  clear hc
  go_enter Try.func65, Try.ntmps65
  go_wp2_with fail
  (refine (unhide T).mono ?_; rintro e w2 ⟨r, rfl, hr, hk9⟩; have K2 := hide hk9; clear hk9 T)
  cases B
  · have hr2 : 0 ≤ r := by simpa [Fnd] using hr
    clear hr
    go_wp2_with fail
    go_ret
    exact ⟨rfl, unhide K2⟩
  · have hr2 : r = -1 := by simpa [Fnd] using hr
    subst hr2
    clear hr
    go_wp2_with fail
    go_ret
    exact ⟨rfl, unhide K2⟩
theorem isG_no {n : Int} {R : List E3} (h : ¬ (1 ≤ n ∧ n ≤ 64)) : isG n R = false := by unfold isG; rw [decide_eq_false h]; rfl
set_option maxHeartbeats 2000000 in
theorem isG_any (v : Value) (R : List E3) (n : Int) (w : World) (hR : Es w v R) (hl : R.length ≤ 1000) :
    Calls Try.prog 52 #[.int .i64 n, v] w fun e w' => e = .returned (.bool (isG n R)) ∧ Keep w w' := by
  have HE := hide hR
  obtain ⟨a, cap, rfl, _⟩ := hR
  obtain ⟨m, hm⟩ : ∃ m, R.length = m := ⟨_, rfl⟩
  have HM := hide hm
  rw [hm] at hl HE ⊢
  clear hm
  have li : ¬ (1000 < (m : Int)) := by omega
  by_cases h1 : n < 1
  · rw [isG_no (by omega)]
    go_enter Try.func52, Try.ntmps52
    go_wp2_with fail
    go_ret
    exact ⟨rfl, (Keep.refl w).alloc _⟩
  by_cases h2 : 64 < n
  · rw [isG_no (by omega)]
    go_enter Try.func52, Try.ntmps52
    go_wp2_with fail
    go_ret
    exact ⟨rfl, (Keep.refl w).alloc _⟩
  have hG : isG n R = (R.all fun e => !badE n e) := by unfold isG; rw [decide_eq_true (by omega)]; rfl
  have TC := hide (fun (c : Nat) (w' : World) (hk : Keep w w') (hc : w'.cell? ⟨c, 0, none⟩ = some (.int .i64 n)) (hcl : c < w'.heap.size) => cof_any _ R n c w' ((unhide HE).keep hk) (by rw [unhide HM]; exact hl) hc hcl)
  rw [hG]
  generalize (R.all fun e => !badE n e) = B at TC ⊢
  clear hG
  go_enter Try.func52, Try.ntmps52
  go_wp2_with fail
  (refine ((unhide TC) _ _ ((Keep.refl w).alloc _) (by simp [go_sem]) (by simp)).mono ?_; rintro e w2 ⟨rfl, hk9⟩; have K2 := hide (Keep.trans ((Keep.refl w).alloc _) hk9); clear hk9 TC)
  go_wp2_with fail
  go_ret
  exact ⟨by cases B <;> rfl, unhide K2⟩
set_option maxHeartbeats 2000000 in
theorem right_any (v : Value) (R : List E3) (n : Int) (w : World) (hR : Es w v R) (hl : R.length ≤ 1000) :
    Calls Try.prog 60 #[.int .i64 n, v] w fun e w' => e = .returned (.bool (isG n R)) ∧ w' = w := by
  obtain ⟨a, cap, rfl, hR⟩ := hR
  have HC := hide hR
  clear hR
  obtain ⟨m, hm⟩ : ∃ m, R.length = m := ⟨_, rfl⟩
  have HM := hide hm
  rw [hm] at hl HC ⊢
  clear hm
  have li : ¬ (1000 < (m : Int)) := by omega
  by_cases h1 : n < 1
  · rw [isG_no (by omega)]
    go_enter Try.func60, Try.ntmps60
    go_wp2_with fail
    go_ret
    exact ⟨rfl, rfl⟩
  by_cases h2 : 64 < n
  · rw [isG_no (by omega)]
    go_enter Try.func60, Try.ntmps60
    go_wp2_with fail
    go_ret
    exact ⟨rfl, rfl⟩
  have hG : isG n R = (R.all fun e => !badE n e) := by unfold isG; rw [decide_eq_true (by omega)]; rfl
  rw [hG]
  clear hG
  obtain ⟨B, hB⟩ : ∃ B, (R.all fun e => !badE n e) = B := ⟨_, rfl⟩
  have HB := hide hB
  rw [hB]
  clear hB
  go_enter Try.func60, Try.ntmps60
  go_wp2_with fail
  go_loop [5] (fun vi => ∃ k : Nat, vi = .int .i64 (k : Int) ∧ k ≤ m ∧ Hid (∀ j, j < k → badE n (R.getD j z3) = false)) (fun vi => m - (intOf vi).toNat)
  case atStart => exact ⟨0, rfl, Nat.zero_le _, hide (fun j hj => by omega)⟩
  case round =>
    obtain ⟨k, rfl, hk, HF⟩ := hrel
    by_cases hlt : k < m
    · have li : (k : Int) < (m : Int) := by omega
      obtain ⟨ad, rfl, x0, x1, x2⟩ := (unhide HC) k hlt
      obtain ⟨y, HY⟩ : ∃ y, Hid (R.getD k z3 = y) := ⟨_, hide rfl⟩
      rw [unhide HY] at x0 x1 x2
      obtain ⟨f, t, l⟩ := y
      simp only at x0 x1 x2
      have HO := bad_or n f t l
      have HN := hide (fun h : badE n (f, t, l) = true => all_no (R := R) (by rw [unhide HM]; exact hlt) (by rw [unhide HY]; exact h))
      have HP := hide (fun h : badE n (f, t, l) = false => all_more (unhide HF) (by rw [unhide HY]; exact h))
      generalize badE n (f, t, l) = X at HO HN HP
      rcases HO with ⟨g1, rfl⟩ | ⟨g1, g2, rfl⟩ | ⟨g1, g2, g3, rfl⟩ | ⟨g1, g2, g3, g4, rfl⟩ | ⟨g1, g2, g3, g4, g5, rfl⟩ | ⟨g1, g2, g3, g4, g5, g6, rfl⟩ | ⟨g1, g2, g3, g4, g5, g6, rfl⟩
      rotate_right
      · have HF2 := hide ((unhide HP) rfl)
        clear HP HN
        go_wp2_with fail
        exact ⟨⟨k + 1, by go_num, by omega, HF2⟩, by simp [intOf]; omega⟩
      all_goals (
        have HQ : Hid (B = false) := hide ((unhide HB).symm.trans ((unhide HN) rfl))
        clear HP HN
        go_wp2_with fail
        go_ret
        exact ⟨by rw [unhide HQ]; rfl, rfl⟩)
    · have li : ¬ (k : Int) < (m : Int) := by omega
      obtain rfl : k = m := by omega
      have hr := hide (all_yes (R := R) (n := n) (fun j hj => unhide HF j (by rw [unhide HM] at hj; exact hj)))
      go_wp2_with fail
      go_ret
      exact ⟨by rw [← unhide HB, unhide hr]; rfl, rfl⟩
end Pa
end Go.Proofs.Ytakandlehneciaa
