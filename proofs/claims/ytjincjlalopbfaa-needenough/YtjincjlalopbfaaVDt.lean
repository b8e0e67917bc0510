/- Package valid: what an answer of no error says. No program is met here. -/
import Derived.Test.YtjincjlalopbfaaWholeQ
import Derived.Test.YtjincjlalopbfaaVPh
import Derived.Test.YtjincjlalopbfaaVCh2
import Derived.Deep.DrawnRows
import Derived.Deep.RegionHeld3
import Derived.Test.YtjincjlalopbfaaVDh
import Derived.Laws.AppendOwn
import Derived.Laws.OwnMore
import Derived.OwnWalk
namespace Go.Proofs.Ytjincjlalopbfaa
open Go.RowKit
set_option linter.unusedVariables false
set_option linter.unusedSimpArgs false
set_option maxRecDepth 10000
namespace V
open S
theorem fE_none {f : Nat → Eq2} : ∀ (m k : Nat), fE f k m = none → ∀ j, k ≤ j → j < k + m → f j = none
  | 0, k, _, j, h1, h2 => by omega
  | m + 1, k, h, j, h1, h2 => by
    unfold fE at h
    cases hf : f k with
    | some e => rw [hf] at h; cases h
    | none =>
      rw [hf] at h
      by_cases hj : j = k
      · rw [hj]; exact hf
      · exact fE_none m (k + 1) h j (by omega) (by omega)
/-- no error's number is 0 -/
def Nz (x : Eq2) : Prop := ∀ e, x = some e → e.1 ≠ 0
theorem nz_none : Nz none := fun e h => by cases h
theorem nz_some {c p : Int} (h : c ≠ 0) : Nz (some (c, p)) := fun e he => by cases he; exact h
theorem nz_if {p : Prop} [Decidable p] {a b : Eq2} (ha : Nz a) (hb : Nz b) : Nz (if p then a else b) := by split; exact ha; exact hb
theorem fE_nz {f : Nat → Eq2} (hf : ∀ j, Nz (f j)) : ∀ (m k : Nat), Nz (fE f k m)
  | 0, k => nz_none
  | m + 1, k => by
    unfold fE
    cases h : f k with
    | some e => have h9 := hf k; rw [h] at h9; exact h9
    | none => exact fE_nz hf m (k + 1)
theorem ors_none : ∀ (l : List Eq2), ors l = none → ∀ x ∈ l, x = none
  | [], _, x, hx => by cases hx
  | none :: l, h, x, hx => by
    rcases List.mem_cons.1 hx with rfl | hx
    · rfl
    · exact ors_none l h x hx
  | some y :: l, h, x, hx => by cases h
theorem ors_nz : ∀ (l : List Eq2), (∀ x ∈ l, Nz x) → Nz (ors l)
  | [], _ => nz_none
  | none :: l, h => ors_nz l (fun x hx => h x (List.mem_cons_of_mem _ hx))
  | some y :: l, h => h (some y) (by simp)
theorem fst_nz : ∀ (l : List (Bool × Int)), (∀ x ∈ l, x.2 ≠ 0) → ∀ c, fst l = some c → c ≠ 0
  | [], _, c, h => by cases h
  | (b, d) :: l, hl, c, h => by
    unfold fst at h
    split at h
    · injection h with h; subst h; exact hl (b, d) (by simp)
    · exact fst_nz l (fun x hx => hl x (List.mem_cons_of_mem _ hx)) c h
theorem cn_nz (n1 n2 n3 n4 n5 : Nat) (p : Int) : Nz ((cnE n1 n2 n3 n4 n5).map (fun c => (c, p))) := by
  intro e he
  cases h : cnE n1 n2 n3 n4 n5 with
  | none => rw [h] at he; cases he
  | some c =>
    rw [h] at he
    cases he
    exact fst_nz _ (by intro x hx; simp at hx; rcases hx with rfl | rfl | rfl <;> simp) c h
theorem ltF_nz {M : List (List UInt8 × Int)} {T : Nat → List UInt8} {c : Int} {P : Nat → Int} (hc : c ≠ 0) (k : Nat) : Nz (ltF M T c P k) := nz_if nz_none (nz_some hc)
theorem hd_nz (L : List (List D)) : Nz (hdE L) := fE_nz (fun j => nz_if (nz_some (by decide)) (nz_if nz_none (nz_some (by decide)))) _ _
theorem ph_nz (L : List (List D)) (MH : List (List UInt8 × Int)) : Nz (phE L MH) := fE_nz (fun j => by
  unfold phF
  refine nz_if (nz_some (by decide)) ?_
  have hi : Nz (fE (phI (ln L 1) (sb L 1) MH (iv L 2) j) 0 (ln L 1 j)) := fE_nz (fun k => nz_if (nz_if (nz_some (by decide)) nz_none) (nz_some (by decide))) _ _
  cases h : fE (phI (ln L 1) (sb L 1) MH (iv L 2) j) 0 (ln L 1 j) with
  | some e => rw [h] at hi; exact hi
  | none => exact nz_if (nz_some (by decide)) nz_none) _ _
theorem wk_nz (L : List (List D)) (MP : List (List UInt8 × Int)) : Nz (wkE L MP) := fE_nz (fun j => nz_if (nz_some (by decide)) (nz_if (nz_if (nz_if (nz_if nz_none (nz_some (by decide))) (nz_some (by decide))) (nz_some (by decide))) (nz_some (by decide)))) _ _
theorem gr_nz (L : List (List D)) (MP : List (List UInt8 × Int)) (p : Int) : Nz (grE L MP p) := fE_nz (fun j => nz_if (nz_some (by decide)) (fE_nz (fun k => nz_if (nz_some (by decide)) (fE_nz (fun m => nz_if (nz_if (nz_some (by decide)) nz_none) (nz_some (by decide))) _ _)) _ _)) _ _
theorem fo_nz (L : List (List D)) (M : List (List UInt8 × Int)) : Nz (foE L M) := fE_nz (fun j => nz_if (nz_if (nz_if (nz_some (by decide)) nz_none) (nz_some (by decide))) (nz_some (by decide))) _ _
theorem node_nz (ds : List D) : Nz (nodeE ds) := ors_nz _ (by
  intro x hx
  simp only [List.mem_cons, List.not_mem_nil, or_false] at hx
  rcases hx with rfl | rfl | rfl | rfl | rfl | rfl | rfl | rfl
  · exact cn_nz _ _ _ _ _ _
  · exact hd_nz _
  · exact ph_nz _ _
  · exact fE_nz (fun j => ltF_nz (by decide) j) _ _
  · exact wk_nz _ _
  · exact gr_nz _ _ _
  · exact fE_nz (fun j => ltF_nz (by decide) j) _ _
  · exact fo_nz _ _)
theorem ns_nz (LN : List (List D)) : Nz (nsE LN) := fE_nz (fun j => nz_if (nz_some (by decide)) (node_nz _)) _ _
theorem st_nz (LN LS : List (List D)) : Nz (stE LN LS) := fE_nz (fun j => by
  unfold stF
  exact nz_if (nz_if (nz_some (by decide)) (nz_if (nz_some (by decide)) (nz_if (nz_some (by decide)) (nz_if (nz_if (nz_if (nz_if (nz_if nz_none (nz_some (by decide))) (nz_some (by decide))) nz_none) (nz_some (by decide))) (nz_some (by decide)))))) (nz_some (by decide))) _ _
theorem chk_ok {a0 a1 a2 a3 a4 : Int} {LN LS : List (List D)} {a5 a6 : Int} (h : (chkL a0 a1 a2 a3 a4 LN LS a5 a6).1 = 0) : whE a0 a1 a2 a3 a4 LN.length LS.length a5 a6 = none ∧ nsE LN = none ∧ stE LN LS = none := by
  unfold chkL at h
  cases h0 : whE a0 a1 a2 a3 a4 LN.length LS.length a5 a6 with
  | some c =>
    rw [h0] at h
    exact absurd h (fst_nz _ (by intro x hx; simp at hx; rcases hx with rfl | rfl | rfl | rfl | rfl <;> simp) c h0)
  | none =>
    rw [h0] at h
    cases h1 : nsE LN with
    | some x => rw [h1] at h; exact absurd h (ns_nz LN x h1)
    | none =>
      rw [h1] at h
      cases h2 : stE LN LS with
      | some x => rw [h2] at h; exact absurd h (st_nz LN LS x h2)
      | none => exact ⟨rfl, rfl, rfl⟩
theorem node_of {LN : List (List D)} (h : nsE LN = none) (k : Nat) (hk : k < LN.length) : nodeE (LN.getD k []) = none := by
  have := fE_none _ _ h k (Nat.zero_le _) (by omega)
  unfold nsF at this
  split at this
  · cases this
  · exact this
theorem node_parts {L1 L2 L3 L4 L5 : List (List D)} {p : Int} (h : nodeL L1 L2 L3 L4 L5 p = none) :
    cnE L1.length L2.length L3.length L4.length L5.length = none ∧ hdE L1 = none ∧ phE L3 (mk (tn L1) L1.length) = none ∧ fE (ltF (hmL (ln L3 1) (sb L3 1) L3.length) (tn L1) 73 (iv L1 10)) 0 L1.length = none ∧
    wkE L2 (mk (tn L3) L3.length) = none ∧ grE L4 (mk (tn L3) L3.length) p = none ∧ fE (ltF (rgG (ln L4 0) (gN L4) (gH L4) L4.length) (tn L3) 74 (iv L3 2)) 0 L3.length = none ∧ foE L5 (hmL (ln L3 1) (sb L3 1) L3.length) = none := by
  have := ors_none _ h
  refine ⟨?_, this _ (by simp), this _ (by simp), this _ (by simp), this _ (by simp), this _ (by simp), this _ (by simp), this _ (by simp)⟩
  have h0 := this ((cnE L1.length L2.length L3.length L4.length L5.length).map (fun c => (c, p))) (by simp)
  cases hc : cnE L1.length L2.length L3.length L4.length L5.length with
  | none => rfl
  | some c => rw [hc] at h0; cases h0
end V
end Go.Proofs.Ytjincjlalopbfaa

namespace Go.Proofs.Ytjincjlalopbfaa
open Go.RowKit
attribute [local go_sem ↓] Go.wp_at_zero Go.wp_at_succ
set_option linter.unusedVariables false
set_option linter.unusedSimpArgs false
set_option maxRecDepth 10000
namespace V
/-- how many are so; sums -/
def cq (f : Nat → Bool) : Nat → Nat
  | 0 => 0
  | k + 1 => cq f k + if f k then 1 else 0
def sm (g : Nat → Nat) : Nat → Nat
  | 0 => 0
  | k + 1 => sm g k + g k
end V
end Go.Proofs.Ytjincjlalopbfaa

namespace Go.Proofs.Ytjincjlalopbfaa
open Go.RowKit
set_option linter.unusedVariables false
set_option linter.unusedSimpArgs false
set_option maxRecDepth 10000
namespace V
open S
theorem cq_count (H : Nat → List UInt8) (nm : List UInt8) : ∀ n, cq (fun o => H o == nm) n = ((List.range n).map H).count nm
  | 0 => rfl
  | n + 1 => by
    rw [List.range_succ, List.map_append, List.count_append, ← cq_count H nm n]
    show _ + (if (H n == nm) then 1 else 0) = _
    rw [List.map_cons, List.map_nil, List.count_singleton]
/-- names that come one behind another, none of them there already -/
theorem add_nodup {M : List (List UInt8 × Int)} {s : List UInt8} (n : Int) (h : (M.map Prod.fst).Nodup) (h2 : hs M s = false) : ((M ++ [(s, n)]).map Prod.fst).Nodup := by
  rw [List.map_append, List.map_cons, List.map_nil]
  refine List.nodup_append.2 ⟨h, by simp, fun a ha b hb => ?_⟩
  have : b = s := by simpa using hb
  subst this
  rintro rfl
  rw [hs_mem.2 ha] at h2
  cases h2
theorem lt_has {M : List (List UInt8 × Int)} {T : Nat → List UInt8} {c : Int} {P : Nat → Int} {n : Nat} (h : fE (ltF M T c P) 0 n = none) (k : Nat) (hk : k < n) : hs M (T k) = true := by
  have h1 := fE_none _ _ h k (Nat.zero_le _) (by omega)
  unfold ltF at h1
  split at h1
  · assumption
  · cases h1
/-! ### rings -/
/-! ### homes -/
theorem ix_nonneg {B : Nat → Bool} : ∀ (m k : Nat), 0 ≤ ix B k m ↔ ∃ j, k ≤ j ∧ j < k + m ∧ B j = true
  | 0, k => by
    constructor
    · intro h; simp [ix] at h
    · rintro ⟨j, h1, h2, _⟩; omega
  | m + 1, k => by
    unfold ix
    by_cases hb : B k = true
    · rw [if_pos hb]
      exact ⟨fun _ => ⟨k, by omega, by omega, hb⟩, fun _ => by omega⟩
    · rw [if_neg hb, ix_nonneg m (k + 1)]
      constructor
      · rintro ⟨j, h1, h2, h3⟩; exact ⟨j, by omega, by omega, h3⟩
      · rintro ⟨j, h1, h2, h3⟩
        refine ⟨j, ?_, by omega, h3⟩
        rcases Nat.eq_or_lt_of_le h1 with e | e
        · rw [← e] at h3; exact absurd h3 hb
        · omega
theorem ix_snoc {B : Nat → Bool} : ∀ (m k : Nat), ix B k (m + 1) = if 0 ≤ ix B k m then ix B k m else if B (k + m) then ((k + m : Nat) : Int) else -1
  | 0, k => by simp [ix]
  | m + 1, k => by
    rw [show ix B k (m + 1 + 1) = if B k then (k : Int) else ix B (k + 1) (m + 1) from rfl, show ix B k (m + 1) = if B k then (k : Int) else ix B (k + 1) m from rfl]
    by_cases hb : B k = true
    · simp [hb]
    · rw [if_neg hb, if_neg hb, ix_snoc m (k + 1), show k + 1 + m = k + (m + 1) by omega]
theorem hs_app (A B : List (List UInt8 × Int)) (s : List UInt8) : hs (A ++ B) s = (hs A s || hs B s) := by simp [hs]
theorem lk_app (A B : List (List UInt8 × Int)) (s : List UInt8) : lk (A ++ B) s = if hs A s then lk A s else lk B s := by
  unfold lk
  rw [List.find?_append]
  by_cases h : hs A s = true
  · rw [if_pos h]
    have : (A.find? (fun p => p.1 == s)).isSome = true := by
      rw [List.find?_isSome]
      obtain ⟨p, hp, he⟩ := List.any_eq_true.1 h
      exact ⟨p, hp, he⟩
    obtain ⟨p, hp⟩ := Option.isSome_iff_exists.1 this
    rw [hp]; rfl
  · rw [if_neg h]
    have : A.find? (fun p => p.1 == s) = none := by
      rw [List.find?_eq_none]
      intro p hp he
      exact h (List.any_eq_true.2 ⟨p, hp, he⟩)
    rw [this]; rfl
theorem lk_inn {H : Nat → Nat → List UInt8} {i k : Nat} {s : List UInt8} (h : hs (inn H i k) s = true) : lk (inn H i k) s = (i : Int) := by
  unfold lk
  have : ((inn H i k).find? (fun p => p.1 == s)).isSome = true := by
    rw [List.find?_isSome]
    obtain ⟨p, hp, he⟩ := List.any_eq_true.1 h
    exact ⟨p, hp, he⟩
  obtain ⟨p, hp⟩ := Option.isSome_iff_exists.1 this
  rw [hp]
  have hm := List.mem_of_find?_eq_some hp
  simp only [inn, List.mem_map] at hm
  obtain ⟨j, _, rfl⟩ := hm
  rfl
theorem home_lk {N : Nat → Nat} {H : Nat → Nat → List UInt8} {B : Nat → Bool} {s : List UInt8} (hB : ∀ m, B m = hs (inn H m (N m)) s) : ∀ M, (hs (hmL N H M) s = true ↔ 0 ≤ ix B 0 M) ∧ (hs (hmL N H M) s = true → lk (hmL N H M) s = ix B 0 M)
  | 0 => by simp [hmL, hs, ix]
  | M + 1 => by
    obtain ⟨h1, h2⟩ := home_lk hB M
    rw [hmL, hs_app, lk_app, ix_snoc, Nat.zero_add]
    by_cases h : hs (hmL N H M) s = true
    · have h0 := h1.1 h
      rw [h, if_pos h0, if_pos rfl, h2 h]
      exact ⟨by simpa using h0, fun _ => rfl⟩
    · have h0 : ¬ 0 ≤ ix B 0 M := fun k => h (h1.2 k)
      have hf : hs (hmL N H M) s = false := by simpa using h
      rw [hf, if_neg h0, hB M, Bool.false_or]
      simp only [Bool.false_eq_true, if_false]
      by_cases h3 : hs (inn H M (N M)) s = true
      · rw [if_pos h3]
        exact ⟨by simp [h3], fun _ => lk_inn h3⟩
      · rw [if_neg h3]
        exact ⟨⟨fun k => absurd k h3, fun k => by omega⟩, fun k => absurd k h3⟩
theorem cI_inn (L : List (List D)) (m : Nat) (s : List UInt8) : cI (sub L 1 m) s = hs (inn (sb L 1) m (ln L 1 m)) s := by
  unfold cI
  cases hb : hs (inn (sb L 1) m (ln L 1 m)) s with
  | true =>
    rw [decide_eq_true_eq, ix_nonneg]
    obtain ⟨p, hp, he⟩ := List.any_eq_true.1 hb
    simp only [inn, List.mem_map, List.mem_range] at hp
    obtain ⟨j, hj, rfl⟩ := hp
    have e : sb L 1 m j = s := by simpa using he
    exact ⟨j, Nat.zero_le _, by unfold ln at hj; omega, by rw [← e]; simp [sb]⟩
  | false =>
    rw [decide_eq_false_iff_not, ix_nonneg]
    rintro ⟨j, h1, h2, h3⟩
    have e : s = tn (sub L 1 m) j := by simpa using h3
    have : hs (inn (sb L 1) m (ln L 1 m)) s = true := by
      refine List.any_eq_true.2 ⟨(sb L 1 m j, (m : Int)), ?_, by simp [sb, ← e]⟩
      simp only [inn, List.mem_map, List.mem_range]
      exact ⟨j, by unfold ln; omega, rfl⟩
    rw [this] at hb; cases hb
end V
end Go.Proofs.Ytjincjlalopbfaa

namespace Go.Proofs.Ytjincjlalopbfaa
open Go.RowKit
attribute [local go_sem ↓] Go.wp_at_zero Go.wp_at_succ
set_option linter.unusedVariables false
set_option linter.unusedSimpArgs false
set_option maxRecDepth 10000
namespace V
/-- a row of names, of the call's own -/
def sS (M : List (List UInt8 × Int)) : List Value := M.map (fun p => .string (sv p.1))
def Os (B : Nat) (w : World) (v : Value) (M : List (List UInt8 × Int)) : Prop := w.ownsRow B 9 1 v M.length (sS M)
theorem Os.nil (B : Nat) (w : World) : Os B w (.slice none 0 0) [] := World.ownsRow_nil _ _ _ _
theorem Os.keep {B : Nat} {w w' : World} {v : Value} {M : List (List UInt8 × Int)} (h : Os B w v M) (hk : Keep w w') : Os B w' v M :=
  World.ownsRow.kept (row := none) h ⟨hk.os, hk.tape, hk.output, hk.size, fun i hi _ => hk.block i hi⟩ (by cases v.ownBlock <;> simp)
end V
end Go.Proofs.Ytjincjlalopbfaa

namespace Go.Proofs.Ytjincjlalopbfaa
open Go.RowKit
set_option linter.unusedVariables false
set_option linter.unusedSimpArgs false
set_option maxRecDepth 10000
namespace V
open S
theorem ix_lt {B : Nat → Bool} {n : Nat} : ix B 0 n < 0 ↔ ¬ 0 ≤ ix B 0 n := by omega
theorem ix_of_mk {T : Nat → List UInt8} {s : List UInt8} : ∀ n, (0 ≤ ix (fun k => T k == s) 0 n ↔ hs (mk T n) s = true) ∧ (hs (mk T n) s = true → ix (fun k => T k == s) 0 n = lk (mk T n) s)
  | 0 => by simp [mk, hs, ix]
  | n + 1 => by
    obtain ⟨h1, h2⟩ := ix_of_mk (T := T) (s := s) n
    rw [ix_snoc, mk_succ, hs_app, lk_app, Nat.zero_add]
    by_cases h : hs (mk T n) s = true
    · have h0 := h1.2 h
      rw [if_pos h0, h, if_pos rfl]
      exact ⟨by simpa using h0, fun _ => h2 h⟩
    · have h0 : ¬ 0 ≤ ix (fun k => T k == s) 0 n := fun k => h (h1.1 k)
      have hf : hs (mk T n) s = false := by simpa using h
      rw [if_neg h0, hf]
      by_cases h3 : (T n == s) = true
      · rw [if_pos h3]
        have e : T n = s := by simpa using h3
        refine ⟨by simp [hs, e], fun _ => ?_⟩
        simp [lk, e]
      · rw [if_neg h3]
        have e : ¬ T n = s := by simpa using h3
        refine ⟨by simp [hs, e], fun k => ?_⟩
        simp [hs, e] at k
theorem nI_lt {L : List (List D)} (nm : List UInt8) : nI L nm < 0 ↔ hs (mk (tn L) L.length) nm = false := by
  unfold nI
  rw [ix_lt, (ix_of_mk (T := tn L) (s := nm) L.length).1]
  simp
theorem hI_hs {L : List (List D)} (nm : List UInt8) : 0 ≤ hI L nm ↔ hs (hmL (ln L 1) (sb L 1) L.length) nm = true := by
  unfold hI
  exact (home_lk (N := ln L 1) (H := sb L 1) (B := fun k => cI (sub L 1 k) nm) (s := nm) (fun m => cI_inn L m nm) L.length).1.symm
theorem ph_heads {L : List (List D)} {MH : List (List UInt8 × Int)} (h : phE L MH = none) : ∀ m, m < L.length → ∀ o, o < ln L 1 m → hs MH (sb L 1 m o) = true := by
  intro m hm o ho
  have h1 := fE_none _ _ h m (Nat.zero_le _) (by omega)
  unfold phF at h1
  split at h1
  · cases h1
  · cases h2 : fE (phI (ln L 1) (sb L 1) MH (iv L 2) m) 0 (ln L 1 m) with
    | some e => rw [h2] at h1; cases h1
    | none =>
      have h3 := fE_none _ _ h2 o (Nat.zero_le _) (by omega)
      unfold phI at h3
      split at h3
      · assumption
      · cases h3
end V
end Go.Proofs.Ytjincjlalopbfaa
