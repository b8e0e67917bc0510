/- Package order: Count; rows of numbers that are read. -/
import Derived.Test.YtakandlehneciaaOdN
import Derived.Test.YtakandlehneciaaExt
import Derived.Test.YtakandlehneciaaChecked
import Derived.LoopTactic
import Derived.Deep.DeepCutAuto
import Derived.Deep.DrawnRows
import Derived.Deep.RegionHeld3
import Derived.Laws.AppendOwn
import Derived.Laws.OwnMore
import Derived.Laws.MakeOwn
import Derived.OwnWalk
namespace Go.Proofs.Ytakandlehneciaa
open Go.RowKit
attribute [local go_sem ↓] Go.wp_at_zero Go.wp_at_succ
set_option linter.unusedVariables false
set_option linter.unusedSimpArgs false
set_option maxRecDepth 10000
namespace Od
theorem kc {w w' : World} {a : Addr} {v : Value} (hk : Keep w w') (h : w.cell? a = some v) : w'.cell? a = some v := by
  rw [Below.cell hk (World.block_lt_of_cell? w _ h)]; exact h
theorem add_pl (b o n : Nat) : (⟨b, o, none⟩ : Addr).add n = ⟨b, o + n, none⟩ := by unfold Addr.add; split <;> simp_all
/-- a slice that reads as numbers -/
def Is (w : World) (v : Value) (L : List Int) : Prop := ∃ a cap, v = .slice a L.length cap ∧ ∀ k, k < L.length → ∃ ad, a = some ad ∧ w.cell? (ad.add k) = some (.int .i64 (L.getD k 0))
theorem Is.keep {w w' : World} {v : Value} {L : List Int} (h : Is w v L) (hk : Keep w w') : Is w' v L := by
  obtain ⟨a, cap, rfl, h⟩ := h
  refine ⟨a, cap, rfl, fun k hlt => ?_⟩
  obtain ⟨ad, e, h2⟩ := h k hlt
  exact ⟨ad, e, kc hk h2⟩
theorem is_nil (w : World) : Is w (.slice none 0 0) [] := ⟨none, 0, rfl, fun k h => by simp at h⟩
set_option maxHeartbeats 2000000 in
theorem count_any (n : Int) (w : World) : Calls Try.prog 57 #[.int .i64 n] w fun e w' => e = .returned (.int .i64 (cnt n)) ∧ Keep w w' := by
  have K0 := hide (Keep.refl w)
  by_cases h0 : n < 0
  · have hc : cnt n = 0 := by unfold cnt; rw [if_neg (by omega)]
    rw [hc]
    go_enter Try.func57, Try.ntmps57
    go_wp2_with fail
    go_ret
    exact ⟨rfl, unhide K0⟩
  by_cases h8 : 8 < n
  · have hc : cnt n = 0 := by unfold cnt; rw [if_neg (by omega)]
    rw [hc]
    go_enter Try.func57, Try.ntmps57
    go_wp2_with fail
    go_ret
    exact ⟨rfl, unhide K0⟩
  obtain ⟨m, rfl⟩ : ∃ m : Nat, n = (m : Int) := ⟨n.toNat, by omega⟩
  have hm : m ≤ 8 := by omega
  rw [cnt_nat hm]
  clear h0 h8
  have h0 : ¬ ((m : Int) < 0) := by omega
  have h8 : ¬ (8 < (m : Int)) := by omega
  go_enter Try.func57, Try.ntmps57
  go_wp2_with fail
  go_loopw [3, 12] (fun vm vi wr => ∃ k : Nat, k ≤ m ∧ vm = .int .i64 (fc k : Int) ∧ vi = .int .i64 (k : Int) ∧ Hid (Keep w wr)) (fun vm vi _ => m - (intOf vi).toNat)
  case atStart => exact ⟨0, Nat.zero_le _, rfl, rfl, K0⟩
  case round =>
    obtain ⟨k, hk, rfl, rfl, KW⟩ := hrel
    by_cases hlt : k < m
    · have li : (k : Int) < (m : Int) := by omega
      have hf : fc k * (k + 1) ≤ 40320 := by have := fc_le (show k + 1 ≤ 8 by omega); rw [fc] at this; exact this
      have hw : wrap64 ((fc k : Int) * ((k : Int) + 1)) = (fc (k + 1) : Int) := by
        rw [fc]
        have h : ((fc k : Int) * ((k : Int) + 1)) = ((fc k * (k + 1) : Nat) : Int) := by simp
        rw [h]
        exact wrap_in ⟨by omega, by omega⟩
      go_wp2_with fail
      go_roundw
      case rel => exact ⟨k + 1, hlt, by rw [hw], by go_num, KW⟩
      case measure => simp [intOf]; omega
    · have li : ¬ (k : Int) < (m : Int) := by omega
      obtain rfl : k = m := by omega
      go_wp2_with fail
      go_ret
      exact ⟨rfl, unhide KW⟩
/-- the first place at which a number stands -/
theorem idx_is {L : List Int} {x : Int} {k : Nat} (hk : k < L.length) (e : L.getD k 0 = x) (h : ∀ j, j < k → L.getD j 0 ≠ x) : L.idxOf x = k := by
  have hx : x ∈ L := by
    rw [← e, List.getD_eq_getElem?_getD, List.getElem?_eq_getElem hk]
    exact List.getElem_mem hk
  have h1 := List.idxOf_lt_length_iff.2 hx
  rcases Nat.lt_trichotomy (L.idxOf x) k with h2 | h2 | h2
  · exact absurd (at_idx h1) (h _ h2)
  · exact h2
  · exfalso
    have h3 := List.not_of_lt_findIdx h2
    rw [List.getD_eq_getElem?_getD, List.getElem?_eq_getElem hk] at e
    simp only [Option.getD_some] at e
    simp [e] at h3
theorem not_in {L : List Int} {x : Int} (h : ∀ j, j < L.length → L.getD j 0 ≠ x) : x ∉ L := fun hx => by
  have h1 := List.idxOf_lt_length_iff.2 hx
  exact h _ h1 (at_idx h1)
theorem at_in {L : List Int} {x : Int} {k : Nat} (hk : k < L.length) (e : L.getD k 0 = x) : x ∈ L := by
  rw [← e, List.getD_eq_getElem?_getD, List.getElem?_eq_getElem hk]
  exact List.getElem_mem hk
def ixo (L : List Int) (x : Int) : Int := if L.idxOf x < L.length then (L.idxOf x : Int) else -1
set_option maxHeartbeats 2000000 in
theorem index_any (v : Value) (L : List Int) (x : Int) (w : World) (h : Is w v L) (hn : L.length ≤ 1000000) : Calls Try.prog 72 #[v, .int .i64 x] w fun e w' => e = .returned (.int .i64 (ixo L x)) ∧ Keep w w' := by
  obtain ⟨a, cap, rfl, h⟩ := h
  have HC := hide h
  clear h
  have K0 := hide (Keep.refl w)
  obtain ⟨n, hL⟩ : ∃ n, L.length = n := ⟨_, rfl⟩
  have HL := hide hL
  rw [hL] at hn HC ⊢
  clear hL
  go_enter Try.func72, Try.ntmps72
  go_wp2_with fail
  go_loopw [8] (fun vi wr => ∃ k : Nat, k ≤ n ∧ vi = .int .i64 (k : Int) ∧ Hid (∀ j, j < k → L.getD j 0 ≠ x) ∧ Hid (Keep w wr)) (fun vi _ => n - (intOf vi).toNat)
  case atStart => exact ⟨0, Nat.zero_le _, rfl, hide (fun j hj => by omega), K0⟩
  case round =>
    obtain ⟨k, hk, rfl, HN, KW⟩ := hrel
    by_cases hlt : k < n
    · have li : (k : Int) < (n : Int) := by omega
      obtain ⟨ad, rfl, e0⟩ := (unhide HC) k hlt
      have y0 := kc (unhide KW) e0
      clear e0
      obtain ⟨y, HY⟩ : ∃ y, Hid (L.getD k 0 = y) := ⟨_, hide rfl⟩
      rw [unhide HY] at y0
      by_cases hx : x = y
      · subst hx
        have hi : ixo L x = (k : Int) := by
          have := idx_is (by rw [unhide HL]; exact hlt) (unhide HY) (unhide HN)
          unfold ixo
          rw [this, if_pos (by rw [unhide HL]; exact hlt)]
        go_wp2_with fail
        go_ret
        exact ⟨by first | rfl | (rw [hi]; rfl), unhide KW⟩
      · have hb : (x == y) = false := by simpa using hx
        have HN2 : Hid (∀ j, j < k + 1 → L.getD j 0 ≠ x) := hide (fun j hj => by
          rcases Nat.lt_or_eq_of_le (Nat.le_of_lt_succ hj) with h | h
          · exact unhide HN j h
          · rw [h, unhide HY]; exact fun e => hx e.symm)
        go_wp2_with fail
        go_roundw
        case rel => exact ⟨k + 1, hlt, by go_num, HN2, KW⟩
        case measure => simp [intOf]; omega
    · have li : ¬ (k : Int) < (n : Int) := by omega
      obtain rfl : k = n := by omega
      have hi : ixo L x = -1 := by
        unfold ixo
        rw [if_neg (by rw [List.idxOf_lt_length_iff]; exact not_in (fun j hj => unhide HN j (by rw [unhide HL] at hj; exact hj)))]
      go_wp2_with fail
      go_ret
      exact ⟨by first | rfl | (rw [hi]; rfl), unhide KW⟩
set_option maxHeartbeats 2000000 in
theorem has_any (v : Value) (L : List Int) (x : Int) (w : World) (h : Is w v L) (hn : L.length ≤ 1000000) : Calls Try.prog 48 #[v, .int .i64 x] w fun e w' => e = .returned (.bool (decide (x ∈ L))) ∧ Keep w w' := by
  obtain ⟨a, cap, rfl, h⟩ := h
  have HC := hide h
  clear h
  have K0 := hide (Keep.refl w)
  obtain ⟨n, hL⟩ : ∃ n, L.length = n := ⟨_, rfl⟩
  have HL := hide hL
  rw [hL] at hn HC ⊢
  clear hL
  go_enter Try.func48, Try.ntmps48
  go_wp2_with fail
  go_loopw [5] (fun vi wr => ∃ k : Nat, k ≤ n ∧ vi = .int .i64 (k : Int) ∧ Hid (∀ j, j < k → L.getD j 0 ≠ x) ∧ Hid (Keep w wr)) (fun vi _ => n - (intOf vi).toNat)
  case atStart => exact ⟨0, Nat.zero_le _, rfl, hide (fun j hj => by omega), K0⟩
  case round =>
    obtain ⟨k, hk, rfl, HN, KW⟩ := hrel
    by_cases hlt : k < n
    · have li : (k : Int) < (n : Int) := by omega
      obtain ⟨ad, rfl, e0⟩ := (unhide HC) k hlt
      have y0 := kc (unhide KW) e0
      clear e0
      obtain ⟨y, HY⟩ : ∃ y, Hid (L.getD k 0 = y) := ⟨_, hide rfl⟩
      rw [unhide HY] at y0
      by_cases hx : y = x
      · subst hx
        have hi : decide (y ∈ L) = true := decide_eq_true (at_in (by rw [unhide HL]; exact hlt) (unhide HY))
        go_wp2_with fail
        go_ret
        exact ⟨by first | rfl | (rw [hi]; rfl), unhide KW⟩
      · have hb : (y == x) = false := by simpa using hx
        have HN2 : Hid (∀ j, j < k + 1 → L.getD j 0 ≠ x) := hide (fun j hj => by
          rcases Nat.lt_or_eq_of_le (Nat.le_of_lt_succ hj) with h | h
          · exact unhide HN j h
          · rw [h, unhide HY]; exact hx)
        go_wp2_with fail
        go_roundw
        case rel => exact ⟨k + 1, hlt, by go_num, HN2, KW⟩
        case measure => simp [intOf]; omega
    · have li : ¬ (k : Int) < (n : Int) := by omega
      obtain rfl : k = n := by omega
      have hi : decide (x ∈ L) = false := decide_eq_false (not_in (fun j hj => unhide HN j (by rw [unhide HL] at hj; exact hj)))
      go_wp2_with fail
      go_ret
      exact ⟨by first | rfl | (rw [hi]; rfl), unhide KW⟩
theorem same_ext {L M : List Int} (h : L.length = M.length) (he : ∀ j, j < L.length → L.getD j 0 = M.getD j 0) : L = M := by
  apply List.ext_getElem h
  intro i h1 h2
  have := he i h1
  rw [List.getD_eq_getElem?_getD, List.getD_eq_getElem?_getD, List.getElem?_eq_getElem h1, List.getElem?_eq_getElem h2] at this
  simpa using this
set_option maxHeartbeats 2000000 in
theorem same_any (v u : Value) (L M : List Int) (w : World) (h : Is w v L) (g : Is w u M) (hn : L.length ≤ 1000000) (hm : M.length ≤ 1000000) : Calls Try.prog 25 #[v, u] w fun e w' => e = .returned (.bool (decide (L = M))) ∧ Keep w w' := by
  obtain ⟨a, cap, rfl, h⟩ := h
  obtain ⟨b, cbp, rfl, g⟩ := g
  have HC := hide h
  have HD := hide g
  clear h g
  have K0 := hide (Keep.refl w)
  obtain ⟨n, hL⟩ : ∃ n, L.length = n := ⟨_, rfl⟩
  obtain ⟨m, hM⟩ : ∃ m, M.length = m := ⟨_, rfl⟩
  have HL := hide hL
  have HM := hide hM
  rw [hL] at hn HC ⊢
  rw [hM] at hm HD ⊢
  clear hL hM
  by_cases hnm : n = m
  · subst hnm
    have hbn : ((n : Int) != (n : Int)) = false := by simp
    go_enter Try.func25, Try.ntmps25
    go_wp2_with fail
    go_loopw [5] (fun vi wr => ∃ k : Nat, k ≤ n ∧ vi = .int .i64 (k : Int) ∧ Hid (∀ j, j < k → L.getD j 0 = M.getD j 0) ∧ Hid (Keep w wr)) (fun vi _ => n - (intOf vi).toNat)
    case atStart => exact ⟨0, Nat.zero_le _, rfl, hide (fun j hj => by omega), K0⟩
    case round =>
      obtain ⟨k, hk, rfl, HN, KW⟩ := hrel
      by_cases hlt : k < n
      · have li : (k : Int) < (n : Int) := by omega
        have lz : (0 : Int) ≤ (k : Int) := by omega
        obtain ⟨ad, rfl, e0⟩ := (unhide HC) k hlt
        obtain ⟨bd, rfl, e1⟩ := (unhide HD) k hlt
        have y0 := kc (unhide KW) e0
        have y1 := kc (unhide KW) e1
        clear e0 e1
        obtain ⟨y, HY⟩ : ∃ y, Hid (L.getD k 0 = y) := ⟨_, hide rfl⟩
        obtain ⟨z, HZ⟩ : ∃ z, Hid (M.getD k 0 = z) := ⟨_, hide rfl⟩
        rw [unhide HY] at y0
        rw [unhide HZ] at y1
        have CK : Hid (∀ w', Keep wr w' → w'.cell? (ad.add k) = some (.int .i64 y) ∧ w'.cell? (bd.add k) = some (.int .i64 z)) := hide (fun w' hk => ⟨kc hk y0, kc hk y1⟩)
        by_cases hx : y = z
        · subst hx
          have hb : (y != y) = false := by simp
          have HN2 : Hid (∀ j, j < k + 1 → L.getD j 0 = M.getD j 0) := hide (fun j hj => by
            rcases Nat.lt_or_eq_of_le (Nat.le_of_lt_succ hj) with h | h
            · exact unhide HN j h
            · rw [h, unhide HY, unhide HZ])
          clear y0 y1
          go_upto_region 6 with fail
          refine wp_region_held_drew (S := (fun w' => w'.cell? (ad.add k) = some (.int .i64 y) ∧ w'.cell? (bd.add k) = some (.int .i64 y))) (by kernel_rfl) (by exact unhide CK _ ((Keep.refl _).drew)) (fun hHeld => ?_)
          refine wpAnyH_take (i := 0) (v := ?_) rfl (by kernel_rfl) (by kernel_rfl) (by kernel_rfl) (fun _ _ _ h => h) (Or.inl ⟨by rfl, ?_⟩) hHeld ?_
          rotate_left
          · intro w hSw
            try dsimp only at hSw
            go_simp
            try with_reducible rfl
          show wpAnyH _ _ _ _ _ _ _ (Act.put _ (some 17) _) _
          try simp only [Act.put, List.setIfInBounds_toArray, List.set_cons_zero, List.set_cons_succ]
          refine wpAnyH_take (i := 1) (v := ?_) rfl (by kernel_rfl) (by kernel_rfl) (by kernel_rfl) (fun _ _ _ h => h) (Or.inl ⟨by rfl, ?_⟩) hHeld ?_
          rotate_left
          · intro w hSw
            try dsimp only at hSw
            go_simp
            try with_reducible rfl
          show wpAnyH _ _ _ _ _ _ _ (Act.put _ (some 18) _) _
          try simp only [Act.put, List.setIfInBounds_toArray, List.set_cons_zero, List.set_cons_succ]
          refine wpAnyH_take (i := 2) (v := ?_) rfl (by kernel_rfl) (by kernel_rfl) (by kernel_rfl) (fun _ _ _ h => h) (Or.inl ⟨by rfl, ?_⟩) hHeld ?_
          rotate_left
          · intro w hSw
            try dsimp only at hSw
            go_simp
            try with_reducible rfl
          show wpAnyH _ _ _ _ _ _ _ (Act.put _ (some 19) _) _
          try simp only [Act.put, List.setIfInBounds_toArray, List.set_cons_zero, List.set_cons_succ]
          refine wpAnyH_take (i := 3) (v := ?_) rfl (by kernel_rfl) (by kernel_rfl) (by kernel_rfl) (fun _ _ _ h => h) (Or.inl ⟨by rfl, ?_⟩) hHeld ?_
          rotate_left
          · intro w hSw
            try dsimp only at hSw
            go_simp
            try with_reducible rfl
          show wpAnyH _ _ _ _ _ _ _ (Act.put _ (some 20) _) _
          try simp only [Act.put, List.setIfInBounds_toArray, List.set_cons_zero, List.set_cons_succ]
          refine wpAnyH_take (i := 4) (v := ?_) rfl (by kernel_rfl) (by kernel_rfl) (by kernel_rfl) (fun _ _ _ h => h) (Or.inl ⟨by rfl, ?_⟩) hHeld ?_
          rotate_left
          · intro w hSw
            try dsimp only at hSw
            go_simp
            try with_reducible rfl
          show wpAnyH _ _ _ _ _ _ _ (Act.put _ (some 21) _) _
          try simp only [Act.put, List.setIfInBounds_toArray, List.set_cons_zero, List.set_cons_succ]
          refine wpAnyH_take (i := 5) (v := ?_) rfl (by kernel_rfl) (by kernel_rfl) (by kernel_rfl) (fun _ _ _ h => h) (Or.inl ⟨by rfl, ?_⟩) hHeld ?_
          rotate_left
          · intro w hSw
            try dsimp only at hSw
            go_simp
            try with_reducible rfl
          show wpAnyH _ _ _ _ _ _ _ (Act.put _ (some 22) _) _
          try simp only [Act.put, List.setIfInBounds_toArray, List.set_cons_zero, List.set_cons_succ]
          refine wpAnyH_take (i := 6) (v := ?_) rfl (by kernel_rfl) (by kernel_rfl) (by kernel_rfl) (fun _ _ _ h => h) (Or.inl ⟨by rfl, ?_⟩) hHeld ?_
          rotate_left
          · intro w hSw
            try dsimp only at hSw
            go_simp
            try with_reducible rfl
          show wpAnyH _ _ _ _ _ _ _ (Act.put _ (some 23) _) _
          try simp only [Act.put, List.setIfInBounds_toArray, List.set_cons_zero, List.set_cons_succ]
          refine wpAnyH_take (i := 7) (v := ?_) rfl (by kernel_rfl) (by kernel_rfl) (by kernel_rfl) (fun _ _ _ h => h) (Or.inl ⟨by rfl, ?_⟩) hHeld ?_
          rotate_left
          · intro w hSw
            try dsimp only at hSw
            go_simp
            try with_reducible rfl
          show wpAnyH _ _ _ _ _ _ _ (Act.put _ (some 24) _) _
          try simp only [Act.put, List.setIfInBounds_toArray, List.set_cons_zero, List.set_cons_succ]
          refine wpAnyH_take (i := 8) (v := ?_) rfl (by kernel_rfl) (by kernel_rfl) (by kernel_rfl) (fun _ _ _ h => h) (Or.inl ⟨by rfl, ?_⟩) hHeld ?_
          rotate_left
          · intro w hSw
            try dsimp only at hSw
            go_simp
            try with_reducible rfl
          show wpAnyH _ _ _ _ _ _ _ (Act.put _ (some 25) _) _
          try simp only [Act.put, List.setIfInBounds_toArray, List.set_cons_zero, List.set_cons_succ]
          refine wpAnyH_done (by kernel_rfl) ?_ _
          clear hHeld
          go_wp2_with fail
          go_roundw
          case rel => exact ⟨k + 1, hlt, by go_num, HN2, hide ((unhide KW).drew)⟩
          case measure => simp [intOf]; omega
        · have hb : (y != z) = true := by simpa using hx
          have hi : decide (L = M) = false := decide_eq_false (fun e => hx (by rw [← unhide HY, ← unhide HZ, e]))
          clear y0 y1
          go_upto_region 6 with fail
          refine wp_region_held_drew (S := (fun w' => w'.cell? (ad.add k) = some (.int .i64 y) ∧ w'.cell? (bd.add k) = some (.int .i64 z))) (by kernel_rfl) (by exact unhide CK _ ((Keep.refl _).drew)) (fun hHeld => ?_)
          refine wpAnyH_take (i := 0) (v := ?_) rfl (by kernel_rfl) (by kernel_rfl) (by kernel_rfl) (fun _ _ _ h => h) (Or.inl ⟨by rfl, ?_⟩) hHeld ?_
          rotate_left
          · intro w hSw
            try dsimp only at hSw
            go_simp
            try with_reducible rfl
          show wpAnyH _ _ _ _ _ _ _ (Act.put _ (some 17) _) _
          try simp only [Act.put, List.setIfInBounds_toArray, List.set_cons_zero, List.set_cons_succ]
          refine wpAnyH_take (i := 1) (v := ?_) rfl (by kernel_rfl) (by kernel_rfl) (by kernel_rfl) (fun _ _ _ h => h) (Or.inl ⟨by rfl, ?_⟩) hHeld ?_
          rotate_left
          · intro w hSw
            try dsimp only at hSw
            go_simp
            try with_reducible rfl
          show wpAnyH _ _ _ _ _ _ _ (Act.put _ (some 18) _) _
          try simp only [Act.put, List.setIfInBounds_toArray, List.set_cons_zero, List.set_cons_succ]
          refine wpAnyH_take (i := 2) (v := ?_) rfl (by kernel_rfl) (by kernel_rfl) (by kernel_rfl) (fun _ _ _ h => h) (Or.inl ⟨by rfl, ?_⟩) hHeld ?_
          rotate_left
          · intro w hSw
            try dsimp only at hSw
            go_simp
            try with_reducible rfl
          show wpAnyH _ _ _ _ _ _ _ (Act.put _ (some 19) _) _
          try simp only [Act.put, List.setIfInBounds_toArray, List.set_cons_zero, List.set_cons_succ]
          refine wpAnyH_take (i := 3) (v := ?_) rfl (by kernel_rfl) (by kernel_rfl) (by kernel_rfl) (fun _ _ _ h => h) (Or.inl ⟨by rfl, ?_⟩) hHeld ?_
          rotate_left
          · intro w hSw
            try dsimp only at hSw
            go_simp
            try with_reducible rfl
          show wpAnyH _ _ _ _ _ _ _ (Act.put _ (some 20) _) _
          try simp only [Act.put, List.setIfInBounds_toArray, List.set_cons_zero, List.set_cons_succ]
          refine wpAnyH_take (i := 4) (v := ?_) rfl (by kernel_rfl) (by kernel_rfl) (by kernel_rfl) (fun _ _ _ h => h) (Or.inl ⟨by rfl, ?_⟩) hHeld ?_
          rotate_left
          · intro w hSw
            try dsimp only at hSw
            go_simp
            try with_reducible rfl
          show wpAnyH _ _ _ _ _ _ _ (Act.put _ (some 21) _) _
          try simp only [Act.put, List.setIfInBounds_toArray, List.set_cons_zero, List.set_cons_succ]
          refine wpAnyH_take (i := 5) (v := ?_) rfl (by kernel_rfl) (by kernel_rfl) (by kernel_rfl) (fun _ _ _ h => h) (Or.inl ⟨by rfl, ?_⟩) hHeld ?_
          rotate_left
          · intro w hSw
            try dsimp only at hSw
            go_simp
            try with_reducible rfl
          show wpAnyH _ _ _ _ _ _ _ (Act.put _ (some 22) _) _
          try simp only [Act.put, List.setIfInBounds_toArray, List.set_cons_zero, List.set_cons_succ]
          refine wpAnyH_take (i := 6) (v := ?_) rfl (by kernel_rfl) (by kernel_rfl) (by kernel_rfl) (fun _ _ _ h => h) (Or.inl ⟨by rfl, ?_⟩) hHeld ?_
          rotate_left
          · intro w hSw
            try dsimp only at hSw
            go_simp
            try with_reducible rfl
          show wpAnyH _ _ _ _ _ _ _ (Act.put _ (some 23) _) _
          try simp only [Act.put, List.setIfInBounds_toArray, List.set_cons_zero, List.set_cons_succ]
          refine wpAnyH_take (i := 7) (v := ?_) rfl (by kernel_rfl) (by kernel_rfl) (by kernel_rfl) (fun _ _ _ h => h) (Or.inl ⟨by rfl, ?_⟩) hHeld ?_
          rotate_left
          · intro w hSw
            try dsimp only at hSw
            go_simp
            try with_reducible rfl
          show wpAnyH _ _ _ _ _ _ _ (Act.put _ (some 24) _) _
          try simp only [Act.put, List.setIfInBounds_toArray, List.set_cons_zero, List.set_cons_succ]
          refine wpAnyH_take (i := 8) (v := ?_) rfl (by kernel_rfl) (by kernel_rfl) (by kernel_rfl) (fun _ _ _ h => h) (Or.inl ⟨by rfl, ?_⟩) hHeld ?_
          rotate_left
          · intro w hSw
            try dsimp only at hSw
            go_simp
            try with_reducible rfl
          show wpAnyH _ _ _ _ _ _ _ (Act.put _ (some 25) _) _
          try simp only [Act.put, List.setIfInBounds_toArray, List.set_cons_zero, List.set_cons_succ]
          refine wpAnyH_done (by kernel_rfl) ?_ _
          clear hHeld
          go_wp2_with fail
          go_ret
          exact ⟨by first | rfl | (rw [hi]; rfl), (unhide KW).drew⟩
      · have li : ¬ (k : Int) < (n : Int) := by omega
        obtain rfl : k = n := by omega
        have hi : decide (L = M) = true := decide_eq_true (same_ext (by rw [unhide HL, unhide HM]) (fun j hj => unhide HN j (by rw [unhide HL] at hj; exact hj)))
        go_wp2_with fail
        go_ret
        exact ⟨by first | rfl | (rw [hi]; rfl), unhide KW⟩
  · have hbn : ((n : Int) != (m : Int)) = true := by simp; omega
    have hi : decide (L = M) = false := decide_eq_false (fun e => hnm (by rw [← unhide HL, ← unhide HM, e]))
    go_enter Try.func25, Try.ntmps25
    go_wp2_with fail
    go_ret
    exact ⟨by first | rfl | (rw [hi]; rfl), unhide K0⟩
set_option maxHeartbeats 2000000 in
theorem right_any (v : Value) (L : List Int) (w : World) (h : Is w v L) (hn : L.length ≤ 1000000) : Calls Try.prog 30 #[v] w fun e w' => e = .returned (.bool (isO L)) ∧ Keep w w' := by
  have HI := hide h
  obtain ⟨a, cap, rfl, _⟩ := h
  have K0 := hide (Keep.refl w)
  by_cases h8 : L.length ≤ 8
  · have li8 : ¬ (8 < (L.length : Int)) := by omega
    have HA : Hid (isO L = (rg L.length).all (fun v => decide (v ∈ L))) := hide (by unfold isO; rw [decide_eq_true h8, Bool.true_and])
    obtain ⟨n, hL⟩ : ∃ n, L.length = n := ⟨_, rfl⟩
    rw [hL] at li8 hn HI HA h8 ⊢
    rw [unhide HA]
    clear HA
    have HL := hide hL
    clear hL
    go_enter Try.func30, Try.ntmps30
    go_wp2_with fail
    go_loopw [3] (fun vi wr => ∃ k : Nat, k ≤ n ∧ vi = .int .i64 (k : Int) ∧ Hid (∀ j : Nat, j < k → (j : Int) ∈ L) ∧ Hid (Keep w wr)) (fun vi _ => n - (intOf vi).toNat)
    case atStart => exact ⟨0, Nat.zero_le _, rfl, hide (fun j hj => by omega), K0⟩
    case round =>
      obtain ⟨k, hk, rfl, HN, KW⟩ := hrel
      by_cases hlt : k < n
      · have li : (k : Int) < (n : Int) := by omega
        have TH := hide (has_any _ L (k : Int) wr ((unhide HI).keep (unhide KW)) (by rw [unhide HL]; exact hn))
        go_wp2_with fail
        (refine (unhide TH).mono ?_; rintro e w2 ⟨rfl, hk9⟩; have K2 := hide ((unhide KW).trans hk9); clear hk9 TH)
        by_cases hx : (k : Int) ∈ L
        · rw [decide_eq_true hx]
          have HN2 : Hid (∀ j : Nat, j < k + 1 → (j : Int) ∈ L) := hide (fun j hj => by
            rcases Nat.lt_or_eq_of_le (Nat.le_of_lt_succ hj) with h | h
            · exact unhide HN j h
            · rw [h]; exact hx)
          clear hx
          go_wp2_with fail
          go_roundw
          case rel => exact ⟨k + 1, hlt, by go_num, HN2, K2⟩
          case measure => simp [intOf]; omega
        · rw [decide_eq_false hx]
          have hi : (rg n).all (fun v => decide (v ∈ L)) = false := by
            rw [List.all_eq_false]
            exact ⟨(k : Int), rg_mem.2 ⟨by omega, li⟩, by simp [hx]⟩
          clear hx
          go_wp2_with fail
          go_ret
          exact ⟨by first | rfl | (rw [hi]; rfl), unhide K2⟩
      · have li : ¬ (k : Int) < (n : Int) := by omega
        obtain rfl : k = n := by omega
        have hi : (rg k).all (fun v => decide (v ∈ L)) = true := by
          rw [List.all_eq_true]
          intro x hx
          rw [rg_mem] at hx
          have := unhide HN x.toNat (by omega)
          rw [show ((x.toNat : Nat) : Int) = x by omega] at this
          exact decide_eq_true this
        go_wp2_with fail
        go_ret
        exact ⟨by first | rfl | (rw [hi]; rfl), unhide KW⟩
  · have li8 : (8 < (L.length : Int)) := by omega
    have hi : isO L = false := by unfold isO; rw [decide_eq_false h8]; rfl
    generalize L.length = n at li8 hn ⊢
    go_enter Try.func30, Try.ntmps30
    go_wp2_with fail
    go_ret
    exact ⟨by first | rfl | (rw [hi]; rfl), unhide K0⟩
end Od
end Go.Proofs.Ytakandlehneciaa
