/- Package group: a row's times together; each pair once. -/
import Derived.Test.YtakandlehneciaaGpN
import Derived.Deep.DrawnRows
import Derived.Laws.AppendOwn
namespace Go.Proofs.Ytakandlehneciaa
open Go.RowKit
attribute [local go_sem ↓] Go.wp_at_zero Go.wp_at_succ
set_option linter.unusedVariables false
set_option linter.unusedSimpArgs false
set_option maxRecDepth 10000
namespace Gp
open Pa
set_option maxHeartbeats 2000000 in
theorem sum_any (v : Value) (L : List Int) (w : World) (h : Is w v L) (hl : L.length ≤ 1000) (hb : ∀ t ∈ L, 0 ≤ t ∧ t ≤ 6000) : Calls Try.prog 50 #[v] w fun e w' => e = .returned (.int .i64 (sumN L)) ∧ Keep w w' := by
  obtain ⟨a, cap, rfl, h⟩ := h
  have HC := hide h
  have HS : Hid (∀ k, k < L.length → (L.take (k + 1)).foldl (· + ·) (0 : Int) = (L.take k).foldl (· + ·) 0 + L.getD k 0) := hide (fun k hk => fold_more _ _ 0 L k hk)
  have HB := hide (fun k hk => sum_bd hb k hk)
  have HT := hide (fun k => rg_at hb k)
  have HE : Hid (sumN L = (L.take L.length).foldl (· + ·) 0) := hide (by rw [take_all]; rfl)
  have K0 := hide (Keep.refl w)
  clear h
  rw [unhide HE]
  clear HE
  generalize hf : (fun k => (L.take k).foldl (· + ·) (0 : Int)) = f
  have hf2 : ∀ k, (L.take k).foldl (· + ·) (0 : Int) = f k := fun k => by rw [← hf]
  simp only [hf2] at HS HB ⊢
  have HZ : Hid (f 0 = 0) := hide (by rw [← hf]; rfl)
  clear hf hf2 hb
  generalize L.length = m at *
  go_enter Try.func50, Try.ntmps50
  go_wp2_with fail
  go_loopw [3, 8] (fun vs vi wr => ∃ k : Nat, k ≤ m ∧ vi = .int .i64 (k : Int) ∧ vs = .int .i64 (f k) ∧ Hid (Keep w wr)) (fun vs vi _ => m - (intOf vi).toNat)
  case atStart => exact ⟨0, Nat.zero_le _, rfl, by rw [unhide HZ], K0⟩
  case round =>
    obtain ⟨k, hk, rfl, rfl, KW⟩ := hrel
    by_cases hlt : k < m
    · have li : (k : Int) < (m : Int) := by omega
      obtain ⟨ad, rfl, e0⟩ := (unhide HC) k hlt
      have y0 := kc (unhide KW) e0
      have hn := unhide HS k hlt
      have hb := unhide HB k (by omega)
      have ht := unhide HT k
      clear e0
      generalize L.getD k 0 = y at y0 hn ht
      obtain ⟨z, hz⟩ : ∃ z, f (k + 1) = z := ⟨_, rfl⟩
      have HZ1 := hide hz
      rw [hz] at hn
      clear hz
      generalize f k = x at hn hb ⊢
      have hw : IntKind.i64.wrap (x + y) = z := by rw [IntKind.wrap_i64]; omega
      clear hb ht
      go_wp2_with fail
      go_roundw
      case rel => exact ⟨k + 1, hlt, by go_num, by rw [unhide HZ1, hn], KW⟩
      case measure => simp [intOf]; omega
    · have li : ¬ (k : Int) < (m : Int) := by omega
      obtain rfl : k = m := by omega
      go_wp2_with fail
      go_ret
      exact ⟨rfl, unhide KW⟩
theorem c2_new (w : World) (x y : Int) (t : TypeId) : C2 (w.alloc (.cells #[.int .i64 x, .int .i64 y] t)) ⟨w.heap.size, 0, none⟩ (x, y) := ⟨box_c w [.int .i64 x, .int .i64 y] t 0 _ rfl, box_c w [.int .i64 x, .int .i64 y] t 1 _ rfl⟩
theorem mem_at {α : Type} {L : List α} {x z : α} {k : Nat} (hk : k < L.length) (e : L.getD k z = x) : x ∈ L := by rw [← e]; exact getD_mem hk
theorem not_mem {α : Type} {L : List α} {x z : α} (h : ∀ j, j < L.length → L.getD j z ≠ x) : x ∉ L := fun hx => by
  obtain ⟨j, hj, e⟩ := List.getElem_of_mem hx
  exact h j hj (by rw [List.getD_eq_getElem?_getD, List.getElem?_eq_getElem hj]; exact e)
set_option maxHeartbeats 2000000 in
theorem pidx_any (v : Value) (R : List P2) (p q : Int) (w : World) (hR : Ps w v R) (hl : R.length ≤ 1000) : Calls Try.prog 63 #[v, .agg #[.int .i64 p, .int .i64 q]] w fun e w' => ∃ r : Int, e = .returned (.int .i64 r) ∧ Fd (decide ((p, q) ∈ R)) r ∧ Keep w w' := by
  obtain ⟨a, cap, rfl, -, hR⟩ := hR
  have HC := hide hR
  clear hR
  have X0 := hide (c2_new w p q 55)
  have K0 := hide ((Keep.refl w).alloc (.cells #[.int .i64 p, .int .i64 q] 55))
  obtain ⟨m, hm⟩ : ∃ m, R.length = m := ⟨_, rfl⟩
  have HM := hide hm
  rw [hm] at hl HC ⊢
  clear hm
  go_enter Try.func63, Try.ntmps63
  go_wp2_with fail
  generalize hw9 : w.alloc (.cells #[.int .i64 p, .int .i64 q] 55) = w9 at X0 K0 ⊢
  obtain ⟨c, hc⟩ : ∃ c, w.heap.size = c := ⟨_, rfl⟩
  rw [hc] at X0 ⊢
  clear hw9 hc
  go_loopw [8] (fun vi wr => ∃ k : Nat, vi = .int .i64 (k : Int) ∧ k ≤ m ∧ Hid (Keep w9 wr) ∧ Hid (∀ j, j < k → R.getD j z2 ≠ (p, q))) (fun vi _ => m - (intOf vi).toNat)
  case atStart => exact ⟨0, rfl, Nat.zero_le _, hide (Keep.refl _), hide (fun j hj => by omega)⟩
  case round =>
    obtain ⟨k, rfl, hk, KW, HF⟩ := hrel
    by_cases hlt : k < m
    · have li : (k : Int) < (m : Int) := by omega
      obtain ⟨ad, rfl, h0⟩ := (unhide HC) k hlt
      obtain ⟨x0, x1⟩ := h0.keep ((unhide K0).trans (unhide KW))
      obtain ⟨b0, b1⟩ := (unhide X0).keep (unhide KW)
      obtain ⟨y, HY⟩ : ∃ y, Hid (R.getD k z2 = y) := ⟨_, hide rfl⟩
      rw [unhide HY] at x0 x1
      obtain ⟨s, t⟩ := y
      simp only at x0 x1 b0 b1
      clear h0
      have CK := hide (fun (w' : World) (hk : Keep wr w') => (⟨kc hk x0, kc hk x1, kc hk b0, kc hk b1⟩ : w'.cell? (ad.add (k * 2)) = some (.int .i64 s) ∧ w'.cell? ⟨(ad.add (k * 2)).block, (ad.add (k * 2)).off + 1, none⟩ = some (.int .i64 t) ∧ w'.cell? ⟨c, 0, none⟩ = some (.int .i64 p) ∧ w'.cell? ⟨c, 1, none⟩ = some (.int .i64 q)))
      clear x0 x1 b0 b1
      have h3 : (p = s ∧ q = t) ∨ (p = s ∧ ¬ q = t) ∨ ¬ p = s := by omega
      rcases h3 with ⟨e1, e2⟩ | h3
      · have hr : Hid (decide ((p, q) ∈ R) = true) := hide (decide_eq_true (mem_at (z := z2) (by rw [unhide HM]; exact hlt) (by rw [unhide HY, e1, e2])))
        go_upto_region 4 with fail
        refine wp_region_held_drew (S := (fun w' => w'.cell? (ad.add (k * 2)) = some (.int .i64 s) ∧ w'.cell? ⟨(ad.add (k * 2)).block, (ad.add (k * 2)).off + 1, none⟩ = some (.int .i64 t) ∧ w'.cell? ⟨c, 0, none⟩ = some (.int .i64 p) ∧ w'.cell? ⟨c, 1, none⟩ = some (.int .i64 q))) (by kernel_rfl) (by exact unhide CK _ (by repeat (first | apply Keep.drew | exact Keep.refl _))) (fun hHeld => ?_)
        refine wpAnyH_take (i := 0) (v := ?_) rfl (by kernel_rfl) (by kernel_rfl) (by kernel_rfl) (fun _ _ _ h => h) (Or.inl ⟨by rfl, ?_⟩) hHeld ?_
        rotate_left
        · intro w hSw
          try dsimp only at hSw
          go_simp
          try with_reducible rfl
        show wpAnyH _ _ _ _ _ _ _ (Act.put _ (some 11) _) _
        try simp only [Act.put, List.setIfInBounds_toArray, List.set_cons_zero, List.set_cons_succ]
        refine wpAnyH_take (i := 1) (v := ?_) rfl (by kernel_rfl) (by kernel_rfl) (by kernel_rfl) (fun _ _ _ h => h) (Or.inl ⟨by rfl, ?_⟩) hHeld ?_
        rotate_left
        · intro w hSw
          try dsimp only at hSw
          go_simp
          try with_reducible rfl
        show wpAnyH _ _ _ _ _ _ _ (Act.put _ (some 12) _) _
        try simp only [Act.put, List.setIfInBounds_toArray, List.set_cons_zero, List.set_cons_succ]
        refine wpAnyH_take (i := 2) (v := ?_) rfl (by kernel_rfl) (by kernel_rfl) (by kernel_rfl) (fun _ _ _ h => h) (Or.inl ⟨by rfl, ?_⟩) hHeld ?_
        rotate_left
        · intro w hSw
          try dsimp only at hSw
          go_simp
          try with_reducible rfl
        show wpAnyH _ _ _ _ _ _ _ (Act.put _ (some 13) _) _
        try simp only [Act.put, List.setIfInBounds_toArray, List.set_cons_zero, List.set_cons_succ]
        refine wpAnyH_take (i := 3) (v := ?_) rfl (by kernel_rfl) (by kernel_rfl) (by kernel_rfl) (fun _ _ _ h => h) (Or.inl ⟨by rfl, ?_⟩) hHeld ?_
        rotate_left
        · intro w hSw
          try dsimp only at hSw
          go_simp
          try with_reducible rfl
        show wpAnyH _ _ _ _ _ _ _ (Act.put _ (some 14) _) _
        try simp only [Act.put, List.setIfInBounds_toArray, List.set_cons_zero, List.set_cons_succ]
        refine wpAnyH_take (i := 4) (v := ?_) rfl (by kernel_rfl) (by kernel_rfl) (by kernel_rfl) (fun _ _ _ h => h) (Or.inl ⟨by rfl, ?_⟩) hHeld ?_
        rotate_left
        · intro w hSw
          try dsimp only at hSw
          go_simp
          try with_reducible rfl
        show wpAnyH _ _ _ _ _ _ _ (Act.put _ (some 15) _) _
        try simp only [Act.put, List.setIfInBounds_toArray, List.set_cons_zero, List.set_cons_succ]
        refine wpAnyH_take (i := 5) (v := ?_) rfl (by kernel_rfl) (by kernel_rfl) (by kernel_rfl) (fun _ _ _ h => h) (Or.inl ⟨by rfl, ?_⟩) hHeld ?_
        rotate_left
        · intro w hSw
          try dsimp only at hSw
          go_simp
          try with_reducible rfl
        show wpAnyH _ _ _ _ _ _ _ (Act.put _ (some 16) _) _
        try simp only [Act.put, List.setIfInBounds_toArray, List.set_cons_zero, List.set_cons_succ]
        refine wpAnyH_done (by kernel_rfl) ?_ _
        clear hHeld
        go_wp2_with fail
        go_ret
        exact ⟨_, rfl, by rw [unhide hr]; simp [Fd], (unhide K0).trans ((unhide KW).trans (by repeat (first | apply Keep.drew | exact Keep.refl _)))⟩
      · have HF2 : Hid (∀ j, j < k + 1 → R.getD j z2 ≠ (p, q)) := hide (fun j hj => by
          rcases Nat.lt_or_eq_of_le (Nat.le_of_lt_succ hj) with h | h
          · exact unhide HF j h
          · rw [h, unhide HY]; intro e; injection e with e1 e2; omega)
        have K2 := KW
        rcases h3 with ⟨e1, e2⟩ | e1
        · go_upto_region 4 with fail
          refine wp_region_held_drew (S := (fun w' => w'.cell? (ad.add (k * 2)) = some (.int .i64 s) ∧ w'.cell? ⟨(ad.add (k * 2)).block, (ad.add (k * 2)).off + 1, none⟩ = some (.int .i64 t) ∧ w'.cell? ⟨c, 0, none⟩ = some (.int .i64 p) ∧ w'.cell? ⟨c, 1, none⟩ = some (.int .i64 q))) (by kernel_rfl) (by exact unhide CK _ (by repeat (first | apply Keep.drew | exact Keep.refl _))) (fun hHeld => ?_)
          refine wpAnyH_take (i := 0) (v := ?_) rfl (by kernel_rfl) (by kernel_rfl) (by kernel_rfl) (fun _ _ _ h => h) (Or.inl ⟨by rfl, ?_⟩) hHeld ?_
          rotate_left
          · intro w hSw
            try dsimp only at hSw
            go_simp
            try with_reducible rfl
          show wpAnyH _ _ _ _ _ _ _ (Act.put _ (some 11) _) _
          try simp only [Act.put, List.setIfInBounds_toArray, List.set_cons_zero, List.set_cons_succ]
          refine wpAnyH_take (i := 1) (v := ?_) rfl (by kernel_rfl) (by kernel_rfl) (by kernel_rfl) (fun _ _ _ h => h) (Or.inl ⟨by rfl, ?_⟩) hHeld ?_
          rotate_left
          · intro w hSw
            try dsimp only at hSw
            go_simp
            try with_reducible rfl
          show wpAnyH _ _ _ _ _ _ _ (Act.put _ (some 12) _) _
          try simp only [Act.put, List.setIfInBounds_toArray, List.set_cons_zero, List.set_cons_succ]
          refine wpAnyH_take (i := 2) (v := ?_) rfl (by kernel_rfl) (by kernel_rfl) (by kernel_rfl) (fun _ _ _ h => h) (Or.inl ⟨by rfl, ?_⟩) hHeld ?_
          rotate_left
          · intro w hSw
            try dsimp only at hSw
            go_simp
            try with_reducible rfl
          show wpAnyH _ _ _ _ _ _ _ (Act.put _ (some 13) _) _
          try simp only [Act.put, List.setIfInBounds_toArray, List.set_cons_zero, List.set_cons_succ]
          refine wpAnyH_take (i := 3) (v := ?_) rfl (by kernel_rfl) (by kernel_rfl) (by kernel_rfl) (fun _ _ _ h => h) (Or.inl ⟨by rfl, ?_⟩) hHeld ?_
          rotate_left
          · intro w hSw
            try dsimp only at hSw
            go_simp
            try with_reducible rfl
          show wpAnyH _ _ _ _ _ _ _ (Act.put _ (some 14) _) _
          try simp only [Act.put, List.setIfInBounds_toArray, List.set_cons_zero, List.set_cons_succ]
          refine wpAnyH_take (i := 4) (v := ?_) rfl (by kernel_rfl) (by kernel_rfl) (by kernel_rfl) (fun _ _ _ h => h) (Or.inl ⟨by rfl, ?_⟩) hHeld ?_
          rotate_left
          · intro w hSw
            try dsimp only at hSw
            go_simp
            try with_reducible rfl
          show wpAnyH _ _ _ _ _ _ _ (Act.put _ (some 15) _) _
          try simp only [Act.put, List.setIfInBounds_toArray, List.set_cons_zero, List.set_cons_succ]
          refine wpAnyH_take (i := 5) (v := ?_) rfl (by kernel_rfl) (by kernel_rfl) (by kernel_rfl) (fun _ _ _ h => h) (Or.inl ⟨by rfl, ?_⟩) hHeld ?_
          rotate_left
          · intro w hSw
            try dsimp only at hSw
            go_simp
            try with_reducible rfl
          show wpAnyH _ _ _ _ _ _ _ (Act.put _ (some 16) _) _
          try simp only [Act.put, List.setIfInBounds_toArray, List.set_cons_zero, List.set_cons_succ]
          refine wpAnyH_done (by kernel_rfl) ?_ _
          clear hHeld
          go_wp2_with fail
          go_roundw
          case rel => exact ⟨k + 1, by go_num, by omega, hide ((unhide KW).trans (by repeat (first | apply Keep.drew | exact Keep.refl _))), HF2⟩
          case measure => simp [intOf]; omega
        · go_upto_region 4 with fail
          refine wp_region_held_drew (S := (fun w' => w'.cell? (ad.add (k * 2)) = some (.int .i64 s) ∧ w'.cell? ⟨(ad.add (k * 2)).block, (ad.add (k * 2)).off + 1, none⟩ = some (.int .i64 t) ∧ w'.cell? ⟨c, 0, none⟩ = some (.int .i64 p) ∧ w'.cell? ⟨c, 1, none⟩ = some (.int .i64 q))) (by kernel_rfl) (by exact unhide CK _ (by repeat (first | apply Keep.drew | exact Keep.refl _))) (fun hHeld => ?_)
          refine wpAnyH_take (i := 0) (v := ?_) rfl (by kernel_rfl) (by kernel_rfl) (by kernel_rfl) (fun _ _ _ h => h) (Or.inl ⟨by rfl, ?_⟩) hHeld ?_
          rotate_left
          · intro w hSw
            try dsimp only at hSw
            go_simp
            try with_reducible rfl
          show wpAnyH _ _ _ _ _ _ _ (Act.put _ (some 11) _) _
          try simp only [Act.put, List.setIfInBounds_toArray, List.set_cons_zero, List.set_cons_succ]
          refine wpAnyH_take (i := 1) (v := ?_) rfl (by kernel_rfl) (by kernel_rfl) (by kernel_rfl) (fun _ _ _ h => h) (Or.inl ⟨by rfl, ?_⟩) hHeld ?_
          rotate_left
          · intro w hSw
            try dsimp only at hSw
            go_simp
            try with_reducible rfl
          show wpAnyH _ _ _ _ _ _ _ (Act.put _ (some 12) _) _
          try simp only [Act.put, List.setIfInBounds_toArray, List.set_cons_zero, List.set_cons_succ]
          refine wpAnyH_take (i := 2) (v := ?_) rfl (by kernel_rfl) (by kernel_rfl) (by kernel_rfl) (fun _ _ _ h => h) (Or.inl ⟨by rfl, ?_⟩) hHeld ?_
          rotate_left
          · intro w hSw
            try dsimp only at hSw
            go_simp
            try with_reducible rfl
          show wpAnyH _ _ _ _ _ _ _ (Act.put _ (some 13) _) _
          try simp only [Act.put, List.setIfInBounds_toArray, List.set_cons_zero, List.set_cons_succ]
          refine wpAnyH_take (i := 3) (v := ?_) rfl (by kernel_rfl) (by kernel_rfl) (by kernel_rfl) (fun _ _ _ h => h) (Or.inl ⟨by rfl, ?_⟩) hHeld ?_
          rotate_left
          · intro w hSw
            try dsimp only at hSw
            go_simp
            try with_reducible rfl
          show wpAnyH _ _ _ _ _ _ _ (Act.put _ (some 14) _) _
          try simp only [Act.put, List.setIfInBounds_toArray, List.set_cons_zero, List.set_cons_succ]
          refine wpAnyH_take (i := 4) (v := ?_) rfl (by kernel_rfl) (by kernel_rfl) (by kernel_rfl) (fun _ _ _ h => h) (Or.inl ⟨by rfl, ?_⟩) hHeld ?_
          rotate_left
          · intro w hSw
            try dsimp only at hSw
            go_simp
            try with_reducible rfl
          show wpAnyH _ _ _ _ _ _ _ (Act.put _ (some 15) _) _
          try simp only [Act.put, List.setIfInBounds_toArray, List.set_cons_zero, List.set_cons_succ]
          refine wpAnyH_take (i := 5) (v := ?_) rfl (by kernel_rfl) (by kernel_rfl) (by kernel_rfl) (fun _ _ _ h => h) (Or.inl ⟨by rfl, ?_⟩) hHeld ?_
          rotate_left
          · intro w hSw
            try dsimp only at hSw
            go_simp
            try with_reducible rfl
          show wpAnyH _ _ _ _ _ _ _ (Act.put _ (some 16) _) _
          try simp only [Act.put, List.setIfInBounds_toArray, List.set_cons_zero, List.set_cons_succ]
          refine wpAnyH_done (by kernel_rfl) ?_ _
          clear hHeld
          go_wp2_with fail
          go_roundw
          case rel => exact ⟨k + 1, by go_num, by omega, hide ((unhide KW).trans (by repeat (first | apply Keep.drew | exact Keep.refl _))), HF2⟩
          case measure => simp [intOf]; omega
    · have li : ¬ (k : Int) < (m : Int) := by omega
      obtain rfl : k = m := by omega
      have hr : Hid (decide ((p, q) ∈ R) = false) := hide (decide_eq_false (not_mem (z := z2) (fun j hj => unhide HF j (by rw [unhide HM] at hj; exact hj))))
      go_wp2_with fail
      go_ret
      exact ⟨_, rfl, by rw [unhide hr]; simp [Fd], (unhide K0).trans (unhide KW)⟩
set_option maxHeartbeats 2000000 in
theorem pin_any (v : Value) (R : List P2) (p q : Int) (w : World) (hR : Ps w v R) (hl : R.length ≤ 1000) : Calls Try.prog 49 #[v, .agg #[.int .i64 p, .int .i64 q]] w fun e w' => e = .returned (.bool (decide ((p, q) ∈ R))) ∧ Keep w w' := by
  have X0 := c2_new w p q 55
  have K0 := hide ((Keep.refl w).alloc (.cells #[.int .i64 p, .int .i64 q] 55))
  have T := hide (pidx_any v R p q _ (hR.keep (unhide K0)) hl)
  obtain ⟨a, cap, rfl, -, -⟩ := hR
  generalize R.length = m at *
  generalize decide ((p, q) ∈ R) = B at T ⊢
  obtain ⟨b0, b1⟩ := X0
  go_enter Try.func49, Try.ntmps49
  go_wp2_with fail
  (refine (unhide T).mono ?_; rintro e w2 ⟨r, rfl, hr, hk9⟩; have K2 := hide hk9; clear hk9 T)
  cases B
  · have hr2 : r = -1 := by simpa [Fd] using hr
    subst hr2
    clear hr
    go_wp2_with fail
    go_ret
    exact ⟨rfl, (unhide K0).trans (unhide K2)⟩
  · have hr2 : 0 ≤ r := by simpa [Fd] using hr
    clear hr
    go_wp2_with fail
    go_ret
    exact ⟨by simp [hr2], (unhide K0).trans (unhide K2)⟩
/-- a row of pairs, as it is told -/
def pcs (R : List P2) : List Value := R.flatMap fun p => [.int .i64 p.1, .int .i64 p.2]
theorem pcs_app (R S : List P2) : pcs (R ++ S) = pcs R ++ pcs S := by simp [pcs]
theorem pcs_len (R : List P2) : (pcs R).length = R.length * 2 := by
  induction R with
  | nil => rfl
  | cons p R ih => simp [pcs] at ih ⊢; omega
theorem pcs_at : ∀ (R : List P2) (k : Nat), k < R.length → (pcs R)[k * 2]? = some (.int .i64 (R.getD k z2).1) ∧ (pcs R)[k * 2 + 1]? = some (.int .i64 (R.getD k z2).2)
  | [], k, h => by simp at h
  | p :: R, 0, h => by simp [pcs]
  | p :: R, k + 1, h => by
    have := pcs_at R k (by simpa using h)
    have e : pcs (p :: R) = .int .i64 p.1 :: .int .i64 p.2 :: pcs R := by simp [pcs]
    rw [e, show (k + 1) * 2 = k * 2 + 1 + 1 by omega, List.getElem?_cons_succ, List.getElem?_cons_succ, List.getElem?_cons_succ, List.getElem?_cons_succ, List.getD_cons_succ]
    exact this
theorem pcs_one (R : List P2) : ∀ u ∈ pcs R, u.oneCell' = true := by
  intro u hu
  simp only [pcs, List.mem_flatMap, List.mem_cons, List.not_mem_nil, or_false] at hu
  obtain ⟨p, _, rfl | rfl⟩ := hu <;> rfl
/-- an own row of pairs reads as such -/
theorem ps_own {w : World} {B : Nat} {v : Value} {R : List P2} {n : Nat} (h : w.ownsRow B 55 2 v n (pcs R)) (hn : n = R.length) : Ps w v R := by
  subst hn
  rcases h.2 with ⟨rfl, h0⟩ | ⟨g, cap, cur, rfl, hb, hg, hc, hm, hs, ht⟩
  · exact ⟨none, 0, by rw [h0], by omega, fun k hk => by omega⟩
  · refine ⟨_, cap, rfl, hc, fun k hk => ⟨_, rfl, ?_, ?_⟩⟩
    · rw [add_pl, Nat.zero_add]
      have h1 := (pcs_at R k hk).1
      rw [← ht, List.getElem?_take] at h1
      simp only [World.cell?, hg]
      split at h1
      · simpa using h1
      · cases h1
    · rw [add_pl, Nat.zero_add]
      have h1 := (pcs_at R k hk).2
      rw [← ht, List.getElem?_take] at h1
      simp only [World.cell?, hg]
      split at h1
      · simpa using h1
      · cases h1
theorem infoP : (Try.prog.info? 55).map (fun i => (i.zero, i.size, i.bytes)) = some (some (.agg #[.int .i64 0, .int .i64 0]), 2, 16) := by kernel_rfl
def dstep (l : List P2) (p : P2) : List P2 := if p ∈ l then l else l ++ [p]
theorem dn_fold : ∀ (P S : List P2), P.foldl dstep S = S ++ dn S P
  | [], S => by simp [dn]
  | p :: P, S => by
    rw [List.foldl_cons, dn, dstep]
    by_cases h : p ∈ S
    · rw [if_pos h, if_pos h, dn_fold P S]
    · rw [if_neg h, if_neg h, dn_fold P (S ++ [p])]; simp
/-- each once, in a row of the call's own -/
def Dq (R : List P2) (w : World) (e : Ending) (w' : World) : Prop := ∃ u, e = .returned u ∧ Keep w w' ∧ w'.ownsRow w.heap.size 55 2 u (dn [] R).length (pcs (dn [] R))
set_option maxHeartbeats 4000000 in
theorem distinct_any (v : Value) (R : List P2) (w : World) (hR : Ps w v R) (hl : R.length ≤ 1000) : Calls Try.prog 33 #[v] w (Dq R w) := by
  obtain ⟨i0, hi, hz0, hz1, hz2⟩ := info_f infoP
  have HQ : Hid (∀ e u w', e = .returned u → Keep w w' → w'.ownsRow w.heap.size 55 2 u ((R.take R.length).foldl dstep []).length (pcs ((R.take R.length).foldl dstep [])) → Dq R w e w') := hide (fun e u w' h1 h2 h3 => ⟨u, h1, h2, by rw [take_all, dn_fold, List.nil_append] at h3; exact h3⟩)
  obtain ⟨a, cap, rfl, -, hR⟩ := hR
  have HC := hide hR
  clear hR
  have HS : Hid (∀ k, k < R.length → (R.take (k + 1)).foldl dstep [] = dstep ((R.take k).foldl dstep []) (R.getD k z2)) := hide (fun k hk => fold_more _ _ z2 R k hk)
  have HL : Hid (∀ k, ((R.take k).foldl dstep []).length ≤ 1000) := hide (fun k => by
    rw [dn_fold, List.nil_append]
    exact Nat.le_trans (dn_len _ _) (by rw [List.length_take]; omega))
  have HZ : Hid ((R.take 0).foldl dstep [] = []) := hide rfl
  generalize Dq R w = QQ at HQ ⊢
  generalize hf : (fun k => (R.take k).foldl dstep []) = f
  have hf2 : ∀ k, (R.take k).foldl dstep [] = f k := fun k => by rw [← hf]
  simp only [hf2] at HS HL HQ HZ
  clear hf hf2
  generalize R.length = m at *
  have T := hide (fun u S p q w' h1 h2 => pin_any u S p q w' h1 h2)
  have KK := hide (Keep.refl w)
  go_enter Try.func33, Try.ntmps33
  go_wp2_with fail
  go_loopw [3, 8] (fun vl vi wr => ∃ k : Nat, k ≤ m ∧ vi = .int .i64 (k : Int) ∧ Hid (wr.ownsRow w.heap.size 55 2 vl (f k).length (pcs (f k))) ∧ Hid (Keep w wr)) (fun vl vi _ => m - (intOf vi).toNat)
  case atStart => exact ⟨0, Nat.zero_le _, rfl, hide (by rw [unhide HZ]; exact World.ownsRow_nil _ _ _ _), KK⟩
  case round =>
    obtain ⟨k, hk, rfl, OW, KW⟩ := hrel
    obtain ⟨ao, co, rfl⟩ := own_l (unhide OW)
    by_cases hlt : k < m
    · have li : (k : Int) < (m : Int) := by omega
      obtain ⟨ad, rfl, h0⟩ := (unhide HC) k hlt
      obtain ⟨x0, x1⟩ := h0.keep (unhide KW)
      have hs := unhide HS k hlt
      have hl1 := unhide HL k
      obtain ⟨y, HY⟩ : ∃ y, Hid (R.getD k z2 = y) := ⟨_, hide rfl⟩
      rw [unhide HY] at x0 x1 hs
      obtain ⟨p, q⟩ := y
      simp only at x0 x1
      clear h0
      have B0 := c2_new wr p q 55
      have K1 := hide ((unhide KW).alloc (.cells #[.int .i64 p, .int .i64 q] 55))
      have O1 := hide ((unhide OW).alloc (.cells #[.int .i64 p, .int .i64 q] 55))
      have Tk := hide ((unhide T) _ (f k) p q _ (ps_own (unhide O1) rfl) hl1)
      obtain ⟨S, hS⟩ : ∃ S, f k = S := ⟨_, rfl⟩
      rw [hS] at Tk O1 hs hl1 ⊢
      obtain ⟨S2, hS2⟩ : ∃ S, f (k + 1) = S := ⟨_, rfl⟩
      rw [hS2] at hs
      have HS2 := hide hS2
      clear hS hS2 OW
      obtain ⟨n, hn⟩ : ∃ n, S.length = n := ⟨_, rfl⟩
      have HN := hide hn
      rw [hn] at Tk O1 hl1 ⊢
      clear hn
      obtain ⟨b0, b1⟩ := B0
      simp only at b0 b1
      by_cases hin : (p, q) ∈ S
      · have hs2 : S2 = S := by rw [hs, dstep, if_pos hin]
        subst hs2
        rw [decide_eq_true hin] at Tk
        clear hs hin
        go_wp2_with fail
        (refine (unhide Tk).mono ?_; rintro e w2 ⟨rfl, hk9⟩; have K2 := hide ((unhide K1).trans hk9); have O2 := hide (own_k (unhide O1) hk9); clear hk9)
        go_wp2_with fail
        go_roundw
        case rel => exact ⟨k + 1, hlt, by go_num, hide (by rw [unhide HS2, unhide HN]; exact unhide O2), K2⟩
        case measure => simp [intOf]; omega
      · have hs2 : S2 = S ++ [(p, q)] := by rw [hs, dstep, if_neg hin]
        subst hs2
        rw [decide_eq_false hin] at Tk
        clear hs hin
        have C0 := hide b0
        have C1 := hide b1
        clear b0 b1
        go_wp2_with fail
        (refine (unhide Tk).mono ?_; rintro e w2 ⟨rfl, hk9⟩; have K2 := hide ((unhide K1).trans hk9); have O2 := hide (own_k (unhide O1) hk9); have b0 := kc hk9 (unhide C0); have b1 := kc hk9 (unhide C1); clear hk9)
        have t1 : (Value.agg #[.int .i64 0, .int .i64 0]).cells.size = 2 := rfl
        have t2 : n + 1 ≤ maxLen := by unfold maxLen; omega
        have t3 := new_v w2 [.int .i64 p, .int .i64 q] 55
        have t4 : ∀ u ∈ [Value.int .i64 p, Value.int .i64 q], u.oneCell' = true := by simp [Value.oneCell']
        have t5 : w.heap.size ≤ (w2.alloc (.cells #[.int .i64 p, .int .i64 q] 55)).heap.size := by have h1 := Below.size (unhide K2); simp; omega
        have t6 := (unhide O2).alloc (.cells #[.int .i64 p, .int .i64 q] 55)
        have t7 : (n + 1) * 16 ≤ 140737488355328 := by omega
        go_wp2_with (at_builtin; refine wpList_append_own _ rfl _ _ 24 rfl w.heap.size 55 i0 _ 2 16 Try.underlying24 hi hz0 hz1 hz2 rfl (by decide) _ _ _ rfl t6 ⟨w2.heap.size, 0, none⟩ 1 1 [.int .i64 p, .int .i64 q] rfl rfl t3 t4 t2 t7 t5 ?_; intro v7 w7 hown' hgrow hnil; have O7 := hide hown'; have K7 := hide (Below.grown ((unhide K2).alloc (.cells #[.int .i64 p, .int .i64 q] 55)) hgrow t5 (fun j ej => (World.ownsRow.lt t6 j ej).1)); clear hown' hgrow hnil)
        go_roundw
        case rel => exact ⟨k + 1, hlt, by go_num, hide (by rw [unhide HS2, pcs_app, List.length_append, unhide HN]; exact unhide O7), K7⟩
        case measure => simp [intOf]; omega
    · have li : ¬ (k : Int) < (m : Int) := by omega
      obtain rfl : k = m := by omega
      go_wp2_with fail
      try go_ret2
      exact (unhide HQ) _ _ _ rfl (unhide KW) (unhide OW)
end Gp
end Go.Proofs.Ytakandlehneciaa
