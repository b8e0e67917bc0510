/- Package paths: rows of numbers; slices.Repeat of a row of one. -/
import Derived.Test.YtakandlehneciaaPaT
namespace Go.Proofs.Ytakandlehneciaa
open Go.RowKit
attribute [local go_sem ↓] Go.wp_at_zero Go.wp_at_succ
set_option linter.unusedVariables false
set_option linter.unusedSimpArgs false
set_option maxRecDepth 10000
namespace Pa
/-- a slice that reads as numbers -/
def Is (w : World) (v : Value) (L : List Int) : Prop := ∃ a cap, v = .slice a L.length cap ∧ ∀ k, k < L.length → ∃ ad, a = some ad ∧ w.cell? (ad.add k) = some (.int .i64 (L.getD k 0))
theorem Is.keep {w w' : World} {v : Value} {L : List Int} (h : Is w v L) (hk : Keep w w') : Is w' v L := by
  obtain ⟨a, cap, rfl, h⟩ := h
  refine ⟨a, cap, rfl, fun k hlt => ?_⟩
  obtain ⟨ad, e, h2⟩ := h k hlt
  exact ⟨ad, e, kc hk h2⟩
theorem is_nil (w : World) : Is w (.slice none 0 0) [] := ⟨none, 0, rfl, fun k h => by simp at h⟩
/-- a block that holds these numbers, and nothing else -/
def Rw (e : TypeId) (w : World) (g : Nat) (M : List Int) : Prop := w.heap[g]? = some (.cells (M.map (Value.int .i64)).toArray e (0, 0))
variable {e : TypeId}
theorem Rw.lt {w : World} {g : Nat} {M : List Int} (h : Rw e w g M) : g < w.heap.size := (Array.getElem?_eq_some_iff.1 h).1
theorem Rw.low {w w' : World} {g B : Nat} {M : List Int} (h : Rw e w g M) (k : Below B w w') (hg : g < B) : Rw e w' g M := (k.block g hg).trans h
theorem Rw.keep {w w' : World} {g : Nat} {M : List Int} (h : Rw e w g M) (k : Keep w w') : Rw e w' g M := h.low k h.lt
theorem Rw.set {w : World} {g i : Nat} {M : List Int} (h : Rw e w g M) (x : Int) : Rw e (w.setCell ⟨g, i, none⟩ (.int .i64 x)) g (M.set i x) := by
  unfold Rw
  rw [heap_setCell_same w g i _ _ _ h, List.setIfInBounds_toArray, List.map_set]
theorem Rw.other {w : World} {g b i : Nat} {v : Value} {M : List Int} (h : Rw e w g M) (hb : g ≠ b) : Rw e (w.setCell ⟨b, i, none⟩ v) g M := by
  unfold Rw
  rw [heap_setCell_other w _ g v hb]
  exact h
theorem Rw.cell {w : World} {g i : Nat} {M : List Int} (h : Rw e w g M) (hi : i < M.length) : w.cell? ⟨g, i, none⟩ = some (.int .i64 (M.getD i 0)) := by
  unfold Rw at h
  simp [World.cell?, h, hi]
theorem Rw.fz {w : World} {g : Nat} {M : List Int} (h : Rw e w g M) (i : Nat) : w.frozen? ⟨g, i, none⟩ = false := by
  unfold Rw at h
  simp [World.frozen?, h]
theorem Rw.is {w : World} {g c : Nat} {M : List Int} (h : Rw e w g M) : Is w (.slice (some ⟨g, 0, none⟩) M.length c) M :=
  ⟨some ⟨g, 0, none⟩, c, rfl, fun k hk => ⟨_, rfl, by rw [add_pl, Nat.zero_add, h.cell hk]⟩⟩
theorem infoI : (Try.prog.info? 2).map (fun i => (i.zero, i.size, i.bytes)) = some (some (.int .i64 0), 1, 8) := by kernel_rfl
theorem info_f {t : TypeId} {z : Value} {a b : Nat} (h : (Try.prog.info? t).map (fun i => (i.zero, i.size, i.bytes)) = some (some z, a, b)) : ∃ i, Try.prog.info? t = some i ∧ i.zero = some z ∧ i.size = a ∧ i.bytes = b := by
  cases hi : Try.prog.info? t with
  | none => rw [hi] at h; cases h
  | some i => rw [hi] at h; simp at h; exact ⟨i, rfl, h.1, h.2.1, h.2.2⟩
theorem made_is (n : Nat) : madeCells (Value.int .i64 0).cells (n * 1) = ((List.replicate n (0 : Int)).map (Value.int .i64)).toArray := by
  unfold madeCells
  apply Array.ext
  · simp
  · intro i h1 h2
    simp [Value.cells, Nat.mod_one]
theorem make_any (n : Nat) (hn : n ≤ 1000) (w : World) : (Instr.makeSlice 39 (.int .i64 (n : Int)) (.int .i64 (n : Int))).run Try.prog w = .ok (.slice (some ⟨w.heap.size, 0, none⟩) n n) (w.alloc (.cells ((List.replicate n (0 : Int)).map (Value.int .i64)).toArray 2)) := by
  obtain ⟨i0, hi0, hz0, hz1, hz2⟩ := info_f infoI
  have h := run_make (P := Try.prog) w 39 2 i0 _ Try.underlying39 hi0 hz0 .i64 .i64 (n : Int) (n : Int) (by omega) (by omega) (by rw [hz2]; omega) (by omega)
  rw [hz1] at h
  simp only [Int.toNat_natCast] at h
  rw [h, made_is]
theorem made_rw (n : Nat) (w : World) : Rw 2 (w.alloc (.cells ((List.replicate n (0 : Int)).map (Value.int .i64)).toArray 2)) w.heap.size (List.replicate n 0) := heap_alloc_new w _
theorem sizeI : (Try.prog.info? 2).map (·.size) = some 1 := by kernel_rfl
set_option maxHeartbeats 2000000 in
theorem mul64_any (n : Nat) (hn : n ≤ 64) (w : World) : Calls Try.prog 75 #[.int .u64 1, .int .u64 (n : Int)] w fun e w' => e = .returned (.tuple #[.int .u64 0, .int .u64 (n : Int)]) ∧ w' = w := by
  have e1 : bits BinOp.and IntKind.u64 (n : Int) 4294967295 = (n : Int) := by
    have := bits_and_u64_nat n 4294967295 (by omega) (by decide)
    rw [show n &&& 4294967295 = n by rw [show (4294967295 : Nat) = 2 ^ 32 - 1 by decide, Nat.and_two_pow_sub_one_eq_mod]; omega] at this
    exact this
  have e2 : (n : Int) / 4294967296 = 0 := by omega
  have e3 : IntKind.u64.wrap (n : Int) = (n : Int) := by rw [wu]; omega
  have e0 : bits BinOp.and IntKind.u64 1 4294967295 = 1 := bits_and_u64_nat 1 4294967295 (by decide) (by decide)
  have e5 : bits BinOp.and IntKind.u64 0 4294967295 = 0 := bits_and_u64_nat 0 4294967295 (by decide) (by decide)
  have e6 : IntKind.u64.wrap 0 = 0 := rfl
  go_enter Try.func75, Try.ntmps75
  go_wp2_with (simp only [e0, e1, e2, e3, e5, e6, Int.one_mul, Int.zero_mul, Int.zero_add])
  go_ret2
  exact ⟨rfl, rfl⟩
set_option maxHeartbeats 2000000 in
theorem mul_any (n : Nat) (hn : n ≤ 64) (w : World) : Calls Try.prog 67 #[.int .u64 1, .int .u64 (n : Int)] w fun e w' => e = .returned (.tuple #[.int .u64 0, .int .u64 (n : Int)]) ∧ w' = w := by
  have T := hide (mul64_any n hn w)
  go_enter Try.func67, Try.ntmps67
  go_wp2_with fail
  (refine (unhide T).mono ?_; rintro e w2 ⟨rfl, rfl⟩)
  go_wp2_with fail
  go_ret2
  exact ⟨rfl, rfl⟩
/-- a row that is filled so far -/
def fl (k n : Nat) : List Int := List.replicate k (-1) ++ List.replicate (n - k) 0
theorem fl_len {k n : Nat} (h : k ≤ n) : (fl k n).length = n := by simp [fl]; omega
theorem fl_cp {k n m : Nat} (hk : k ≤ n) (hm : m ≤ n - k) : splice ((fl k n).map (Value.int .i64)) k ((List.replicate m (-1 : Int)).map (Value.int .i64)) = (fl (k + m) n).map (Value.int .i64) := by
  unfold splice fl
  rw [← List.map_take, ← List.map_drop, ← List.map_append, ← List.map_append, List.length_map, List.length_replicate]
  congr 1
  rw [List.take_left' (by simp), List.drop_append, List.drop_replicate, List.drop_replicate, List.length_replicate]
  rw [show k - (k + m) = 0 by omega, List.replicate_zero, List.nil_append, show n - k - (k + m - k) = n - (k + m) by omega, ← List.append_assoc, List.replicate_append_replicate]
set_option maxHeartbeats 2000000 in
theorem repeat_any (ax : Addr) (cx : Nat) (n : Nat) (h1 : 1 ≤ n) (hn : n ≤ 64) (w : World) (hx : w.cell? ax = some (.int .i64 (-1))) :
    Calls Try.prog 53 #[.slice (some ax) 1 cx, .int .i64 (n : Int)] w fun e w' => e = .returned (.slice (some ⟨w.heap.size, 0, none⟩) n n) ∧ Keep w w' ∧ Rw 2 w' w.heap.size (List.replicate n (-1)) := by
  have T := hide (fun w => mul_any n hn w)
  have hmk := make_any n (by omega)
  have R0 : Hid (Rw 2 (w.alloc (.cells ((List.replicate n (0 : Int)).map (Value.int .i64)).toArray 2)) w.heap.size (fl 0 n)) := hide (by
    have := made_rw n w
    unfold fl; simpa using this)
  have K0 := hide ((Keep.refl w).alloc (.cells ((List.replicate n (0 : Int)).map (Value.int .i64)).toArray 2))
  have X0 := hide (kc (unhide K0) hx)
  clear hx
  generalize ((List.replicate n (0 : Int)).map (Value.int .i64)).toArray = ZZ at hmk R0 K0 X0
  have e3 : IntKind.u64.wrap (n : Int) = (n : Int) := by rw [wu]; omega
  have e4 : IntKind.i64.wrap (n : Int) = (n : Int) := by rw [IntKind.wrap_i64]; omega
  have l1 : ¬ ((n : Int) < 0) := by omega
  have l2 : ¬ (9223372036854775807 < (n : Int)) := by omega
  obtain ⟨q, HQ⟩ : ∃ q, Hid (w.heap.size = q) := ⟨_, hide rfl⟩
  go_enter Try.func53, Try.ntmps53
  go_wp2_with fail
  (refine ((unhide T) _).mono ?_; rintro e w2 ⟨rfl, rfl⟩)
  clear T
  go_upto_region 7 with fail
  generalize w2.alloc (.cells ZZ 2) = w3 at R0 K0 X0 ⊢
  rw [unhide HQ] at R0 ⊢
  clear hmk
  have hp1 : ∀ j v, ((List.replicate 1 (-1 : Int)).map (Value.int .i64))[j]? = some v → w3.cell? (ax.add j) = some v := by
    intro j v h
    cases j with
    | zero => simp at h; subst h; simpa [Addr.add] using unhide X0
    | succ j => simp at h
  have hp2 : ((List.replicate 1 (-1 : Int)).map (Value.int .i64)).length = Nat.min 1 n := (Nat.min_eq_left h1).symm
  have hp3 : 0 + ((List.replicate 1 (-1 : Int)).map (Value.int .i64)).length ≤ ((fl 0 n).map (Value.int .i64)).length := by rw [List.length_map, List.length_map, fl_len (Nat.zero_le n)]; simpa using h1
  have hp4 : ∀ v ∈ (List.replicate 1 (-1 : Int)).map (Value.int .i64), v.oneCell' = true := by intro v hv; simp at hv; rw [hv]; rfl
  have hp5 : Below q w2 w3 := by have := unhide K0; unfold Keep at this; rw [unhide HQ] at this; exact this
  have hq1 := hide hp1
  have hq2 := hide hp2
  have hq3 := hide hp3
  have hq4 := hide hp4
  have hq5 := hide hp5
  clear hp1 hp2 hp3 hp4 hp5
  go_wp2_with (show wpList _ _ _ (Oper.mk (some 33) _ _ _ _ _ :: _) _ _; refine wpList_copy_splice rfl _ _ 39 39 rfl 2 Try.underlying39 sizeI (some ⟨q, 0, none⟩) (some ax) n n 1 cx rfl rfl q 0 ((fl 0 n).map (Value.int .i64)) 2 (unhide R0) ((List.replicate 1 (-1 : Int)).map (Value.int .i64)) (unhide hq2) (fun _ => ⟨rfl, ax, rfl, unhide hq1⟩) (unhide hq3) (unhide hq4) q w2 (unhide hq5) (Nat.le_refl _) ?_; intro w4 hg4 hb4)
  have R4 : Hid (Rw 2 w4 q (fl 1 n)) := hide (by have := unhide hg4; rw [fl_cp (Nat.zero_le n) (show 1 ≤ n - 0 by omega)] at this; exact this)
  have K4 : Hid (Below q w2 w4) := hide hb4
  clear hg4 hb4 hq1 hq2 hq3 hq4 hq5 R0 K0 X0
  have l3 : (decide (9223372036854775807 < (n : Int))) = false := by simp; omega
  simp only [l3]
  clear l3
  go_loopw [8] (fun vi wr => ∃ k : Nat, vi = .int .i64 (k : Int) ∧ 1 ≤ k ∧ k ≤ n ∧ Hid (Rw 2 wr q (fl k n)) ∧ Hid (Below q w2 wr)) (fun vi _ => n - (intOf vi).toNat)
  case atStart => exact ⟨1, rfl, Nat.le_refl _, h1, R4, K4⟩
  case round =>
    obtain ⟨k, rfl, hk1, hk, RW, KW⟩ := hrel
    clear R4 K4
    by_cases hlt : k < n
    · have li : (k : Int) < (n : Int) := by omega
      have li0 : (0 : Int) ≤ (k : Int) := by omega
      have li1 : (k : Int) ≤ (n : Int) := by omega
      have li2 : ¬ n = k := by omega
      have li3 : k ≤ n := by omega
      obtain ⟨m, hm⟩ : ∃ m, Nat.min k (n - k) = m := ⟨_, rfl⟩
      have hmk : m ≤ k := by rw [← hm]; exact Nat.min_le_left _ _
      have hmn : m ≤ n - k := by rw [← hm]; exact Nat.min_le_right _ _
      have hm1 : 1 ≤ m := by rw [← hm]; exact Nat.le_min.2 ⟨hk1, by omega⟩
      have hq1 : Hid (∀ j v, ((List.replicate m (-1 : Int)).map (Value.int .i64))[j]? = some v → wr.cell? ((⟨q, 0, none⟩ : Addr).add j) = some v) := hide (by
        intro j v h
        rw [List.getElem?_map, List.getElem?_replicate] at h
        split at h
        · rename_i hj
          rw [add_pl, Nat.zero_add, (unhide RW).cell (by rw [fl_len hk]; omega)]
          simp only [Option.map_some] at h
          rw [← h, fl, List.getD_eq_getElem?_getD, List.getElem?_append_left (by simp; omega), List.getElem?_replicate, if_pos (by omega)]
          rfl
        · cases h)
      have hq2 : Hid (((List.replicate m (-1 : Int)).map (Value.int .i64)).length = Nat.min k (n - k)) := hide (by rw [hm]; simp)
      have hq3 : Hid (k + ((List.replicate m (-1 : Int)).map (Value.int .i64)).length ≤ ((fl k n).map (Value.int .i64)).length) := hide (by rw [List.length_map, List.length_map, fl_len hk, List.length_replicate]; omega)
      have hq4 : Hid (∀ v ∈ (List.replicate m (-1 : Int)).map (Value.int .i64), v.oneCell' = true) := hide (by intro v hv; simp at hv; rw [hv.2]; rfl)
      have hw : IntKind.i64.wrap ((k : Int) + (m : Int)) = (k : Int) + (m : Int) := by rw [IntKind.wrap_i64]; omega
      go_upto_region 9 with fail
      refine wp_region_held_drew (S := (fun w' => True)) (by kernel_rfl) (by trivial) (fun hHeld => ?_)
      refine wpAnyH_take (i := 0) (v := ?_) rfl (by kernel_rfl) (by kernel_rfl) (by kernel_rfl) (fun _ _ _ h => h) (Or.inl ⟨by rfl, ?_⟩) hHeld ?_
      rotate_left
      · intro w hSw
        try dsimp only at hSw
        go_simp
        try with_reducible rfl
      show wpAnyH _ _ _ _ _ _ _ (Act.put _ (some 38) _) _
      try simp only [Act.put, List.setIfInBounds_toArray, List.set_cons_zero, List.set_cons_succ]
      refine wpAnyH_take (i := 1) (v := ?_) rfl (by kernel_rfl) (by kernel_rfl) (by kernel_rfl) (fun _ _ _ h => h) (Or.inl ⟨by rfl, ?_⟩) hHeld ?_
      rotate_left
      · intro w hSw
        try dsimp only at hSw
        go_simp
        try with_reducible rfl
      show wpAnyH _ _ _ _ _ _ _ (Act.put _ (some 39) _) _
      try simp only [Act.put, List.setIfInBounds_toArray, List.set_cons_zero, List.set_cons_succ]
      refine wpAnyH_take (i := 2) (v := ?_) rfl (by kernel_rfl) (by kernel_rfl) (by kernel_rfl) (fun _ _ _ h => h) (Or.inl ⟨by rfl, ?_⟩) hHeld ?_
      rotate_left
      · intro w hSw
        try dsimp only at hSw
        go_simp
        try with_reducible rfl
      show wpAnyH _ _ _ _ _ _ _ (Act.put _ (some 40) _) _
      try simp only [Act.put, List.setIfInBounds_toArray, List.set_cons_zero, List.set_cons_succ]
      refine wpAnyH_take (i := 3) (v := ?_) rfl (by kernel_rfl) (by kernel_rfl) (by kernel_rfl) (fun _ _ _ h => h) (Or.inl ⟨by rfl, ?_⟩) hHeld ?_
      rotate_left
      · intro w hSw
        try dsimp only at hSw
        go_simp
        try with_reducible rfl
      show wpAnyH _ _ _ _ _ _ _ (Act.put _ (some 41) _) _
      try simp only [Act.put, List.setIfInBounds_toArray, List.set_cons_zero, List.set_cons_succ]
      refine wpAnyH_take (i := 4) (v := ?_) rfl (by kernel_rfl) (by kernel_rfl) (by kernel_rfl) (fun _ _ _ h => h) (Or.inl ⟨by rfl, ?_⟩) hHeld ?_
      rotate_left
      · intro w hSw
        try dsimp only at hSw
        go_simp
        try with_reducible rfl
      show wpAnyH _ _ _ _ _ _ _ (Act.put _ (some 42) _) _
      try simp only [Act.put, List.setIfInBounds_toArray, List.set_cons_zero, List.set_cons_succ]
      refine wpAnyH_take (i := 5) (v := ?_) rfl (by kernel_rfl) (by kernel_rfl) (by kernel_rfl) (fun _ _ _ h => h) (Or.inl ⟨by rfl, ?_⟩) hHeld ?_
      rotate_left
      · intro w hSw
        try dsimp only at hSw
        go_simp
        try with_reducible rfl
      show wpAnyH _ _ _ _ _ _ _ (Act.put _ (some 43) _) _
      try simp only [Act.put, List.setIfInBounds_toArray, List.set_cons_zero, List.set_cons_succ]
      refine wpAnyH_take (i := 6) (v := ?_) rfl (by kernel_rfl) (by kernel_rfl) (by kernel_rfl) (fun _ _ _ h => h) (Or.inl ⟨by rfl, ?_⟩) hHeld ?_
      rotate_left
      · intro w hSw
        try dsimp only at hSw
        go_simp
        try with_reducible rfl
      show wpAnyH _ _ _ _ _ _ _ (Act.put _ (some 44) _) _
      try simp only [Act.put, List.setIfInBounds_toArray, List.set_cons_zero, List.set_cons_succ]
      refine wpAnyH_ready (rs := [7]) (by kernel_rfl) (by simp) ?_
      refine AllReadyH.cons rfl (fun K hK => ?_) AllReadyH.nil
      clear hHeld
      refine step_copy_splice (w := wr.drew) rfl (.tmp 41) (.tmp 44) 39 39 rfl 2 Try.underlying39 sizeI (some ⟨q, k, none⟩) (some ⟨q, 0, none⟩) (n - k) (n - k) k n rfl rfl q k ((fl k n).map (Value.int .i64)) 2 (unhide RW) ((List.replicate m (-1 : Int)).map (Value.int .i64)) (unhide hq2) (fun _ => ⟨rfl, _, rfl, unhide hq1⟩) (unhide hq3) (unhide hq4) q w2 (Below.drew (unhide KW)) (Nat.le_refl _) ?_
      intro w5 hg5 hb5
      have R5 : Hid (Rw 2 w5 q (fl (k + m) n)) := hide (by have := unhide hg5; rw [fl_cp hk hmn] at this; exact this)
      have K5 := hide hb5
      clear hg5 hb5 hq1 hq2 hq3 hq4
      refine hK.out _ _ trivial (fun hHeld => ?_)
      clear hK K
      show wpAnyH _ _ _ _ _ _ _ (Act.put _ (some 45) _) _
      simp only [Act.put, List.setIfInBounds_toArray, List.set_cons_zero, List.set_cons_succ, List.length_map, List.length_replicate, goInt]
      refine wpAnyH_take (i := 8) (v := ?_) rfl (by kernel_rfl) (by kernel_rfl) (by kernel_rfl) (fun _ _ _ h => h) (Or.inl ⟨by rfl, ?_⟩) hHeld ?_
      rotate_left
      · intro w hSw
        try dsimp only at hSw
        go_simp
        try with_reducible rfl
      show wpAnyH _ _ _ _ _ _ _ (Act.put _ (some 46) _) _
      try simp only [Act.put, List.setIfInBounds_toArray, List.set_cons_zero, List.set_cons_succ]
      refine wpAnyH_take (i := 9) (v := ?_) rfl (by kernel_rfl) (by kernel_rfl) (by kernel_rfl) (fun _ _ _ h => h) (Or.inl ⟨by rfl, ?_⟩) hHeld ?_
      rotate_left
      · intro w hSw
        try dsimp only at hSw
        go_simp
        try with_reducible rfl
      show wpAnyH _ _ _ _ _ _ _ (Act.put _ (some 8) _) _
      try simp only [Act.put, List.setIfInBounds_toArray, List.set_cons_zero, List.set_cons_succ]
      refine wpAnyH_done (by kernel_rfl) ?_ _
      clear hHeld
      go_wp2_with fail
      go_roundw
      case rel =>
        exact ⟨k + m, by go_num, by omega, by omega, R5, K5⟩
      case measure => simp [intOf]; omega
    · have li : ¬ (k : Int) < (n : Int) := by omega
      obtain rfl : k = n := by omega
      go_wp2_with fail
      go_ret
      refine ⟨by rw [unhide HQ]; rfl, by unfold Keep; rw [unhide HQ]; exact unhide KW, ?_⟩
      have := unhide RW
      unfold fl at this
      rw [Nat.sub_self, List.replicate_zero, List.append_nil] at this
      rw [unhide HQ]
      exact this
end Pa
end Go.Proofs.Ytakandlehneciaa
