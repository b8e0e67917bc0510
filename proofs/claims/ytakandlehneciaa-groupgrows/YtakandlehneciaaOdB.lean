/- Package order: rising, take: rows that the program itself has made. -/
import Derived.Test.YtakandlehneciaaOdA
import Derived.Laws.CopyOwn
namespace Go.Proofs.Ytakandlehneciaa
open Go.RowKit
attribute [local go_sem ↓] Go.wp_at_zero Go.wp_at_succ
set_option linter.unusedVariables false
set_option linter.unusedSimpArgs false
set_option maxRecDepth 10000
namespace Od
/-- a block that holds these numbers, and nothing else -/
def Rw (w : World) (g : Nat) (M : List Int) : Prop := w.heap[g]? = some (.cells (M.map (Value.int .i64)).toArray 3 (0, 0))
theorem Rw.lt {w : World} {g : Nat} {M : List Int} (h : Rw w g M) : g < w.heap.size := (Array.getElem?_eq_some_iff.1 h).1
theorem Rw.low {w w' : World} {g B : Nat} {M : List Int} (h : Rw w g M) (k : Below B w w') (hg : g < B) : Rw w' g M := (k.block g hg).trans h
theorem Rw.keep {w w' : World} {g : Nat} {M : List Int} (h : Rw w g M) (k : Keep w w') : Rw w' g M := h.low k h.lt
theorem Rw.set {w : World} {g i : Nat} {M : List Int} (h : Rw w g M) (x : Int) : Rw (w.setCell ⟨g, i, none⟩ (.int .i64 x)) g (M.set i x) := by
  unfold Rw
  rw [heap_setCell_same w g i _ _ _ h, List.setIfInBounds_toArray, List.map_set]
theorem Rw.other {w : World} {g b i : Nat} {v : Value} {M : List Int} (h : Rw w g M) (hb : g ≠ b) : Rw (w.setCell ⟨b, i, none⟩ v) g M := by
  unfold Rw
  rw [heap_setCell_other w _ g v hb]
  exact h
theorem Rw.cell {w : World} {g i : Nat} {M : List Int} (h : Rw w g M) (hi : i < M.length) : w.cell? ⟨g, i, none⟩ = some (.int .i64 (M.getD i 0)) := by
  unfold Rw at h
  simp [World.cell?, h, hi]
theorem Rw.fz {w : World} {g : Nat} {M : List Int} (h : Rw w g M) (i : Nat) : w.frozen? ⟨g, i, none⟩ = false := by
  unfold Rw at h
  simp [World.frozen?, h]
theorem Rw.is {w : World} {g n c : Nat} {M : List Int} (h : Rw w g M) (hn : n ≤ M.length) : Is w (.slice (some ⟨g, 0, none⟩) n c) (M.take n) := by
  refine ⟨some ⟨g, 0, none⟩, c, by rw [List.length_take, Nat.min_eq_left hn], fun k hk => ⟨_, rfl, ?_⟩⟩
  rw [List.length_take, Nat.min_eq_left hn] at hk
  rw [add_pl, Nat.zero_add, h.cell (by omega)]
  rw [List.getD_eq_getElem?_getD, List.getD_eq_getElem?_getD, List.getElem?_take, if_pos hk]
theorem infoI : (Try.prog.info? 3).map (fun i => (i.zero, i.size, i.bytes)) = some (some (.int .i64 0), 1, 8) := by kernel_rfl
theorem infoR : (Try.prog.info? 49).map (fun i => (i.zero, i.size, i.bytes)) = some (some (.slice none 0 0), 1, 24) := by kernel_rfl
theorem info_f {t : TypeId} {z : Value} {a b : Nat} (h : (Try.prog.info? t).map (fun i => (i.zero, i.size, i.bytes)) = some (some z, a, b)) : ∃ i, Try.prog.info? t = some i ∧ i.zero = some z ∧ i.size = a ∧ i.bytes = b := by
  cases hi : Try.prog.info? t with
  | none => rw [hi] at h; cases h
  | some i => rw [hi] at h; simp at h; exact ⟨i, rfl, h.1, h.2.1, h.2.2⟩
theorem made_is (n : Nat) : madeCells (Value.int .i64 0).cells (n * 1) = ((List.replicate n (0 : Int)).map (Value.int .i64)).toArray := by
  unfold madeCells
  apply Array.ext
  · simp
  · intro i h1 h2
    simp [Value.cells, Nat.mod_one]
theorem make_any (n : Nat) (hn : n ≤ 1000) (w : World) : (Instr.makeSlice 49 (.int .i64 (n : Int)) (.int .i64 (n : Int))).run Try.prog w = .ok (.slice (some ⟨w.heap.size, 0, none⟩) n n) (w.alloc (.cells ((List.replicate n (0 : Int)).map (Value.int .i64)).toArray 3)) := by
  obtain ⟨i0, hi0, hz0, hz1, hz2⟩ := info_f infoI
  have h := run_make (P := Try.prog) w 49 3 i0 _ Try.underlying49 hi0 hz0 .i64 .i64 (n : Int) (n : Int) (by omega) (by omega) (by rw [hz2]; omega) (by omega)
  rw [hz1] at h
  simp only [Int.toNat_natCast] at h
  rw [h, made_is]
theorem zset {D : List Int} {k n : Nat} (hD : D.length = k) (hk : k < n) (x : Int) : (D ++ List.replicate (n - k) 0).set k x = (D ++ [x]) ++ List.replicate (n - (k + 1)) 0 := by
  rw [show n - k = (n - (k + 1)) + 1 by omega, List.replicate_succ, List.set_append_right _ _ (by omega)]
  simp [hD]
theorem rg_more (k : Nat) : rg (k + 1) = rg k ++ [(k : Int)] := by simp [rg, List.range_succ]
set_option maxHeartbeats 2000000 in
theorem rising_any (n : Nat) (hn : n ≤ 8) (w : World) : Calls Try.prog 70 #[.int .i64 (n : Int)] w fun e w' => e = .returned (.slice (some ⟨w.heap.size, 0, none⟩) n n) ∧ Keep w w' ∧ Rw w' w.heap.size (rg n) := by
  have hmk := make_any n (by omega)
  have R0 : Hid (Rw (w.alloc (.cells ((List.replicate n (0 : Int)).map (Value.int .i64)).toArray 3)) w.heap.size (rg 0 ++ List.replicate (n - 0) 0)) := hide (by
    have := heap_alloc_new w (.cells ((List.replicate n (0 : Int)).map (Value.int .i64)).toArray 3)
    simpa [Rw, rg] using this)
  have K0 := hide ((Keep.refl w).alloc (.cells ((List.replicate n (0 : Int)).map (Value.int .i64)).toArray 3))
  generalize ((List.replicate n (0 : Int)).map (Value.int .i64)).toArray = ZZ at hmk R0 K0
  go_enter Try.func70, Try.ntmps70
  go_wp2_with fail
  generalize w.alloc (.cells ZZ 3) = w0 at R0 K0 ⊢
  obtain ⟨q, HQ⟩ : ∃ q, Hid (w.heap.size = q) := ⟨_, hide rfl⟩
  rw [unhide HQ] at R0 ⊢
  clear hmk
  go_loopw [8] (fun vi wr => ∃ k : Nat, k ≤ n ∧ vi = .int .i64 (k : Int) ∧ Hid (Rw wr q (rg k ++ List.replicate (n - k) 0)) ∧ Hid (Keep w wr)) (fun vi _ => n - (intOf vi).toNat)
  case atStart => exact ⟨0, Nat.zero_le _, rfl, R0, K0⟩
  case round =>
    obtain ⟨k, hk, rfl, RW, KW⟩ := hrel
    by_cases hlt : k < n
    · have li : (k : Int) < (n : Int) := by omega
      have hu := (unhide RW).cell (i := k) (by simp [rg_len]; omega)
      have hf := (unhide RW).fz k
      have R2 : Hid (Rw (wr.setCell ⟨q, k, none⟩ (.int .i64 (k : Int))) q (rg (k + 1) ++ List.replicate (n - (k + 1)) 0)) := hide (by
        rw [rg_more, ← zset (rg_len k) hlt]
        exact (unhide RW).set _)
      have K2 : Hid (Keep w (wr.setCell ⟨q, k, none⟩ (.int .i64 (k : Int)))) := hide (Below.setCell (unhide KW) (by rw [unhide HQ]; exact Nat.le_refl _) _)
      go_wp2_with fail
      go_roundw
      case rel => exact ⟨k + 1, hlt, by go_num, R2, K2⟩
      case measure => simp [intOf]; omega
    · have li : ¬ (k : Int) < (n : Int) := by omega
      obtain rfl : k = n := by omega
      go_wp2_with fail
      go_ret
      refine ⟨by rw [unhide HQ]; rfl, unhide KW, ?_⟩
      have := unhide RW
      rw [Nat.sub_self, List.replicate_zero, List.append_nil] at this
      rw [unhide HQ]
      exact this
theorem take_is {M : List Int} {m i : Nat} (hm : m ≤ M.length) (hi : i < m) : (splice (M.map (Value.int .i64)) i (((M.take m).drop (i + 1)).map (Value.int .i64))) = (M.take i ++ ((M.take m).drop (i + 1) ++ M.drop (m - 1))).map (Value.int .i64) := by
  unfold splice
  rw [List.map_append, List.map_append, ← List.map_take, ← List.map_drop, List.length_map, List.length_drop, List.length_take, Nat.min_eq_left hm, show i + (m - (i + 1)) = m - 1 by omega]
theorem take_er {M : List Int} {m i : Nat} (hm : m ≤ M.length) (hi : i < m) : (M.take i ++ ((M.take m).drop (i + 1) ++ M.drop (m - 1))).take (m - 1) = (M.take m).eraseIdx i := by
  rw [List.eraseIdx_eq_take_drop_succ, List.take_take, Nat.min_eq_left (by omega), ← List.append_assoc, List.take_append_of_le_length (by simp; omega)]
  exact List.take_of_length_le (by simp; omega)
theorem take_ln {M : List Int} {m i : Nat} (hm : m ≤ M.length) (hi : i < m) : (M.take i ++ ((M.take m).drop (i + 1) ++ M.drop (m - 1))).length = M.length := by
  simp; omega
theorem wp_copy9 {w : World} {o : Oper} {a : Act} {K : Act → World → Prop} {Q : Exit → Act → World → Prop} (hgd : o.guard = none) (d s : Operand) (dT sT : TypeId)
    (ho : o.op = .call { callee := .builtin .copy, args := #[d, s], argTypes := #[dT, sT] }) (elem : TypeId) (hu : Try.prog.underlying dT = some (.slice elem)) (hsz : (Try.prog.info? elem).map (·.size) = some 1)
    (dp sp : Option Addr) (dLen dCap sLen sCap : Nat) (hd : a.eval d = .slice dp dLen dCap) (hs : a.eval s = .slice sp sLen sCap)
    (g off : Nat) (cur : List Value) (t : TypeId) (hg : w.heap[g]? = some (.cells cur.toArray t (0, 0))) (cs : List Value) (hn : cs.length = Nat.min sLen dLen)
    (hpos : 0 < cs.length → dp = some ⟨g, off, none⟩ ∧ ∃ ad, sp = some ad ∧ ∀ j v, cs[j]? = some v → w.cell? (ad.add j) = some v)
    (hfit : off + cs.length ≤ cur.length) (h1 : ∀ v ∈ cs, v.oneCell' = true) (B : Nat) (w0 : World) (hb : Below B w0 w) (hBg : B ≤ g)
    (h : ∀ w', Hid (w'.heap[g]? = some (.cells (splice cur off cs).toArray t (0, 0))) → Below B w0 w' → K (a.put o.dst (goInt cs.length)) w') : o.wp Try.prog a w K Q := by
  have := step_copy_splice (P := Try.prog) (ops := #[]) (E := True) (Q := Q) hgd d s dT sT ho elem hu hsz dp sp dLen dCap sLen sCap hd hs g off cur t hg cs hn hpos hfit h1 B w0 hb hBg h
  rw [if_pos (by simp [Region.wanted, hgd])] at this
  exact this
theorem sizeI : (Try.prog.info? 3).map (·.size) = some 1 := by kernel_rfl
theorem below_copy {g : Nat} {w' : World} {M : List Int} {m i : Nat} (hm : m ≤ M.length) (hi : i < m) (h : Hid (w'.heap[g]? = some (.cells (splice (M.map (Value.int .i64)) i (((M.take m).drop (i + 1)).map (Value.int .i64))).toArray 3 (0, 0)))) : Rw w' g (M.take i ++ ((M.take m).drop (i + 1) ++ M.drop (m - 1))) := by
  have := unhide h
  rw [take_is hm hi] at this
  exact this
theorem drop_cells {M : List Int} {m i g : Nat} {w : World} (hR : Rw w g M) (hm : m ≤ M.length) : ∀ j v, (((M.take m).drop (i + 1)).map (Value.int .i64))[j]? = some v → w.cell? ((⟨g, i + 1, none⟩ : Addr).add j) = some v := by
  intro j v h
  rw [add_pl]
  rw [List.getElem?_map, List.getElem?_drop, List.getElem?_take] at h
  split at h
  · rename_i hlt
    rw [List.getElem?_eq_getElem (by omega)] at h
    simp only [Option.map_some, Option.some.injEq] at h
    rw [hR.cell (by omega), ← h]
    simp [List.getD_eq_getElem?_getD, List.getElem?_eq_getElem (show i + 1 + j < M.length by omega)]
  · cases h
set_option maxHeartbeats 2000000 in
theorem take_any (g m c i : Nat) (M : List Int) (w : World) (hc : c ≤ 1000) (hm : m ≤ c) (hM : M.length = c) (hi : i < m) (HR : Hid (Rw w g M)) : Calls Try.prog 71 #[.slice (some ⟨g, 0, none⟩) m c, .int .i64 (i : Int)] w fun e w' => ∃ M', e = .returned (.slice (some ⟨g, 0, none⟩) (m - 1) c) ∧ Below g w w' ∧ Rw w' g M' ∧ M'.length = c ∧ M'.take (m - 1) = (M.take m).eraseIdx i := by
  have li : (i : Int) < (m : Int) := by omega
  have li0 : (0 : Int) ≤ (i : Int) := by omega
  have lc : (i : Int) < (c : Int) := by omega
  have K0 := hide (Below.refl g w)
  have HM := hide hM
  have hl1 : i ≤ m := by omega
  have hl2 : i + 1 ≤ m := by omega
  have hl3 : ¬ c = i := by omega
  have hw1 : IntKind.i64.wrap ((i : Int) + 1) = (i : Int) + 1 := by rw [IntKind.wrap_i64]; omega
  have hw2 : (0 : Int) ≤ (i : Int) + 1 := by omega
  have hw3 : (i : Int) + 1 ≤ (m : Int) := by omega
  have hw4 : ((i : Int) + 1).toNat = i + 1 := by omega
  obtain ⟨sp, hsp⟩ : ∃ sp : Option Addr, (if c = i + 1 then some ⟨g, 0, none⟩ else some ⟨g, i + 1, none⟩) = sp := ⟨_, rfl⟩
  have HSP := hide hsp
  go_enter Try.func71, Try.ntmps71
  go_upto_region 1 with fail
  refine wp_region_held_drew (S := (fun w' => True)) (by kernel_rfl) (by trivial) (fun hHeld => ?_)
  refine wpAnyH_take (i := 0) (v := ?_) rfl (by kernel_rfl) (by kernel_rfl) (by kernel_rfl) (fun _ _ _ h => h) (Or.inl ⟨by rfl, ?_⟩) hHeld ?_
  rotate_left
  · intro w hSw
    try dsimp only at hSw
    go_simp
    try with_reducible rfl
  show wpAnyH _ _ _ _ _ _ _ (Act.put _ (some 5) _) _
  try simp only [Act.put, List.setIfInBounds_toArray, List.set_cons_zero, List.set_cons_succ]
  refine wpAnyH_take (i := 1) (v := ?_) rfl (by kernel_rfl) (by kernel_rfl) (by kernel_rfl) (fun _ _ _ h => h) (Or.inl ⟨by rfl, ?_⟩) hHeld ?_
  rotate_left
  · intro w hSw
    try dsimp only at hSw
    go_simp
    try with_reducible rfl
  show wpAnyH _ _ _ _ _ _ _ (Act.put _ (some 6) _) _
  try simp only [Act.put, List.setIfInBounds_toArray, List.set_cons_zero, List.set_cons_succ]
  refine wpAnyH_take (i := 2) (v := ?_) rfl (by kernel_rfl) (by kernel_rfl) (by kernel_rfl) (fun _ _ _ h => h) (Or.inl ⟨by rfl, ?_⟩) hHeld ?_
  rotate_left
  · intro w hSw
    try dsimp only at hSw
    go_simp
    try with_reducible rfl
  show wpAnyH _ _ _ _ _ _ _ (Act.put _ (some 7) _) _
  try simp only [Act.put, List.setIfInBounds_toArray, List.set_cons_zero, List.set_cons_succ]
  refine wpAnyH_take (i := 3) (v := ?_) rfl (by kernel_rfl) (by kernel_rfl) (by kernel_rfl) (fun _ _ _ h => h) (Or.inl ⟨by rfl, ?_⟩) hHeld ?_
  rotate_left
  · intro w hSw
    try dsimp only at hSw
    go_simp
    try with_reducible rfl
  show wpAnyH _ _ _ _ _ _ _ (Act.put _ (some 8) _) _
  try simp only [Act.put, List.setIfInBounds_toArray, List.set_cons_zero, List.set_cons_succ]
  refine wpAnyH_take (i := 4) (v := ?_) rfl (by kernel_rfl) (by kernel_rfl) (by kernel_rfl) (fun _ _ _ h => h) (Or.inl ⟨by rfl, ?_⟩) hHeld ?_
  rotate_left
  · intro w hSw
    try dsimp only at hSw
    go_simp
    try with_reducible rfl
  show wpAnyH _ _ _ _ _ _ _ (Act.put _ (some 9) _) _
  try simp only [Act.put, List.setIfInBounds_toArray, List.set_cons_zero, List.set_cons_succ]
  refine wpAnyH_take (i := 5) (v := ?_) rfl (by kernel_rfl) (by kernel_rfl) (by kernel_rfl) (fun _ _ _ h => h) (Or.inl ⟨by rfl, ?_⟩) hHeld ?_
  rotate_left
  · intro w hSw
    try dsimp only at hSw
    go_simp
    try with_reducible rfl
  show wpAnyH _ _ _ _ _ _ _ (Act.put _ (some 10) _) _
  try simp only [Act.put, List.setIfInBounds_toArray, List.set_cons_zero, List.set_cons_succ]
  refine wpAnyH_take (i := 6) (v := ?_) rfl (by kernel_rfl) (by kernel_rfl) (by kernel_rfl) (fun _ _ _ h => h) (Or.inl ⟨by rfl, ?_⟩) hHeld ?_
  rotate_left
  · intro w hSw
    try dsimp only at hSw
    go_simp
    try with_reducible rfl
  show wpAnyH _ _ _ _ _ _ _ (Act.put _ (some 11) _) _
  try simp only [Act.put, List.setIfInBounds_toArray, List.set_cons_zero, List.set_cons_succ]
  clear hsp hw1 hw2 hw3 hw4 hl1 hl2 hl3
  refine wpAnyH_ready (rs := [7]) (by kernel_rfl) (by simp) ?_
  refine AllReadyH.cons rfl (fun K hK => ?_) AllReadyH.nil
  clear hHeld
  have hM2 : ((M.take m).drop (i + 1)).length = m - (i + 1) := by rw [List.length_drop, List.length_take]; omega
  refine step_copy_splice (w := w.drew) rfl (.tmp 7) (.tmp 11) 49 49 rfl 3 Try.underlying49 sizeI (some ⟨g, i, none⟩) sp (m - i) (c - i) (m - (i + 1)) (c - (i + 1)) rfl rfl g i (M.map (Value.int .i64)) 3 (unhide HR) (((M.take m).drop (i + 1)).map (Value.int .i64)) ?_ ?_ ?_ ?_ g w (Below.drew (unhide K0)) (Nat.le_refl _) ?_
  · rw [List.length_map, hM2]; exact (Nat.min_eq_left (by omega)).symm
  · intro hp
    rw [List.length_map, hM2] at hp
    refine ⟨rfl, ⟨g, i + 1, none⟩, ?_, drop_cells (show Rw w.drew g M from unhide HR) (by omega)⟩
    rw [← unhide HSP, if_neg (by omega)]
  · rw [List.length_map, List.length_map, hM2]; omega
  · intro v hv
    rw [List.mem_map] at hv
    obtain ⟨x, _, rfl⟩ := hv
    rfl
  · intro w2 hg hb
    have HR2 := hide (below_copy (M := M) (m := m) (i := i) (by omega) hi hg)
    have HB := hide hb
    clear hg hb hM2
    refine hK.out _ _ trivial (fun hHeld => ?_)
    clear hK K
    refine wpAnyH_done (by kernel_rfl) ?_ _
    clear hHeld
    have hy1 : (m : Int) - 1 < (m : Int) := by omega
    have hy2 : (0 : Int) ≤ (m : Int) - 1 := by omega
    have hy3 : ((m : Int) - 1).toNat = m - 1 := by omega
    have hy4 : IntKind.i64.wrap ((m : Int) - 1) = (m : Int) - 1 := by rw [IntKind.wrap_i64]; omega
    go_wp2_with fail
    go_ret
    exact ⟨_, rfl, unhide HB, unhide HR2, by rw [take_ln (by omega) hi]; exact unhide HM, take_er (by omega) hi⟩
end Od
end Go.Proofs.Ytakandlehneciaa
