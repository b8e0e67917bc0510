/- Package circle: the iterator over what the cut leaves of arcs. -/
import Derived.Test.YtcllijjmjmfedaaCVal
namespace Go.Proofs.Ytcllijjmjmfedaa
open Go.RowKit Go.Shelf
attribute [local go_sem] Oper.semAt_some
attribute [local go_sem ↓] Go.wp_at_zero Go.wp_at_succ
set_option linter.unusedVariables false
set_option linter.unusedSimpArgs false
/-- what a round keeps: all below a block, and one block more -/
def Kc (n₀ B : Nat) (W W' : World) : Prop := Below n₀ W W' ∧ W'.heap[B]? = W.heap[B]?
theorem Kc.refl (n₀ B : Nat) (W : World) : Kc n₀ B W W := ⟨Below.refl _ _, rfl⟩
theorem Kc.trans {n₀ B : Nat} {W W' W'' : World} (h : Kc n₀ B W W') (k : Kc n₀ B W' W'') : Kc n₀ B W W'' := ⟨h.1.trans k.1, k.2.trans h.2⟩
theorem kc_keep {n₀ B : Nat} {W W' : World} (h : Keep W W') (hn : n₀ ≤ W.heap.size) (hb : B < W.heap.size) : Kc n₀ B W W' := ⟨Below.mono h hn, Below.block h B hb⟩
theorem Kc.cell {n₀ B : Nat} {W W' : World} (h : Kc n₀ B W W') : W'.cell? ⟨B, 0, none⟩ = W.cell? ⟨B, 0, none⟩ := by
  simp only [World.cell?, h.2]
theorem keep_grown {w w' : World} (h : Keep w w') : w.grownBy w' none := by
  obtain ⟨h1, h2, h3, h4, h5⟩ := h
  exact ⟨h1, h2, h3, h4, fun k hk _ => h5 k hk⟩
theorem pcs_snoc {c : Int} {L : List Pr} {k : Nat} (h : k < L.length) : pcs c (L.take (k + 1)) = pcs c (L.take k) ++ pc c (L.getD k (0, 0)) := by
  rw [take_snoc h]
  simp [pcs]
theorem pcs_split (c : Int) (L : List Pr) (k : Nat) : pcs c L = pcs c (L.take k) ++ pcs c (L.drop k) := by
  unfold pcs
  rw [← List.flatMap_append, List.take_append_drop]
set_option maxRecDepth 100000 in
set_option maxHeartbeats 4000000 in
theorem pieces1_in (n : Nat) (l Bl Bc n₀ : Nat) (c : Int) (vl : Value) (L : List Pr) (J Jx : List Pc → World → Prop)
    (W : World) (hJ : AbidesFrom W.heap.size J)
    (hY : ∀ pre x W1, J pre W1 → pre.length < (pcs c L).length → YieldAt Fence.wide (n - 1) Try.prog l (ev x) W1 fun e W' =>
      (e = .returned (.bool true) ∧ J (pre ++ [x]) W' ∧ Kc n₀ Bc W1 W') ∨ (e = .returned (.bool false) ∧ Jx (pre ++ [x]) W'))
    (hn : n₀ ≤ W.heap.size) (hbc : Bc < W.heap.size) (hBl : W.cell? ⟨Bl, 0, none⟩ = some vl) (hBc : W.cell? ⟨Bc, 0, none⟩ = some (.int .i64 c)) (hR : Rb n₀ W vl L) (hl : L.length ≤ 100000) (h0 : J [] W) :
    CallsIn Fence.wide n Try.prog 33 #[.func (.yield l) #[] #[], .pointer (some ⟨Bl, 0, none⟩), .pointer (some ⟨Bc, 0, none⟩)] W fun e W' => (∃ v, e = .returned v) ∧
      ((∃ ys, vals ys = pcs c L ∧ J ys W') ∨ (∃ pre, True ∧ Jx pre W')) := by
  obtain ⟨a, cap, rfl, hcap, hc⟩ := hR
  have HC := hide hc
  clear hc
  refine callsIn_of_wp Try.func33 rfl trivial ?_ rfl
  simp only [Try.ntmps33, List.size_toArray, List.length_cons, List.length_nil, Nat.reduceAdd, Nat.reduceSub, Array.replicate_succ, Array.replicate_zero, List.push_toArray, List.append_toArray, List.nil_append, List.cons_append]
  gi_wp2
  gi_loopw [9] (fun i wr => ∃ (k : Nat) (pre : List Pc), k ≤ L.length ∧ i = .int .i64 k ∧ Hid (vals pre = pcs c (L.take k)) ∧ J pre wr ∧ Kc n₀ Bc W wr ∧ W.heap.size ≤ wr.heap.size)
    (fun i _ => L.length - (intOf i).toNat)
  case atStart => exact ⟨0, [], Nat.zero_le _, rfl, hide (by simp [vals, pcs]), h0, Kc.refl _ _ _, Nat.le_refl _⟩
  case round =>
    obtain ⟨k, pre, hk, rfl, HV, hJs, hnx, hsz⟩ := hrel
    have hcc := hnx.cell.trans hBc
    by_cases hlt : k < L.length
    · obtain ⟨ad, rfl, hb, hi, c0, c1⟩ := (unhide HC) k hlt
      rw [← Below.cell hnx.1 (by rw [add_block]; exact hb)] at c0
      rw [← Below.cell (p := ⟨(ad.add (k * 2)).block, (ad.add (k * 2)).off + 1, none⟩) hnx.1 (by show (ad.add (k * 2)).block < _; rw [add_block]; exact hb)] at c1
      have T : Hid (∀ w, _) := hide (norm_any c (L.getD k (0, 0)) hi)
      have hbd := nm_bd c (L.getD k (0, 0))
      have hV1 : pcs c (L.take (k + 1)) = vals pre ++ pc c (L.getD k (0, 0)) := by rw [pcs_snoc hlt, unhide HV]
      have hV2 := pcs_split c L (k + 1)
      have hpc : pc c (L.getD k (0, 0)) = if (nm c (L.getD k (0, 0))).2 = 0 then [] else if (nm c (L.getD k (0, 0))).1 + (nm c (L.getD k (0, 0))).2 > c then [((nm c (L.getD k (0, 0))).1, c), (0, (nm c (L.getD k (0, 0))).1 + (nm c (L.getD k (0, 0))).2 - c)] else [((nm c (L.getD k (0, 0))).1, (nm c (L.getD k (0, 0))).1 + (nm c (L.getD k (0, 0))).2)] := rfl
      rw [hpc] at hV1
      generalize nm c (L.getD k (0, 0)) = q at *
      generalize L.getD k (0, 0) = p at *
      obtain ⟨x, y⟩ := p
      obtain ⟨s0, m⟩ := q
      simp only at *
      rw [hV1] at hV2
      clear hpc hi
      have HV1 := hide hV1
      have HV2 := hide hV2
      have HNX := hide hnx
      clear hV1 hV2 hnx
      have hbr : Bc < wr.heap.size := by omega
      have hbn : ¬ Bc = wr.heap.size := by omega
      have hbn' : ¬ wr.heap.size = Bc := by omega
      have hcy : Hid (m = 0 ∨ c ≤ 6000) := by rcases hbd with h | h; exact .inl h.1; exact .inr h.1.2
      gi_wp2_with fail
      (refine ⟨trivial, fun h => (by simp [Fence.wide] at h), callsIn_wide.2 (((unhide T) _).mono ?_)⟩; rintro e w2 ⟨rfl, hk2⟩; obtain ⟨o1, k1, rfl⟩ := hk2.ext; clear hk2)
      have hKX : Keep wr (ext (wr.alloc (.cells #[.int .i64 s0, .int .i64 m] 33)) o1 k1) := keep_ext ((Keep.refl wr).alloc _) _ _
      have hJX : J pre (ext (wr.alloc (.cells #[.int .i64 s0, .int .i64 m] 33)) o1 k1) := hJ pre wr _ none hJs (keep_grown hKX) (fun r e => by cases e)
      have hKcX : Kc n₀ Bc wr (ext (wr.alloc (.cells #[.int .i64 s0, .int .i64 m] 33)) o1 k1) := kc_keep hKX (by omega) hbr
      have hSX : W.heap.size ≤ (ext (wr.alloc (.cells #[.int .i64 s0, .int .i64 m] 33)) o1 k1).heap.size := by rw [ext_size, World.size_alloc]; omega
      have HX := hide (⟨hJX, hKcX, hSX⟩ : _ ∧ _ ∧ _)
      clear hKX hJX hKcX hSX
      by_cases hm : m = 0
      · subst hm
        have HN : Hid (vals pre = pcs c (L.take (k + 1))) := hide (by rw [unhide HV1]; simp)
        gi_wp2_with fail
        go_roundw
        case rel => exact ⟨k + 1, pre, by omega, by go_num, HN, (unhide HX).1, (unhide HNX).trans (unhide HX).2.1, (unhide HX).2.2⟩
        case measure => simp [intOf]; omega
      · obtain ⟨hcy, b1, b2, b3, b4⟩ : Cyc c ∧ 0 ≤ s0 ∧ s0 < c ∧ 1 ≤ m ∧ m ≤ c := by
          rcases hbd with h | h
          · exact absurd h.1 hm
          · exact h
        have hc6 : c ≤ 6000 := hcy.2
        have hm' : (m == 0) = false := by simpa using hm
        have hw1 : wrap64 (s0 + m) = s0 + m := wrap_in (by omega)
        clear hbd hcy
        by_cases he : s0 + m > c
        · have hV1 := unhide HV1
          rw [if_neg hm, if_pos he] at hV1
          have hV2 := unhide HV2
          rw [if_neg hm, if_pos he] at hV2
          have hpl : pre.length < (pcs c L).length := by rw [hV2]; simp [vals]
          have hpl2 : pre.length + 1 < (pcs c L).length := by rw [hV2]; simp [vals]
          have he1 : c < s0 + m := by omega
          have hw2 : wrap64 (s0 + m - c) = s0 + m - c := wrap_in (by omega)
          have P1 : 0 ≤ ((s0, c) : Pr).1 ∧ ((s0, c) : Pr).1 < ((s0, c) : Pr).2 ∧ ((s0, c) : Pr).2 ≤ 9223372036854775807 := by simp only; omega
          have P2 : 0 ≤ ((0, s0 + m - c) : Pr).1 ∧ ((0, s0 + m - c) : Pr).1 < ((0, s0 + m - c) : Pr).2 ∧ ((0, s0 + m - c) : Pr).2 ≤ 9223372036854775807 := by simp only; omega
          have HN : Hid (vals ((pre ++ [⟨(s0, c), P1⟩]) ++ [⟨(0, s0 + m - c), P2⟩]) = pcs c (L.take (k + 1))) := hide (by rw [hV1, vals_snoc, vals_snoc]; simp)
          obtain ⟨fn, tmps, assign, body, hy, hRo⟩ := hY pre ⟨(s0, c), P1⟩ _ (unhide HX).1 hpl
          dsimp only [ev] at hy
          clear hV1 hV2 HV1 HV2
          gi_wp2_with fail
          refine ⟨fun h => (by simp [Fence.wide] at h), hRo.mono ?_⟩
          rintro e W3 (⟨rfl, hJ3, hk3⟩ | ⟨rfl, hJx3⟩)
          · have hc3 : W3.cell? ⟨Bc, 0, none⟩ = some (.int .i64 c) := by
              rw [hk3.cell, (unhide HX).2.1.cell]
              exact hcc
            obtain ⟨fn2, tmps2, assign2, body2, hy2, hRo2⟩ := hY _ ⟨(0, s0 + m - c), P2⟩ _ hJ3 (by simp; omega)
            dsimp only [ev] at hy2
            have HK3 := hide hk3
            clear hk3 hy hRo hcc
            gi_wp2_with fail
            refine ⟨fun h => (by simp [Fence.wide] at h), hRo2.mono ?_⟩
            rintro e W4 (⟨rfl, hJ4, hk4⟩ | ⟨rfl, hJx4⟩)
            · gi_wp2_with fail
              go_roundw
              case rel => exact ⟨k + 1, _, by omega, by go_num, HN, hJ4, ((unhide HNX).trans (unhide HX).2.1).trans ((unhide HK3).trans hk4), by have := (unhide HX).2.2; have := (unhide HK3).1.size; have := hk4.1.size; omega⟩
              case measure => simp [intOf]; omega
            · gi_wp2_with fail
              refine bodyPost_ret (results_none rfl _ _ _) rfl ?_
              exact ⟨⟨_, rfl⟩, .inr ⟨_, trivial, hJx4⟩⟩
          · gi_wp2_with fail
            refine bodyPost_ret (results_none rfl _ _ _) rfl ?_
            exact ⟨⟨_, rfl⟩, .inr ⟨_, trivial, hJx3⟩⟩
        · have hV1 := unhide HV1
          rw [if_neg hm, if_neg he] at hV1
          have hV2 := unhide HV2
          rw [if_neg hm, if_neg he] at hV2
          have hpl : pre.length < (pcs c L).length := by rw [hV2]; simp [vals]
          have he1 : ¬ c < s0 + m := by omega
          have P1 : 0 ≤ ((s0, s0 + m) : Pr).1 ∧ ((s0, s0 + m) : Pr).1 < ((s0, s0 + m) : Pr).2 ∧ ((s0, s0 + m) : Pr).2 ≤ 9223372036854775807 := by simp only; omega
          have HN : Hid (vals (pre ++ [⟨(s0, s0 + m), P1⟩]) = pcs c (L.take (k + 1))) := hide (by rw [hV1, vals_snoc])
          obtain ⟨fn, tmps, assign, body, hy, hRo⟩ := hY pre ⟨(s0, s0 + m), P1⟩ _ (unhide HX).1 hpl
          dsimp only [ev] at hy
          clear hV1 hV2 HV1 HV2
          gi_wp2_with fail
          refine ⟨fun h => (by simp [Fence.wide] at h), hRo.mono ?_⟩
          rintro e W3 (⟨rfl, hJ3, hk3⟩ | ⟨rfl, hJx3⟩)
          · have hc3 : W3.cell? ⟨Bc, 0, none⟩ = some (.int .i64 c) := by
              rw [hk3.cell, (unhide HX).2.1.cell]
              exact hcc
            have HK3 := hide hk3
            clear hk3 hy hRo hcc
            gi_wp2_with fail
            refine ⟨fun _ h => (by cases h), ?_⟩
            gi_wp2_with fail
            go_roundw
            case rel => exact ⟨k + 1, _, by omega, by go_num, HN, hJ3, ((unhide HNX).trans (unhide HX).2.1).trans (unhide HK3), by have := (unhide HX).2.2; have := (unhide HK3).1.size; omega⟩
            case measure => simp [intOf]; omega
          · gi_wp2_with fail
            refine bodyPost_ret (results_none rfl _ _ _) rfl ?_
            exact ⟨⟨_, rfl⟩, .inr ⟨_, trivial, hJx3⟩⟩
    · have hkl : k = L.length := by omega
      have HE := hide (by have h := unhide HV; rw [hkl, List.take_length] at h; exact h)
      subst hkl
      gi_wp2
      go_end0
      exact ⟨⟨_, rfl⟩, .inl ⟨pre, unhide HE, hJs⟩⟩
set_option maxHeartbeats 1000000 in
theorem pieces_new (c : Int) (a : Option Addr) (m cap : Nat) (w : World) :
    Calls Try.prog 26 #[.int .i64 c, .slice a m cap] w fun e w' => e = .returned (.func (.func 33) #[] #[.pointer (some ⟨w.heap.size + 1, 0, none⟩), .pointer (some ⟨w.heap.size, 0, none⟩)]) ∧ w' = (w.alloc (.cells #[.int .i64 c] 2)).alloc (.cells #[.slice a m cap] 22) := by
  go_enter Try.func26, Try.ntmps26
  go_wp2
  go_ret
  exact ⟨rfl, rfl⟩
/-- what pieces hands back gives what the cut leaves of the arcs -/
theorem pieces_stops (c : Int) (a : Option Addr) (cap : Nat) (L : List Pr) (n₀ Bc Bl : Nat) (w : World) (hn : n₀ ≤ w.heap.size) (hbc : Bc < w.heap.size) (hbl : Bl < w.heap.size) (b1 : w.cell? ⟨Bc, 0, none⟩ = some (.int .i64 c)) (b2 : w.cell? ⟨Bl, 0, none⟩ = some (.slice a L.length cap)) (hR : Rb n₀ w (.slice a L.length cap) L) (hl : L.length ≤ 100000) (n : Nat) :
    SeqStopsK Fence.wide n Try.prog 33 #[.pointer (some ⟨Bl, 0, none⟩), .pointer (some ⟨Bc, 0, none⟩)] ev (Kc n₀ Bc) (fun ys => vals ys = pcs c L) (fun _ => True) (pcs c L).length w :=
  fun l J Jx W hW hJ hJx hY h0 =>
    pieces1_in n l Bl Bc n₀ c _ L J Jx W hJ hY (Nat.le_trans hn hW.size) (Nat.lt_of_lt_of_le hbc hW.size) ((hW.cell (p := ⟨Bl, 0, none⟩) hbl).trans b2) ((hW.cell (p := ⟨Bc, 0, none⟩) hbc).trans b1) (Rb.below hR hW hn) hl h0
end Go.Proofs.Ytcllijjmjmfedaa
