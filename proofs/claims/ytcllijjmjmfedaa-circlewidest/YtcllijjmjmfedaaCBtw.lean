/- Package circle: what lies between pieces. -/
import Derived.Test.YtcllijjmjmfedaaCForm
import Derived.Test.YtcllijjmjmfedaaCMid
import Derived.Laws.MakeOwn
namespace Go.Proofs.Ytcllijjmjmfedaa
open Go.RowKit Go.Shelf
attribute [local go_sem ↓] Go.wp_at_zero Go.wp_at_succ
set_option linter.unusedVariables false
set_option linter.unusedSimpArgs false
theorem bt_in : ∀ (L A : List Pr) (f : Int), (∀ p, p ∈ L → InP p) → (∀ p, p ∈ A → InP p) → In f → (∀ p, p ∈ (L.foldl bt (A, f)).1 → InP p) ∧ In (L.foldl bt (A, f)).2
  | [], A, f, _, hA, hf => ⟨hA, hf⟩
  | q :: L, A, f, hL, hA, hf => by
    rw [List.foldl_cons]
    refine bt_in L _ _ (fun p hp => hL p (by simp [hp])) ?_ (hL q (by simp)).2
    intro p hp
    have : p ∈ (if q.1 > f then A ++ [(f, q.1)] else A) := hp
    split at this
    · rcases List.mem_append.1 this with h | h
      · exact hA p h
      · simp at h; subst h; exact ⟨hf, (hL q (by simp)).1⟩
    · exact hA p this
theorem bts_in {c : Int} (hc : In c) {L : List Pr} (hL : ∀ p, p ∈ L → InP p) : ∀ p, p ∈ bts c L → InP p := by
  obtain ⟨h1, h2⟩ := bt_in L [] 0 hL (fun p hp => by simp at hp) (by unfold In; omega)
  intro p hp
  unfold bts at hp
  split at hp
  · rcases List.mem_append.1 hp with h | h
    · exact h1 p h
    · simp at h; subst h; exact ⟨h2, hc⟩
  · exact h1 p hp
theorem bt_len : ∀ (L A : List Pr) (f : Int), (L.foldl bt (A, f)).1.length ≤ A.length + L.length
  | [], A, f => by simp
  | q :: L, A, f => by
    rw [List.foldl_cons]
    have h := bt_len L (bt (A, f) q).1 (bt (A, f) q).2
    have h2 : (bt (A, f) q).1.length ≤ A.length + 1 := by
      show (if q.1 > f then A ++ [(f, q.1)] else A).length ≤ _
      split <;> simp
    simp only [List.length_cons]
    have e : ((bt (A, f) q).1, (bt (A, f) q).2) = bt (A, f) q := rfl
    rw [e] at h
    omega
theorem bt_snoc {L : List Pr} {k : Nat} (h : k < L.length) : (L.take (k + 1)).foldl bt ([], 0) = bt ((L.take k).foldl bt ([], 0)) (L.getD k (0, 0)) := by
  rw [take_snoc h, List.foldl_append]
  rfl
theorem rs_inp {w : World} {v : Value} {L : List Pr} (h : Rs w v L) : ∀ p, p ∈ L → InP p := by
  intro p hp
  obtain ⟨a, cap, _, _, h⟩ := h
  obtain ⟨k, hk, rfl⟩ := List.getElem_of_mem hp
  obtain ⟨_, _, _, h2, _⟩ := h k hk
  rw [List.getD_eq_getElem?_getD, List.getElem?_eq_getElem hk] at h2
  exact h2
set_option maxRecDepth 100000 in
set_option maxHeartbeats 2000000 in
theorem between_any (c : Int) (hcI : In c) (v0 : Value) (L : List Pr) (w : World) (hl : L.length ≤ 50000) (hR : Rs w v0 L) :
    Calls Try.prog 30 #[.int .i64 c, v0] w fun e w' => ∃ v, e = .returned v ∧ Rs w' v (bts c L) ∧ Keep w w' := by
  obtain ⟨i0, hi, hz0, hz1, hz2⟩ := info_parts infoP
  obtain ⟨a, cap, hv, hcap, hcell⟩ := id hR
  subst hv
  have HI := hide (bts_in hcI (rs_inp hR))
  have HC := hide hcell
  clear hR hcell
  obtain ⟨Z, hZ, hmk⟩ : ∃ Z : Array Value, Z.size = (L.length + 1) * 2 ∧ ∀ w, (Instr.makeSlice 42 (.int .i64 0) (.int .i64 ((L.length : Int) + 1))).run Try.prog w = .ok (.slice (some ⟨w.heap.size, 0, none⟩) 0 (L.length + 1)) (w.alloc (.cells Z 45)) := by
    refine ⟨madeCells (Value.agg #[.int .i64 0, .int .i64 0]).cells ((L.length + 1) * 2), size_madeCells _ _, fun w => ?_⟩
    have h := run_make (P := Try.prog) w 42 45 i0 _ Try.underlying42 hi hz0 .i64 .i64 0 ((L.length : Int) + 1) (by omega) (by omega) (by rw [hz2]; omega) (by omega)
    rw [hz1] at h
    simpa using h
  have hrow0 := World.ownsRow_made (base := w.heap.size) (e := 45) (size := 2) w Z (L.length + 1) (Nat.le_refl _) (by unfold maxLen; omega) hZ
  clear hZ
  go_enter Try.func30, Try.ntmps30
  go_wp2_with fail
  go_loopw [5, 6, 15] (fun vl vf vi wr => ∃ (k : Nat) (A : List Pr) (f : Int), k ≤ L.length ∧ vi = .int .i64 k ∧ vf = .int .i64 f ∧ A.length ≤ k ∧ Hid ((L.take k).foldl bt ([], 0) = (A, f)) ∧ wr.ownsRow w.heap.size 45 2 vl A.length (cl A) ∧ (∃ g cp, vl = .slice (some ⟨g, 0, none⟩) A.length cp ∧ w.heap.size ≤ g) ∧ Keep w wr) (fun vl vf vi _ => L.length - (intOf vi).toNat)
  case atStart => exact ⟨0, [], 0, Nat.zero_le _, rfl, rfl, Nat.le_refl _, hide rfl, hrow0, ⟨_, _, rfl, Nat.le_refl _⟩, (Keep.refl w).alloc _⟩
  case round =>
    obtain ⟨k, A, f, hk, rfl, rfl, hAk, HA, hrw, ⟨g, cp, rfl, hbg⟩, hkw⟩ := hrel
    by_cases hlt : k < L.length
    · obtain ⟨ad, rfl, hb, hin, c0, c1⟩ := (unhide HC) k hlt
      rw [← Below.cell hkw (by rw [add_block]; exact hb)] at c0
      rw [← Below.cell (p := ⟨(ad.add (k * 2)).block, (ad.add (k * 2)).off + 1, none⟩) hkw (by show (ad.add (k * 2)).block < _; rw [add_block]; exact hb)] at c1
      have hst := bt_snoc hlt
      rw [unhide HA] at hst
      generalize L.getD k (0, 0) = p at *
      obtain ⟨x, y⟩ := p
      simp only at c0 c1
      have li : (k : Int) < (L.length : Int) := by omega
      have hst2 : (L.take (k + 1)).foldl bt ([], 0) = (if x > f then A ++ [(f, x)] else A, y) := hst
      clear hst hin
      by_cases hx : x > f
      · rw [if_pos hx] at hst2
        have HN := hide hst2
        have hx' : f < x := hx
        clear hst2
        obtain ⟨bb, hbl⟩ : ∃ bb, A.length = bb := ⟨_, rfl⟩
        rw [hbl] at hrw hAk ⊢
        have HBL := hide hbl
        have hgw := (hrw.lt g rfl).2
        clear hbl
        go_wp2_with (at_builtin; refine wpList_append_own _ rfl _ _ 42 rfl w.heap.size 45 i0 (.agg #[.int .i64 0, .int .i64 0]) 2 16 Try.underlying42 hi hz0 hz1 hz2 rfl (by decide) _ _ _ rfl ((hrw.alloc _).alloc _) ⟨wr.heap.size + 1, 0, none⟩ 1 1 [.int .i64 f, .int .i64 x] rfl rfl (two_new1 wr _ f x _) (by simp [Value.oneCell']) (by unfold maxLen; omega) (by omega) (by have := Below.size hkw; simp; omega) ?_; intro v' w1 hown' hgrow hnil; obtain ⟨g', cp', rfl⟩ := ownsRow_succ hown'; have hbx := ((Two.kept (W' := (wr.alloc (.cells #[.int .i64 x, .int .i64 y] 45)).alloc (.cells #[.int .i64 f, .int .i64 x] 45)) (Two.new wr 45 (x, y)) (World.grownBy_alloc _ _ none) (by simp)).kept hgrow (by intro h; injection h with h; exact absurd h (by show ¬ wr.heap.size = g; omega))).c1)
        go_roundw
        case rel =>
          have hg' := (hown'.lt g' rfl).1
          refine ⟨k + 1, A ++ [(f, x)], y, by omega, by go_num, rfl, by simp [unhide HBL]; omega, HN, ?_, ⟨g', cp', by simp [unhide HBL], hg'⟩, ?_⟩
          · rw [cl_append]
            simp only [List.length_append, List.length_cons, List.length_nil, unhide HBL]
            exact hown'
          · exact Below.grown ((hkw.alloc _).alloc _) hgrow (by have := Below.size hkw; simp; omega) (fun j ej => by cases ej; exact hbg)
        case measure => simp [intOf]; omega
      · rw [if_neg hx] at hst2
        have HN := hide hst2
        have hx' : ¬ f < x := by omega
        clear hst2
        go_wp2_with fail
        go_roundw
        case rel => exact ⟨k + 1, A, y, by omega, by go_num, rfl, by omega, HN, hrw.alloc _, ⟨g, cp, rfl, hbg⟩, hkw.alloc _⟩
        case measure => simp [intOf]; omega
    · have hkl : k = L.length := by omega
      have hst := unhide HA
      rw [hkl, List.take_length] at hst
      have hbts : bts c L = if f < c then A ++ [(f, c)] else A := by unfold bts; rw [hst]
      have li : ¬ (k : Int) < (L.length : Int) := by omega
      obtain ⟨bb, hbl⟩ : ∃ bb, A.length = bb := ⟨_, rfl⟩
      rw [hbl] at hrw hAk ⊢
      have HBL := hide hbl
      clear hbl
      by_cases hfc : f < c
      · rw [if_pos hfc] at hbts
        have HB := hide hbts
        clear hbts hst
        go_wp2_with (at_builtin; refine wpList_append_own _ rfl _ _ 42 rfl w.heap.size 45 i0 (.agg #[.int .i64 0, .int .i64 0]) 2 16 Try.underlying42 hi hz0 hz1 hz2 rfl (by decide) _ _ _ rfl (hrw.alloc _) ⟨wr.heap.size, 0, none⟩ 1 1 [.int .i64 f, .int .i64 c] rfl rfl (two_new _ _ _ _) (by simp [Value.oneCell']) (by unfold maxLen; omega) (by omega) (by have := Below.size hkw; simp; omega) ?_; intro v' w1 hown' hgrow hnil; obtain ⟨g', cp', rfl⟩ := ownsRow_succ hown')
        go_ret
        refine ⟨_, rfl, ?_, Below.grown (hkw.alloc _) hgrow (by have := Below.size hkw; simp; omega) (fun j ej => by cases ej; exact hbg)⟩
        have hI := unhide HI
        rw [unhide HB] at hI ⊢
        refine rs_own (base := w.heap.size) (e := 45) hI ?_
        rw [cl_append]
        simp only [List.length_append, List.length_cons, List.length_nil, unhide HBL]
        exact hown'
      · rw [if_neg hfc] at hbts
        have HB := hide hbts
        clear hbts hst
        go_wp2_with fail
        go_ret
        refine ⟨_, rfl, ?_, hkw⟩
        have hI := unhide HI
        rw [unhide HB] at hI ⊢
        exact rs_own (base := w.heap.size) (e := 45) hI (by rw [unhide HBL]; exact hrw)
end Go.Proofs.Ytcllijjmjmfedaa
