/- Package circle: how many ticks; the widest arc. -/
import Derived.Test.YtcllijjmjmfedaaCSetB
namespace Go.Proofs.Ytcllijjmjmfedaa
open Go.RowKit Go.Shelf
attribute [local go_sem ↓] Go.wp_at_zero Go.wp_at_succ
set_option linter.unusedVariables false
set_option linter.unusedSimpArgs false
set_option maxRecDepth 10000
theorem tot_snoc {L : List Pr} {k : Nat} (h : k < L.length) : tot (L.take (k + 1)) = tot (L.take k) + ((L.getD k (0, 0)).2 - (L.getD k (0, 0)).1) := by
  unfold tot
  rw [take_snoc h, List.foldl_append]
  rfl
theorem ap_take {c : Int} {l : List Pr} (h : Ap c l) (k : Nat) : Ap c (l.take k) :=
  ⟨fun p hp => h.1 p (List.mem_of_mem_take hp), h.2.sublist (List.take_sublist _ _)⟩
theorem tot_bd {c : Int} {l : List Pr} (h : Ap c l) : 0 ≤ tot l ∧ tot l ≤ c.toNat := by
  rw [tot_cnt h]
  exact cnt_bd _ _
open Classical in
/-- how many ticks arcs have -/
noncomputable def tk (c : Int) (L : List Pr) : Int := if Cyc c then cnt (Ta c L) c.toNat else 0
theorem tot_op {c : Int} {L ps : List Pr} (h : Op c L ps) : tot ps = tk c L := by
  unfold tk
  by_cases hc : Cyc c
  · rw [if_pos hc, tot_cnt h.1]
    exact cnt_congr _ fun t a b => h.2.2 t a (by omega)
  · rw [if_neg hc, h.2.1 hc]
    rfl
set_option maxHeartbeats 1000000 in
theorem total_any (c : Int) (v0 : Value) (L : List Pr) (w : World) (hl : L.length ≤ 50000) (hR : Rs w v0 L) :
    Calls Try.prog 9 #[.int .i64 c, v0] w fun e w' => e = .returned (.int .i64 (tk c L)) ∧ Keep w w' := by
  have T := hide (opened_any c v0 L w hl hR)
  obtain ⟨a, cap, hv⟩ := rs_slice hR
  subst hv
  clear hR
  obtain ⟨X, hX⟩ : ∃ X, tk c L = X := ⟨_, rfl⟩
  rw [hX]
  have HX := hide hX
  clear hX
  go_enter Try.func9, Try.ntmps9
  go_wp2_with fail
  refine (unhide T).mono ?_
  rintro e w1 ⟨v, ps, rfl, hop, hrs, hk1⟩
  have hpl := op_len hop
  have hc6 : ps = [] ∨ c ≤ 6000 := by
    by_cases k : Cyc c
    · exact .inr k.2
    · exact .inl (hop.2.1 k)
  have hE : tot ps = X := by rw [tot_op hop]; exact unhide HX
  have HE := hide hE
  have hap := hop.1
  obtain ⟨a1, cap1, rfl, _, hcell⟩ := hrs
  have HC := hide hcell
  have HAP := hide hap
  clear hcell hap hop hE T HX
  go_wp2_with fail
  go_loopw [5, 12] (fun vt vi wr => ∃ k : Nat, k ≤ ps.length ∧ vi = .int .i64 k ∧ vt = .int .i64 (tot (ps.take k)) ∧ Keep w1 wr) (fun vt vi _ => ps.length - (intOf vi).toNat)
  case atStart => exact ⟨0, Nat.zero_le _, rfl, rfl, Keep.refl _⟩
  case round =>
    obtain ⟨k, hk, rfl, rfl, hkw⟩ := hrel
    by_cases hlt : k < ps.length
    · obtain ⟨ad, rfl, hb, hin, c0, c1⟩ := (unhide HC) k hlt
      rw [← Below.cell hkw (by rw [add_block]; exact hb)] at c0
      rw [← Below.cell (p := ⟨(ad.add (k * 2)).block, (ad.add (k * 2)).off + 1, none⟩) hkw (by show (ad.add (k * 2)).block < _; rw [add_block]; exact hb)] at c1
      have hts := tot_snoc hlt
      have b1 := tot_bd (ap_take (unhide HAP) k)
      have b2 := tot_bd (ap_take (unhide HAP) (k + 1))
      have hp := (unhide HAP).1 _ (getD_mem hlt)
      have hc : c ≤ 6000 := by
        rcases hc6 with h | h
        · rw [h] at hlt; simp at hlt
        · exact h
      generalize ps.getD k (0, 0) = p at *
      obtain ⟨x, y⟩ := p
      simp only at *
      obtain ⟨t1, ht1⟩ : ∃ t1, t1 = tot (ps.take k) := ⟨_, rfl⟩
      rw [← ht1] at hts b1 ⊢
      have w1' : wrap64 (y - x) = y - x := wrap_in (by omega)
      have w2' : wrap64 (t1 + (y - x)) = t1 + (y - x) := wrap_in (by omega)
      have HTS := hide hts
      have li : (k : Int) < (ps.length : Int) := by omega
      clear hts b1 b2 hp ht1
      go_wp2_with fail
      go_roundw
      case rel => exact ⟨k + 1, by omega, by go_num, by rw [unhide HTS, w2'], hkw.alloc _⟩
      case measure => simp [intOf]; omega
    · have hkl : k = ps.length := by omega
      have he : tot (ps.take k) = X := by rw [hkl, List.take_length]; exact unhide HE
      rw [he]
      have li : ¬ (k : Int) < (ps.length : Int) := by omega
      clear he
      go_wp2_with fail
      go_ret
      exact ⟨rfl, hk1.trans hkw⟩
/-- the first one of the longest -/
def wd (M : List Pr) : Pr := M.foldl (fun b a => if b.2 < a.2 then a else b) (0, 0)
theorem wd_snoc {L : List Pr} {k : Nat} (h : k < L.length) : wd (L.take (k + 1)) = if (wd (L.take k)).2 < (L.getD k (0, 0)).2 then L.getD k (0, 0) else wd (L.take k) := by
  unfold wd
  rw [take_snoc h, List.foldl_append]
  rfl
theorem Two.f0 {W : World} {B : Nat} {t : TypeId} {p : Pr} (h : Two W B t p) : W.frozen? ⟨B, 0, none⟩ = false := by simp [World.frozen?, show W.heap[B]? = _ from h]
theorem Two.f1 {W : World} {B : Nat} {t : TypeId} {p : Pr} (h : Two W B t p) : W.frozen? ⟨B, 1, none⟩ = false := by simp [World.frozen?, show W.heap[B]? = _ from h]
theorem Two.set0 {W : World} {B : Nat} {t : TypeId} {p : Pr} (h : Two W B t p) (x : Int) : Two (W.setCell ⟨B, 0, none⟩ (.int .i64 x)) B t (x, p.2) := by
  obtain ⟨hlt, hk⟩ := Array.getElem?_eq_some_iff.1 h
  show (W.heap.modify B _)[B]? = _
  rw [Array.getElem?_eq_getElem (by rw [Array.size_modify]; exact hlt), Array.getElem_modify_self, hk]
  rfl
theorem Two.set1 {W : World} {B : Nat} {t : TypeId} {p : Pr} (h : Two W B t p) (y : Int) : Two (W.setCell ⟨B, 1, none⟩ (.int .i64 y)) B t (p.1, y) := by
  obtain ⟨hlt, hk⟩ := Array.getElem?_eq_some_iff.1 h
  show (W.heap.modify B _)[B]? = _
  rw [Array.getElem?_eq_getElem (by rw [Array.size_modify]; exact hlt), Array.getElem_modify_self, hk]
  rfl
theorem Two.other {W : World} {B B' i : Nat} {t : TypeId} {p : Pr} (h : Two W B t p) (hne : ¬ B = B') (v : Value) : Two (W.setCell ⟨B', i, none⟩ v) B t p := by
  show (W.heap.modify B' _)[B]? = _
  rw [Array.getElem?_modify, if_neg (fun e => hne e.symm)]
  exact h
theorem Two.keep {W W' : World} {B : Nat} {t : TypeId} {p : Pr} (h : Two W B t p) (hk : Keep W W') : Two W' B t p := (Below.block hk B h.lt).trans h
theorem Two.alloc {W : World} {B : Nat} {t : TypeId} {p : Pr} (h : Two W B t p) (o : Obj) : Two (W.alloc o) B t p := h.keep ((Keep.refl W).alloc o)
set_option maxHeartbeats 1000000 in
theorem widest_any (c : Int) (hc : In c) (v0 : Value) (L : List Pr) (w : World) (hl : L.length ≤ 50000) (hR : Rs w v0 L) :
    Calls Try.prog 13 #[.int .i64 c, v0] w fun e w' => ∃ M, Fo c (Ta c L) M ∧ e = .returned (.agg #[.int .i64 (wd M).1, .int .i64 (wd M).2]) ∧ Keep w w' := by
  have T : Hid (∀ w', Keep w w' → Calls Try.prog 14 #[.int .i64 c, v0] w' fun e w'' => ∃ v, e = .returned v ∧ Fr w' c (Ta c L) w'' v) := hide fun w' hk => set_any c hc v0 L w' hl (hR.keep hk)
  obtain ⟨a, cap, hv⟩ := rs_slice hR
  subst hv
  clear hR
  go_enter Try.func13, Try.ntmps13
  go_wp2_with fail
  refine (unhide T _ (((Keep.refl w).alloc _).alloc _)).mono ?_
  rintro e w1 ⟨v, rfl, M, hrs, hfo, hlb, hk1⟩
  have hml := fo_len hfo
  have HF := hide hfo
  have b4 : Two w1 w.heap.size 33 (0, 0) := ((Two.new w 33 (0, 0)).alloc _).keep hk1
  have b5 : Two w1 (w.heap.size + 1) 33 (0, 0) := by
    have h := Two.new (w.alloc (.cells #[.int .i64 0, .int .i64 0] 33)) 33 (0, 0)
    rw [World.size_alloc] at h
    exact h.keep hk1
  have hk0 : Keep w w1 := (((Keep.refl w).alloc _).alloc _).trans hk1
  have hinp := hide (rs_inp hrs)
  obtain ⟨a1, cap1, rfl, _, hcell⟩ := hrs
  have HC := hide hcell
  have HLB := hide hlb
  clear hcell hfo T hk1 hlb
  go_wp2_with fail
  go_loopw [13] (fun vi wr => ∃ (k : Nat) (b : Pr), k ≤ M.length ∧ vi = .int .i64 k ∧ Hid (b = wd (M.take k)) ∧ Two wr w.heap.size 33 (0, 0) ∧ Two wr (w.heap.size + 1) 33 b ∧ Below w.heap.size w wr ∧ Hid (∀ b, b < w1.heap.size → ¬ b = w.heap.size + 1 → wr.heap[b]? = w1.heap[b]?) ∧ w1.heap.size ≤ wr.heap.size) (fun vi _ => M.length - (intOf vi).toNat)
  case atStart => exact ⟨0, (0, 0), Nat.zero_le _, rfl, hide rfl, b4, b5, hk0, hide fun _ _ _ => rfl, Nat.le_refl _⟩
  case round =>
    obtain ⟨k, b, hk, rfl, HB, t4, t5, hB, HO, hsz⟩ := hrel
    obtain ⟨bx, bY⟩ := b
    have d0 := t5.c0
    have d1 := t5.c1
    have f0 := t5.f0
    have f1 := t5.f1
    have r0 := t4.f0
    have r1 := t4.f1
    have s0 := t4.c0
    have s1 := t4.c1
    have z4 := t4.lt
    have z5 := t5.lt
    simp only at d0 d1 s0 s1
    have T4 := hide t4
    have T5 := hide t5
    have HBB := hide hB
    clear t4 t5 hB
    by_cases hlt : k < M.length
    · obtain ⟨ad, rfl, hb, hin, c0, c1⟩ := (unhide HC) k hlt
      have hlo : w.heap.size + 1 + 1 ≤ ad.block := by have := (unhide HLB) ad _ _ rfl; simpa using this
      have hcl : ∀ i s, wr.cell? ⟨ad.block, i, s⟩ = w1.cell? ⟨ad.block, i, s⟩ := fun i s => World.cell?_of_block (a := ⟨ad.block, i, s⟩) ((unhide HO) ad.block hb (by omega))
      have hcl2 : wr.cell? (ad.add (k * 2)) = w1.cell? (ad.add (k * 2)) := World.cell?_of_block ((unhide HO) (ad.add (k * 2)).block (by rw [add_block]; exact hb) (by rw [add_block]; omega))
      have hcl3 : wr.cell? ⟨(ad.add (k * 2)).block, (ad.add (k * 2)).off + 1, none⟩ = w1.cell? ⟨(ad.add (k * 2)).block, (ad.add (k * 2)).off + 1, none⟩ := World.cell?_of_block (a := ⟨(ad.add (k * 2)).block, (ad.add (k * 2)).off + 1, none⟩) ((unhide HO) (ad.add (k * 2)).block (by rw [add_block]; exact hb) (by rw [add_block]; omega))
      rw [← hcl2] at c0
      rw [← hcl3] at c1
      clear hcl hcl2 hcl3
      have hst := wd_snoc hlt
      rw [← unhide HB] at hst
      generalize M.getD k (0, 0) = p at *
      obtain ⟨x, y⟩ := p
      simp only at c0 c1 hst
      have li : (k : Int) < (M.length : Int) := by omega
      have ne5 : ¬ wr.heap.size = w.heap.size + 1 := by omega
      have ne5' : ¬ w.heap.size + 1 = wr.heap.size := by omega
      by_cases hy : bY < y
      · rw [if_pos hy] at hst
        have HN := hide hst.symm
        clear hst
        go_wp2_with fail
        go_roundw
        case rel =>
          refine ⟨k + 1, (x, y), by omega, by go_num, HN, ?_, ?_, ?_, ?_, ?_⟩
          · exact (((unhide T4).other (by omega) _).other (by omega) _).alloc _
          · exact (((unhide T5).set0 x).set1 y).alloc _
          · have h1 := ((unhide HBB).setCell (p := ⟨w.heap.size + 1, 0, none⟩) (by show w.heap.size ≤ w.heap.size + 1; omega) (.int .i64 x)).setCell (p := ⟨w.heap.size + 1, 1, none⟩) (by show w.heap.size ≤ w.heap.size + 1; omega) (.int .i64 y)
            exact h1.alloc h1.size _
          · refine hide fun b hb hne => ?_
            rw [Below.heap_alloc _ _ b (by simp [World.setCell]; omega), Below.heap_setCell _ _ _ b hne, Below.heap_setCell _ _ _ b hne]
            exact (unhide HO) b hb hne
          · simp [World.setCell]; omega
        case measure => simp [intOf]; omega
      · rw [if_neg hy] at hst
        have HN := hide hst.symm
        have hy' : ¬ y > bY := by omega
        clear hst
        go_wp2_with fail
        go_roundw
        case rel => exact ⟨k + 1, (bx, bY), by omega, by go_num, HN, (unhide T4).alloc _, (unhide T5).alloc _, Below.alloc (unhide HBB) (Below.size (unhide HBB)) _, hide (fun b hb hne => (Below.heap_alloc _ _ b (by omega)).trans ((unhide HO) b hb hne)), by simp; omega⟩
        case measure => simp [intOf]; omega
    · have hkl : k = M.length := by omega
      have he : wd M = (bx, bY) := by rw [unhide HB, hkl, List.take_length]
      have HE := hide (⟨M, unhide HF, he⟩ : ∃ M, Fo c (Ta c L) M ∧ wd M = (bx, bY))
      have li : ¬ (k : Int) < (M.length : Int) := by omega
      clear he HF
      have hne : ¬ w.heap.size + 1 = w.heap.size := by omega
      go_wp2_with fail
      have t6 := ((unhide T4).set0 bx).set1 bY
      have e0 := t6.c0
      have e1 := t6.c1
      refine bodyPost_ret (v := .agg #[.int .i64 bx, .int .i64 bY]) (by simp [results, Try.results13, go_sem, e0, e1]) rfl ?_
      obtain ⟨M, h1, h2⟩ := unhide HE
      refine ⟨M, h1, by rw [h2], ?_⟩
      exact ((unhide HBB).setCell (p := ⟨w.heap.size, 0, none⟩) (Nat.le_refl _) _).setCell (p := ⟨w.heap.size, 1, none⟩) (Nat.le_refl _) _
end Go.Proofs.Ytcllijjmjmfedaa
