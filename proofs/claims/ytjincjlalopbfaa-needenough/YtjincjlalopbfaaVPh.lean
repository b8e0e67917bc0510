/- Package valid: heads. -/
import Derived.Test.YtjincjlalopbfaaVMath
import Derived.Test.YtjincjlalopbfaaLMath
import Derived.Deep.DrawnRows
import Derived.Deep.RegionHeld3
namespace Go.Proofs.Ytjincjlalopbfaa
open Go.RowKit
attribute [local go_sem ↓] Go.wp_at_zero Go.wp_at_succ
set_option linter.unusedVariables false
set_option linter.unusedSimpArgs false
set_option maxRecDepth 10000
namespace V
theorem add_block9 (ad : Addr) (n : Nat) : (ad.add n).block = ad.block := by unfold Addr.add; split <;> rfl
theorem far_cell {w W : World} {a : Addr} {v : Value} (h : Keep w W) (hb : a.block < w.heap.size) (hc : w.cell? a = some v) : W.cell? a = some v := by rw [Below.cell h hb]; exact hc
set_option maxHeartbeats 4000000 in
theorem heads_core (a : Option Addr) (n cap : Nat) (T : Nat → List UInt8) (V1 V2 V3 V4 V5 V6 V7 V8 V9 P : Nat → Int) (r : Eq2) (w : World) (hn : n ≤ 9223372036854775807)
    (HT : Hid (∀ k, k < n → (T k).length ≤ maxLen))
    (HC : Hid (∀ k, k < n → ∃ ad, a = some ad ∧ ad.block < w.heap.size ∧ w.cell? (ad.add (k * 11)) = some (.string (sv (T k))) ∧ w.cell? ⟨(ad.add (k * 11)).block, (ad.add (k * 11)).off + 1, none⟩ = some (.int .i64 (V1 k)) ∧ w.cell? ⟨(ad.add (k * 11)).block, (ad.add (k * 11)).off + 2, none⟩ = some (.int .i64 (V2 k)) ∧ w.cell? ⟨(ad.add (k * 11)).block, (ad.add (k * 11)).off + 3, none⟩ = some (.int .i64 (V3 k)) ∧ w.cell? ⟨(ad.add (k * 11)).block, (ad.add (k * 11)).off + 4, none⟩ = some (.int .i64 (V4 k)) ∧ w.cell? ⟨(ad.add (k * 11)).block, (ad.add (k * 11)).off + 5, none⟩ = some (.int .i64 (V5 k)) ∧ w.cell? ⟨(ad.add (k * 11)).block, (ad.add (k * 11)).off + 6, none⟩ = some (.int .i64 (V6 k)) ∧ w.cell? ⟨(ad.add (k * 11)).block, (ad.add (k * 11)).off + 7, none⟩ = some (.int .i64 (V7 k)) ∧ w.cell? ⟨(ad.add (k * 11)).block, (ad.add (k * 11)).off + 8, none⟩ = some (.int .i64 (V8 k)) ∧ w.cell? ⟨(ad.add (k * 11)).block, (ad.add (k * 11)).off + 9, none⟩ = some (.int .i64 (V9 k)) ∧ w.cell? ⟨(ad.add (k * 11)).block, (ad.add (k * 11)).off + 10, none⟩ = some (.int .i64 (P k))))
    (HI : Hid (fE (hdF T (fun k => rngB (V1 k) (V2 k) (V3 k) (V4 k) (V5 k) (V6 k) (V7 k) (V8 k) (V9 k)) P) 0 n = r)) :
    Calls Try.prog 64 #[.slice a n cap] w (Hq r (mk T n) w) := by
  have RX := hide refuseAt_yes
  have RN := hide refuseAt_no
  have hmm := @run_makeMap Try.prog
  go_enter Try.func64, Try.ntmps64
  go_wp2_with fail
  obtain ⟨b, HB⟩ : ∃ b, Hid (b = w.heap.size) := ⟨_, hide rfl⟩
  have M0 : Hid (Mp (w.alloc (.map #[] 0)) b (mk T 0)) := hide (by rw [uq HB]; exact mp_made w)
  have K0 : Hid (Keep w (w.alloc (.map #[] 0))) := hide ((Keep.refl w).alloc _)
  rw [← uq HB]
  generalize w.alloc (.map #[] 0) = w0 at M0 K0 ⊢
  go_loopw [9] (fun iv wr => ∃ k : Nat, iv = .int .i64 (k : Int) ∧ k ≤ n ∧ Hid (Mp wr b (mk T k)) ∧ Hid (Keep w wr) ∧ Hid (fE (hdF T (fun k => rngB (V1 k) (V2 k) (V3 k) (V4 k) (V5 k) (V6 k) (V7 k) (V8 k) (V9 k)) P) k (n - k) = r)) (fun iv _ => n - (intOf iv).toNat)
  case atStart => exact ⟨0, rfl, by omega, M0, K0, HI⟩
  case round =>
    obtain ⟨k, rfl, hk, MK, KW, HF⟩ := hrel
    by_cases hlt : k < n
    · have li : (k : Int) < (n : Int) := by omega
      obtain ⟨ad, rfl, hb, e0, e1, e2, e3, e4, e5, e6, e7, e8, e9, e10⟩ := (uq HC) k hlt
      have tl := hide ((uq HT) k hlt)
      have x0 := far_cell (uq KW) (by rw [add_block9]; exact hb) e0
      have x1 := far_cell (uq KW) (by show (ad.add (k * 11)).block < _; rw [add_block9]; exact hb) e1
      have x2 := far_cell (uq KW) (by show (ad.add (k * 11)).block < _; rw [add_block9]; exact hb) e2
      have x3 := far_cell (uq KW) (by show (ad.add (k * 11)).block < _; rw [add_block9]; exact hb) e3
      have x4 := far_cell (uq KW) (by show (ad.add (k * 11)).block < _; rw [add_block9]; exact hb) e4
      have x5 := far_cell (uq KW) (by show (ad.add (k * 11)).block < _; rw [add_block9]; exact hb) e5
      have x6 := far_cell (uq KW) (by show (ad.add (k * 11)).block < _; rw [add_block9]; exact hb) e6
      have x7 := far_cell (uq KW) (by show (ad.add (k * 11)).block < _; rw [add_block9]; exact hb) e7
      have x8 := far_cell (uq KW) (by show (ad.add (k * 11)).block < _; rw [add_block9]; exact hb) e8
      have x9 := far_cell (uq KW) (by show (ad.add (k * 11)).block < _; rw [add_block9]; exact hb) e9
      have x10 := far_cell (uq KW) (by show (ad.add (k * 11)).block < _; rw [add_block9]; exact hb) e10
      clear e0 e1 e2 e3 e4 e5 e6 e7 e8 e9 e10
      have hbx := heap_alloc_new wr (.cells #[.string (sv (T k)), .int .i64 (V1 k), .int .i64 (V2 k), .int .i64 (V3 k), .int .i64 (V4 k), .int .i64 (V5 k), .int .i64 (V6 k), .int .i64 (V7 k), .int .i64 (V8 k), .int .i64 (V9 k), .int .i64 (P k)] 42)
      have HKB := hide ((uq KW).alloc (.cells #[.string (sv (T k)), .int .i64 (V1 k), .int .i64 (V2 k), .int .i64 (V3 k), .int .i64 (V4 k), .int .i64 (V5 k), .int .i64 (V6 k), .int .i64 (V7 k), .int .i64 (V8 k), .int .i64 (V9 k), .int .i64 (P k)] 42))
      have HMB := hide ((uq MK).keep ((Keep.refl wr).alloc (.cells #[.string (sv (T k)), .int .i64 (V1 k), .int .i64 (V2 k), .int .i64 (V3 k), .int .i64 (V4 k), .int .i64 (V5 k), .int .i64 (V6 k), .int .i64 (V7 k), .int .i64 (V8 k), .int .i64 (V9 k), .int .i64 (P k)] 42)))
      go_upto_region 5 with fail
      generalize hwa : wr.alloc (.cells #[.string (sv (T k)), .int .i64 (V1 k), .int .i64 (V2 k), .int .i64 (V3 k), .int .i64 (V4 k), .int .i64 (V5 k), .int .i64 (V6 k), .int .i64 (V7 k), .int .i64 (V8 k), .int .i64 (V9 k), .int .i64 (P k)] 42) = wa at hbx HKB HMB ⊢
      obtain ⟨q, HQ⟩ : ∃ q, Hid (wr.heap.size = q) := ⟨_, hide rfl⟩
      rw [uq HQ] at hbx ⊢
      have HX : Hid (∀ w' : World, w'.heap[q]? = wa.heap[q]? → w'.cell? ⟨q, 0, none⟩ = some (.string (sv (T k))) ∧ w'.cell? ⟨q, 1, none⟩ = some (.int .i64 (V1 k)) ∧ w'.cell? ⟨q, 2, none⟩ = some (.int .i64 (V2 k)) ∧ w'.cell? ⟨q, 3, none⟩ = some (.int .i64 (V3 k)) ∧ w'.cell? ⟨q, 4, none⟩ = some (.int .i64 (V4 k)) ∧ w'.cell? ⟨q, 5, none⟩ = some (.int .i64 (V5 k)) ∧ w'.cell? ⟨q, 6, none⟩ = some (.int .i64 (V6 k)) ∧ w'.cell? ⟨q, 7, none⟩ = some (.int .i64 (V7 k)) ∧ w'.cell? ⟨q, 8, none⟩ = some (.int .i64 (V8 k)) ∧ w'.cell? ⟨q, 9, none⟩ = some (.int .i64 (V9 k)) ∧ w'.cell? ⟨q, 10, none⟩ = some (.int .i64 (P k))) := hide (fun w' h9 => by rw [hbx] at h9; refine ⟨?_, ?_, ?_, ?_, ?_, ?_, ?_, ?_, ?_, ?_, ?_⟩ <;> simp [World.cell?, h9])
      have hql : q < wa.heap.size := (Array.getElem?_eq_some_iff.1 hbx).1
      have HQL := hide hql
      have hqb : q ≠ b := by have := (uq MK).lt; have := uq HQ; omega
      have HQB := hide hqb
      clear hbx hwa hqb hql x0 x1 x2 x3 x4 x5 x6 x7 x8 x9 x10
      obtain ⟨f0, f1, f2, f3, f4, f5, f6, f7, f8, f9, f10⟩ := (uq HX) wa rfl
      by_cases hh : hs (mk T k) (T k) = true
      · have hr := fE_yes (uq HF) hlt (show hdF T _ P k = some (71, P k) by unfold hdF; rw [if_pos hh])
        subst hr
        clear HF
        go_wp2_with fail
        (refine (add_yes b (mk T k) (P k) _ (T k) _ (uq HMB) (uq tl) hh).mono ?_; rintro e w2 ⟨rfl, rfl⟩)
        go_wp2_with fail
        exact ⟨rfl, uq HKB, rfl⟩
      · have hh0 : hs (mk T k) (T k) = false := by simpa using hh
        have HH0 := hide hh0
        clear hh hh0
        go_wp2_with fail
        (refine (add_no b (mk T k) (P k) _ (T k) _ (uq HMB) (uq tl) (by rw [mk_len]; unfold maxLen; omega) (wf_nat (by omega)) (uq HH0)).mono ?_; rintro e w2 ⟨rfl, hM2, hG2⟩)
        have HM2 : Hid (Mp w2 b (mk T (k + 1))) := hide (by rw [mk_succ]; exact hM2)
        have HK2 := hide (grown_keep (uq HKB) hG2 (by have := uq HB; omega))
        have HX2 : Hid (∀ w' : World, Keep w2 w' → w'.cell? ⟨q, 0, none⟩ = some (.string (sv (T k))) ∧ w'.cell? ⟨q, 1, none⟩ = some (.int .i64 (V1 k)) ∧ w'.cell? ⟨q, 2, none⟩ = some (.int .i64 (V2 k)) ∧ w'.cell? ⟨q, 3, none⟩ = some (.int .i64 (V3 k)) ∧ w'.cell? ⟨q, 4, none⟩ = some (.int .i64 (V4 k)) ∧ w'.cell? ⟨q, 5, none⟩ = some (.int .i64 (V5 k)) ∧ w'.cell? ⟨q, 6, none⟩ = some (.int .i64 (V6 k)) ∧ w'.cell? ⟨q, 7, none⟩ = some (.int .i64 (V7 k)) ∧ w'.cell? ⟨q, 8, none⟩ = some (.int .i64 (V8 k)) ∧ w'.cell? ⟨q, 9, none⟩ = some (.int .i64 (V9 k)) ∧ w'.cell? ⟨q, 10, none⟩ = some (.int .i64 (P k))) := hide (fun w' k9 => (uq HX) w' ((k9.block q (Nat.lt_of_lt_of_le (uq HQL) hG2.size)).trans (hG2.block q (uq HQL) (by simpa using uq HQB))))
        clear hM2 hG2 f0 f1 f2 f3 f4 f5 f6 f7 f8 f9 f10
        by_cases hR : (rngB (V1 k) (V2 k) (V3 k) (V4 k) (V5 k) (V6 k) (V7 k) (V8 k) (V9 k)) = true
        · have hf := fE_no (uq HF) hlt (show hdF T _ P k = none by unfold hdF; rw [if_neg (by rw [uq HH0]; decide), if_pos hR])
          have HF2 := hide hf
          have TR := hide (rng_any (sv (T k)) (V1 k) (V2 k) (V3 k) (V4 k) (V5 k) (V6 k) (V7 k) (V8 k) (V9 k) (P k))
          rw [hR] at TR
          clear hf hR HF
          go_upto_region 6 with fail
          refine wp_region_held_drew (S := (fun w' => w'.cell? ⟨q, 0, none⟩ = some (.string (sv (T k))) ∧ w'.cell? ⟨q, 1, none⟩ = some (.int .i64 (V1 k)) ∧ w'.cell? ⟨q, 2, none⟩ = some (.int .i64 (V2 k)) ∧ w'.cell? ⟨q, 3, none⟩ = some (.int .i64 (V3 k)) ∧ w'.cell? ⟨q, 4, none⟩ = some (.int .i64 (V4 k)) ∧ w'.cell? ⟨q, 5, none⟩ = some (.int .i64 (V5 k)) ∧ w'.cell? ⟨q, 6, none⟩ = some (.int .i64 (V6 k)) ∧ w'.cell? ⟨q, 7, none⟩ = some (.int .i64 (V7 k)) ∧ w'.cell? ⟨q, 8, none⟩ = some (.int .i64 (V8 k)) ∧ w'.cell? ⟨q, 9, none⟩ = some (.int .i64 (V9 k)) ∧ w'.cell? ⟨q, 10, none⟩ = some (.int .i64 (P k)))) (by kernel_rfl) (by exact (uq HX2) _ (Keep.refl w2).drew) (fun hHeld => ?_)
          refine tkk 0 21 hHeld ?_; try simp only [Act.put, Ya, Yb, Yc]
          refine tkk 1 22 hHeld ?_; try simp only [Act.put, Ya, Yb, Yc]
          refine tkk 2 23 hHeld ?_; try simp only [Act.put, Ya, Yb, Yc]
          refine rdyy 3 (fun K hK => ?_)
          go_simp
          clear hHeld
          (refine ((uq TR) _).mono ?_; rintro e w3 ⟨rfl, hk9⟩; have K3 := hide (((Keep.refl w2).drew).trans hk9); clear hk9)
          try go_wp2_with fail
          refine hK.out _ _ ?_ (fun hHeld => ?_)
          · exact (uq HX2) _ (uq K3)
          clear hK K
          try simp only [Act.put, Ya, Yb, Yc]
          refine tkk 4 25 hHeld ?_; try simp only [Act.put, Ya, Yb, Yc]
          refine rdyy 5 (fun K hK => ?_)
          go_simp
          clear hHeld
          (refine ((uq RN) _ _ _).mono ?_; rintro e w4 ⟨rfl, rfl⟩)
          try go_wp2_with fail
          refine hK.out _ _ ?_ (fun hHeld => ?_)
          · exact (uq HX2) _ (uq K3)
          clear hK K
          try simp only [Act.put, Ya, Yb, Yc]
          refine wpAnyH_done (by kernel_rfl) ?_ _
          clear hHeld
          go_wp2_with fail
          go_roundw
          case rel => exact ⟨k + 1, by go_num, by omega, hide ((uq HM2).keep (uq K3)), hide ((uq HK2).trans (uq K3)), HF2⟩
          case measure => simp [intOf]; omega
        · have hR0 : (rngB (V1 k) (V2 k) (V3 k) (V4 k) (V5 k) (V6 k) (V7 k) (V8 k) (V9 k)) = false := by simpa using hR
          have hr := fE_yes (uq HF) hlt (show hdF T _ P k = some (70, P k) by unfold hdF; rw [if_neg (by rw [uq HH0]; decide), if_neg hR])
          subst hr
          have TR := hide (rng_any (sv (T k)) (V1 k) (V2 k) (V3 k) (V4 k) (V5 k) (V6 k) (V7 k) (V8 k) (V9 k) (P k))
          rw [hR0] at TR
          clear hR hR0 HF
          go_upto_region 6 with fail
          refine wp_region_held_drew (S := (fun w' => w'.cell? ⟨q, 0, none⟩ = some (.string (sv (T k))) ∧ w'.cell? ⟨q, 1, none⟩ = some (.int .i64 (V1 k)) ∧ w'.cell? ⟨q, 2, none⟩ = some (.int .i64 (V2 k)) ∧ w'.cell? ⟨q, 3, none⟩ = some (.int .i64 (V3 k)) ∧ w'.cell? ⟨q, 4, none⟩ = some (.int .i64 (V4 k)) ∧ w'.cell? ⟨q, 5, none⟩ = some (.int .i64 (V5 k)) ∧ w'.cell? ⟨q, 6, none⟩ = some (.int .i64 (V6 k)) ∧ w'.cell? ⟨q, 7, none⟩ = some (.int .i64 (V7 k)) ∧ w'.cell? ⟨q, 8, none⟩ = some (.int .i64 (V8 k)) ∧ w'.cell? ⟨q, 9, none⟩ = some (.int .i64 (V9 k)) ∧ w'.cell? ⟨q, 10, none⟩ = some (.int .i64 (P k)))) (by kernel_rfl) (by exact (uq HX2) _ (Keep.refl w2).drew) (fun hHeld => ?_)
          refine tkk 0 21 hHeld ?_; try simp only [Act.put, Ya, Yb, Yc]
          refine tkk 1 22 hHeld ?_; try simp only [Act.put, Ya, Yb, Yc]
          refine tkk 2 23 hHeld ?_; try simp only [Act.put, Ya, Yb, Yc]
          refine rdyy 3 (fun K hK => ?_)
          go_simp
          clear hHeld
          (refine ((uq TR) _).mono ?_; rintro e w3 ⟨rfl, hk9⟩; have K3 := hide (((Keep.refl w2).drew).trans hk9); clear hk9)
          try go_wp2_with fail
          refine hK.out _ _ ?_ (fun hHeld => ?_)
          · exact (uq HX2) _ (uq K3)
          clear hK K
          try simp only [Act.put, Ya, Yb, Yc]
          refine tkk 4 25 hHeld ?_; try simp only [Act.put, Ya, Yb, Yc]
          refine wpAnyH_ready (rs := [5]) (by kernel_rfl) (by simp) ?_
          refine AllReadyH.cons rfl (fun K hK => ?_) AllReadyH.nil
          go_simp
          clear hHeld
          (refine ((uq RX) _ _ _).mono ?_; rintro e w4 ⟨rfl, rfl⟩)
          try go_wp2_with fail
          exact ⟨rfl, (uq HK2).trans (uq K3), rfl⟩
    · have li : ¬ (k : Int) < (n : Int) := by omega
      have hr := fE_end (uq HF) (by omega)
      subst hr
      obtain rfl : k = n := by omega
      go_wp2_with fail
      go_ret
      exact ⟨uq KW, b, rfl, by have := uq HB; omega, uq MK⟩
end V
end Go.Proofs.Ytjincjlalopbfaa

namespace Go.Proofs.Ytjincjlalopbfaa
open Go.RowKit
attribute [local go_sem ↓] Go.wp_at_zero Go.wp_at_succ
set_option linter.unusedVariables false
set_option linter.unusedSimpArgs false
set_option maxRecDepth 10000
namespace V
/-- the names of one thing's row, with its number; of all rows so far -/
def inn (H : Nat → Nat → List UInt8) (i k : Nat) : List (List UInt8 × Int) := (List.range k).map (fun j => (H i j, (i : Int)))
def hmL (N : Nat → Nat) (H : Nat → Nat → List UInt8) : Nat → List (List UInt8 × Int)
  | 0 => []
  | i + 1 => hmL N H i ++ inn H i (N i)
theorem inn_succ (H : Nat → Nat → List UInt8) (i k : Nat) : inn H i (k + 1) = inn H i k ++ [(H i k, (i : Int))] := by simp [inn, List.range_succ]
def phI (N : Nat → Nat) (H : Nat → Nat → List UInt8) (MH : List (List UInt8 × Int)) (P : Nat → Int) (i k : Nat) : Eq2 :=
  if hs MH (H i k) then (if hs (hmL N H i ++ inn H i k) (H i k) then some (71, P i) else none) else some (72, P i)
def phF (T : Nat → List UInt8) (N : Nat → Nat) (H : Nat → Nat → List UInt8) (MH : List (List UInt8 × Int)) (P : Nat → Int) (i : Nat) : Eq2 :=
  if hs (mk T i) (T i) then some (71, P i) else match fE (phI N H MH P i) 0 (N i) with | some e => some e | none => if N i = 0 then some (73, P i) else none
theorem phF_in {T : Nat → List UInt8} {N : Nat → Nat} {H : Nat → Nat → List UInt8} {MH : List (List UInt8 × Int)} {P : Nat → Int} {i : Nat} {e : Int × Int} (h : hs (mk T i) (T i) = false) (he : fE (phI N H MH P i) 0 (N i) = some e) : phF T N H MH P i = some e := by
  unfold phF; rw [if_neg (by rw [h]; decide), he]
theorem phF_e {T : Nat → List UInt8} {N : Nat → Nat} {H : Nat → Nat → List UInt8} {MH : List (List UInt8 × Int)} {P : Nat → Int} {i : Nat} (h : hs (mk T i) (T i) = false) (he : fE (phI N H MH P i) 0 (N i) = none) (hz : N i = 0) : phF T N H MH P i = some (73, P i) := by
  unfold phF; rw [if_neg (by rw [h]; decide), he]; simp [hz]
theorem phF_n {T : Nat → List UInt8} {N : Nat → Nat} {H : Nat → Nat → List UInt8} {MH : List (List UInt8 × Int)} {P : Nat → Int} {i : Nat} (h : hs (mk T i) (T i) = false) (he : fE (phI N H MH P i) 0 (N i) = none) (hz : ¬ N i = 0) : phF T N H MH P i = none := by
  unfold phF; rw [if_neg (by rw [h]; decide), he]; simp [hz]
/-- how a call that hands back two maps ends -/
def Hq2 (r : Eq2) (M1 M2 : List (List UInt8 × Int)) (w : World) (e : Ending) (w' : World) : Prop := Keep w w' ∧ match r with
  | none => ∃ b c, e = .returned (.tuple #[.map (some b), .map (some c)]) ∧ w.heap.size ≤ b ∧ w.heap.size ≤ c ∧ b ≠ c ∧ Mp w' b M1 ∧ Mp w' c M2
  | some x => e = .panicked [{ v := flt x.1 x.2, recovered := false }]
set_option maxHeartbeats 4000000 in
theorem phases_core (a : Option Addr) (n cap bp : Nat) (T : Nat → List UInt8) (A : Nat → Option Addr) (N C : Nat → Nat) (H : Nat → Nat → List UInt8) (MH : List (List UInt8 × Int)) (P : Nat → Int) (r : Eq2) (w : World) (hn : n ≤ 9223372036854775807) (hMH : MH.length ≤ 9223372036854775807) (HP : Hid (Mp w bp MH))
    (HT : Hid (∀ k, k < n → (T k).length ≤ maxLen)) (HL : Hid (∀ i, i < n → N i ≤ 9223372036854775807))
    (HC : Hid (∀ k, k < n → ∃ ad, a = some ad ∧ ad.block < w.heap.size ∧ w.cell? (ad.add (k * 3)) = some (.string (sv (T k))) ∧ w.cell? ⟨(ad.add (k * 3)).block, (ad.add (k * 3)).off + 1, none⟩ = some (.slice (A k) (N k) (C k)) ∧ w.cell? ⟨(ad.add (k * 3)).block, (ad.add (k * 3)).off + 2, none⟩ = some (.int .i64 (P k))))
    (HD : Hid (∀ i, i < n → ∀ k, k < N i → ∃ bd, A i = some bd ∧ bd.block < w.heap.size ∧ w.cell? (bd.add k) = some (.string (sv (H i k))) ∧ (H i k).length ≤ maxLen))
    (HI : Hid (fE (phF T N H MH P) 0 n = r)) :
    Calls Try.prog 65 #[.slice a n cap, .map (some bp)] w (Hq2 r (mk T n) (hmL N H n) w) := by
  have RX := hide refuseAt_x
  have hmm := @run_makeMap Try.prog
  go_enter Try.func65, Try.ntmps65
  go_wp2_with fail
  obtain ⟨b, HB⟩ : ∃ b, Hid (b = w.heap.size) := ⟨_, hide rfl⟩
  obtain ⟨c, HBC⟩ : ∃ c, Hid (c = b + 1) := ⟨_, hide rfl⟩
  have M0 : Hid (Mp ((w.alloc (.map #[] 0)).alloc (.map #[] 0)) b (mk T 0)) := hide (by rw [uq HB]; exact (mp_made w).keep ((Keep.refl _).alloc _))
  have N0 : Hid (Mp ((w.alloc (.map #[] 0)).alloc (.map #[] 0)) c (hmL N H 0)) := hide (by have := mp_made (w.alloc (.map #[] 0)); rw [World.size_alloc] at this; rw [uq HBC, uq HB]; exact this)
  have K0 : Hid (Keep w ((w.alloc (.map #[] 0)).alloc (.map #[] 0))) := hide (((Keep.refl w).alloc _).alloc _)
  rw [← uq HB, ← uq HBC]
  generalize (w.alloc (.map #[] 0)).alloc (.map #[] 0) = w0 at M0 N0 K0 ⊢
  go_loopw [14] (fun iv wr => ∃ k : Nat, iv = .int .i64 (k : Int) ∧ k ≤ n ∧ Hid (Mp wr b (mk T k)) ∧ Hid (Mp wr c (hmL N H k)) ∧ Hid (Gd MH (hmL N H k)) ∧ Hid (Keep w wr) ∧ Hid (fE (phF T N H MH P) k (n - k) = r)) (fun iv _ => n - (intOf iv).toNat)
  case atStart => exact ⟨0, rfl, by omega, M0, N0, hide (Gd.nil _), K0, HI⟩
  case round =>
    obtain ⟨k, rfl, hk, MK, NK, GK, KW, HF⟩ := hrel
    by_cases hlt : k < n
    · have li : (k : Int) < (n : Int) := by omega
      obtain ⟨ad, rfl, hb, e0, e1, e2⟩ := (uq HC) k hlt
      have tl := hide ((uq HT) k hlt)
      have HDk := hide ((uq HD) k hlt)
      have HLk := hide ((uq HL) k hlt)
      have hlt' := hide hlt
      have x0 := far_cell (uq KW) (by rw [add_block9]; exact hb) e0
      have x1 := far_cell (uq KW) (by show (ad.add (k * 3)).block < _; rw [add_block9]; exact hb) e1
      have x2 := far_cell (uq KW) (by show (ad.add (k * 3)).block < _; rw [add_block9]; exact hb) e2
      clear e0 e1 e2
      have hbx := heap_alloc_new wr (.cells #[.string (sv (T k)), .slice (A k) (N k) (C k), .int .i64 (P k)] 61)
      have KBq := hide ((uq KW).alloc (.cells #[.string (sv (T k)), .slice (A k) (N k) (C k), .int .i64 (P k)] 61))
      have KAq := hide ((Keep.refl wr).alloc (.cells #[.string (sv (T k)), .slice (A k) (N k) (C k), .int .i64 (P k)] 61))
      go_upto_region 5 with fail
      generalize hwa : wr.alloc (.cells #[.string (sv (T k)), .slice (A k) (N k) (C k), .int .i64 (P k)] 61) = wa at hbx KBq KAq ⊢
      obtain ⟨q, HQq⟩ : ∃ q, Hid (wr.heap.size = q) := ⟨_, hide rfl⟩
      rw [uq HQq] at hbx ⊢
      have HXq : Hid (∀ w' : World, w'.heap[q]? = wa.heap[q]? → w'.cell? ⟨q, 0, none⟩ = some (.string (sv (T k))) ∧ w'.cell? ⟨q, 1, none⟩ = some (.slice (A k) (N k) (C k)) ∧ w'.cell? ⟨q, 2, none⟩ = some (.int .i64 (P k))) := hide (fun w' h9 => by rw [hbx] at h9; refine ⟨?_, ?_, ?_⟩ <;> simp [World.cell?, h9])
      have HQLq := hide (Array.getElem?_eq_some_iff.1 hbx).1
      clear hbx hwa x0 x1 x2
      have HMB := hide ((uq MK).keep (uq KAq))
      have HNB := hide ((uq NK).keep (uq KAq))
      have HQB : Hid (q ≠ b) := hide (by have := (uq MK).lt; have := uq HQq; omega)
      have HQC : Hid (q ≠ c) := hide (by have := (uq NK).lt; have := uq HQq; omega)
      obtain ⟨f0, f1, f2⟩ := (uq HXq) wa rfl
      by_cases hh : hs (mk T k) (T k) = true
      · have hr := fE_yes (uq HF) hlt (show phF T N H MH P k = some (71, P k) by unfold phF; rw [if_pos hh])
        subst hr
        clear HF
        go_wp2_with fail
        (refine (add_yes b (mk T k) (P k) _ (T k) _ (uq HMB) (uq tl) hh).mono ?_; rintro e w2 ⟨rfl, rfl⟩)
        go_wp2_with fail
        exact ⟨rfl, uq KBq, rfl⟩
      have hh0 : hs (mk T k) (T k) = false := by simpa using hh
      have HH0 := hide hh0
      clear hh hh0
      go_wp2_with fail
      (refine (add_no b (mk T k) (P k) _ (T k) _ (uq HMB) (uq tl) (by rw [mk_len]; unfold maxLen; omega) (wf_nat (by omega)) (uq HH0)).mono ?_; rintro e w2 ⟨rfl, hM2, hG2⟩)
      have HM2 : Hid (Mp w2 b (mk T (k + 1))) := hide (by rw [mk_succ]; exact hM2)
      have HN2 : Hid (Mp w2 c (hmL N H k ++ inn H k 0)) := hide (by rw [show inn H k 0 = [] from rfl, List.append_nil]; exact (uq HNB).kept hG2 (by have := uq HBC; simp; omega))
      have HK2 := hide (grown_keep (uq KBq) hG2 (by have := uq HB; omega))
      have HE2 : Hid (w2.heap[q]? = wa.heap[q]?) := hide (hG2.block q (uq HQLq) (by simpa using uq HQB))
      have HS2 : Hid (q < w2.heap.size) := hide (Nat.lt_of_lt_of_le (uq HQLq) hG2.size)
      clear hM2 hG2 HMB HNB KBq KAq f0 f1 f2 tl
      obtain ⟨f0, f1, f2⟩ := (uq HXq) w2 (uq HE2)
      obtain ⟨r2, HR2⟩ : ∃ r2, Hid (fE (phI N H MH P k) 0 (N k) = r2) := ⟨_, hide rfl⟩
      have HF0 : Hid (fE (phI N H MH P k) 0 (N k - 0) = r2) := HR2
      have hN : N k ≤ 9223372036854775807 := uq HLk
      go_wp2_with fail
      clear f0 f1 f2
      obtain ⟨wo, HWO⟩ : ∃ wo, Hid (wo = wr) := ⟨_, hide rfl⟩
      go_loopw [29] (fun iv wq => ∃ m : Nat, iv = .int .i64 (m : Int) ∧ m ≤ N k ∧ Hid (Mp wq b (mk T (k + 1))) ∧ Hid (Mp wq c (hmL N H k ++ inn H k m)) ∧ Hid (Gd MH (hmL N H k ++ inn H k m)) ∧ Hid (Keep w wq) ∧ Hid (wq.heap[q]? = wa.heap[q]? ∧ q < wq.heap.size) ∧ Hid (fE (phI N H MH P k) m (N k - m) = r2)) (fun iv _ => N k - (intOf iv).toNat)
      case atStart => exact ⟨0, rfl, by omega, HM2, HN2, hide (by rw [show inn H k 0 = [] from rfl, List.append_nil]; exact uq GK), HK2, hide ⟨uq HE2, uq HS2⟩, HF0⟩
      case round =>
        obtain ⟨m, rfl, hm, MM, NM, GM, KM, HE, HG⟩ := hrel
        obtain ⟨f0, f1, f2⟩ := (uq HXq) _ (uq HE).1
        by_cases hmt : m < N k
        · have lj : (m : Int) < (N k : Int) := by omega
          obtain ⟨bd, hA, hbb, ec, hl⟩ := (uq HDk) m hmt
          have xc := far_cell (uq KM) (by rw [add_block9]; exact hbb) ec
          have HLm := hide hl
          have HA := hide hA
          rw [hA] at f1 ⊢
          clear ec hl hA hbb
          have TW := hide (want_any bp MH (P k) (H k m) _ ((uq HP).keep (uq KM)) (uq HLm))
          cases hw : hs MH (H k m)
          · have hr2 := fE_yes (uq HG) hmt (show phI N H MH P k m = some (72, P k) by unfold phI; rw [if_neg (by rw [hw]; decide)])
            have hr := fE_yes (uq HF) (uq hlt') (phF_in (uq HH0) ((uq HR2).trans hr2))
            subst hr
            rw [hw] at TW
            clear HF hw hr2
            go_wp2_with fail
            (refine (uq TW).mono ?_; rintro e w3 ⟨rfl, rfl⟩; simp only [Bool.not_false, fl, En, if_true])
            go_wp2_with fail
            exact ⟨rfl, uq KM, rfl⟩
          have HW := hide hw
          rw [hw] at TW
          clear hw
          go_wp2_with fail
          (refine (uq TW).mono ?_; rintro e wr ⟨rfl, rfl⟩; simp only [Bool.not_true, fl, En, if_false, Bool.false_eq_true])
          by_cases hh : hs (hmL N H k ++ inn H k m) (H k m) = true
          · have hr2 := fE_yes (uq HG) hmt (show phI N H MH P k m = some (71, P k) by unfold phI; rw [if_pos (uq HW), if_pos hh])
            have hr := fE_yes (uq HF) (uq hlt') (phF_in (uq HH0) ((uq HR2).trans hr2))
            subst hr
            clear HF hr2
            go_wp2_with fail
            (refine (add_yes c _ (P k) _ (H k m) _ (uq NM) (uq HLm) hh).mono ?_; rintro e w3 ⟨rfl, rfl⟩)
            go_wp2_with fail
            exact ⟨rfl, uq KM, rfl⟩
          have hh0 : hs (hmL N H k ++ inn H k m) (H k m) = false := by simpa using hh
          have HH1 := hide hh0
          clear hh hh0
          have hf := fE_no (uq HG) hmt (show phI N H MH P k m = none by unfold phI; rw [if_pos (uq HW), if_neg (by rw [uq HH1]; decide)])
          have HF2 := hide hf
          clear hf
          go_wp2_with fail
          (refine (add_no c _ (P k) _ (H k m) _ (uq NM) (uq HLm) (by have := ((uq GM).add (k : Int) (uq HW) (uq HH1)).len; rw [List.length_append] at this; unfold maxLen; simp at this ⊢; omega) (wf_nat (by omega)) (uq HH1)).mono ?_; rintro e w3 ⟨rfl, hM3, hG3⟩)
          have HN3 : Hid (Mp w3 c (hmL N H k ++ inn H k (m + 1))) := hide (by rw [inn_succ, ← List.append_assoc]; exact hM3)
          have HM3 := hide ((uq MM).kept hG3 (by have := uq HBC; simp; omega))
          have HK3 := hide (grown_keep (uq KM) hG3 (by have := uq HB; have := uq HBC; omega))
          have HE3 : Hid (w3.heap[q]? = wa.heap[q]? ∧ q < w3.heap.size) := hide ⟨(hG3.block q (uq HE).2 (by simpa using uq HQC)).trans (uq HE).1, Nat.lt_of_lt_of_le (uq HE).2 hG3.size⟩
          clear hM3 hG3
          go_wp2_with fail
          go_roundw
          case rel => exact ⟨m + 1, by go_num, by omega, HM3, HN3, hide (by rw [inn_succ, ← List.append_assoc]; exact (uq GM).add _ (uq HW) (uq HH1)), HK3, HE3, HF2⟩
          case measure => simp [intOf]; omega
        · have lj : ¬ (m : Int) < (N k : Int) := by omega
          obtain rfl : m = N k := by omega
          have hr2 := fE_end (uq HG) (by omega)
          have HZ := hide ((uq HR2).trans hr2)
          clear HG hr2
          go_wp2_with fail
          (refine ((uq RX) _ _ _ _).mono ?_; rintro e wr ⟨⟨hb9, rfl⟩ | ⟨hb9, rfl⟩, rfl⟩)
          · have hr := fE_yes (uq HF) (uq hlt') (phF_e (uq HH0) (uq HZ) (by simp at hb9; omega))
            subst hr
            clear HF hb9
            go_wp2_with fail
            exact ⟨rfl, uq KM, rfl⟩
          have hf := fE_no (uq HF) (uq hlt') (phF_n (uq HH0) (uq HZ) (by simp at hb9; omega))
          have HF2 := hide hf
          clear hf HF hb9
          go_wp2_with fail
          go_roundw
          case rel => exact ⟨k + 1, by go_num, by omega, MM, NM, GM, KM, HF2⟩
          case measure => simp [intOf]; omega
    · have li : ¬ (k : Int) < (n : Int) := by omega
      have hr := fE_end (uq HF) (by omega)
      subst hr
      obtain rfl : k = n := by omega
      go_wp2_with fail
      go_ret2
      exact ⟨uq KW, b, c, rfl, by have := uq HB; omega, by have := uq HB; have := uq HBC; omega, by have := uq HBC; omega, uq MK, uq NK⟩
end V
end Go.Proofs.Ytjincjlalopbfaa
