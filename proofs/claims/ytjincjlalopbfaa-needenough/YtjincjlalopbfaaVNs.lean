/- Package valid: nodes. -/
import Derived.Test.YtjincjlalopbfaaVNd
import Derived.Deep.DrawnRows
import Derived.Deep.RegionHeld3
namespace Go.Proofs.Ytjincjlalopbfaa
open Go.RowKit
attribute [local go_sem ↓] Go.wp_at_zero Go.wp_at_succ
set_option linter.unusedVariables false
set_option linter.unusedSimpArgs false
set_option maxRecDepth 10000
namespace V
def nsF (T : Nat → List UInt8) (R : Nat → Eq2) (P : Nat → Int) (k : Nat) : Eq2 := if hs (mk T k) (T k) then some (71, P k) else R k
set_option maxHeartbeats 4000000 in
theorem nodes_core (a : Option Addr) (n cap : Nat) (T : Nat → List UInt8) (X1 X2 X3 X4 X5 : Nat → Option Addr) (N1 C1 N2 C2 N3 C3 N4 C4 N5 C5 : Nat → Nat) (P : Nat → Int) (R : Nat → Eq2) (r : Eq2) (w : World) (hn : n ≤ 9223372036854775807)
    (HT : Hid (∀ k, k < n → (T k).length ≤ maxLen))
    (HC : Hid (∀ k, k < n → ∃ ad, a = some ad ∧ ad.block < w.heap.size ∧ w.cell? (ad.add (k * 7)) = some (.string (sv (T k))) ∧ w.cell? ⟨(ad.add (k * 7)).block, (ad.add (k * 7)).off + 1, none⟩ = some (.slice (X1 k) (N1 k) (C1 k)) ∧ w.cell? ⟨(ad.add (k * 7)).block, (ad.add (k * 7)).off + 2, none⟩ = some (.slice (X2 k) (N2 k) (C2 k)) ∧ w.cell? ⟨(ad.add (k * 7)).block, (ad.add (k * 7)).off + 3, none⟩ = some (.slice (X3 k) (N3 k) (C3 k)) ∧ w.cell? ⟨(ad.add (k * 7)).block, (ad.add (k * 7)).off + 4, none⟩ = some (.slice (X4 k) (N4 k) (C4 k)) ∧ w.cell? ⟨(ad.add (k * 7)).block, (ad.add (k * 7)).off + 5, none⟩ = some (.slice (X5 k) (N5 k) (C5 k)) ∧ w.cell? ⟨(ad.add (k * 7)).block, (ad.add (k * 7)).off + 6, none⟩ = some (.int .i64 (P k))))
    (TN : Hid (∀ k, k < n → ∀ w', Keep w w' → Calls Try.prog 45 #[.agg #[.string (sv (T k)), .slice (X1 k) (N1 k) (C1 k), .slice (X2 k) (N2 k) (C2 k), .slice (X3 k) (N3 k) (C3 k), .slice (X4 k) (N4 k) (C4 k), .slice (X5 k) (N5 k) (C5 k), .int .i64 (P k)]] w' (Nq (R k) w')))
    (HI : Hid (fE (nsF T R P) 0 n = r)) :
    Calls Try.prog 21 #[.slice a n cap] w (Hq r (mk T n) w) := by
  have hmm := @run_makeMap Try.prog
  go_enter Try.func21, Try.ntmps21
  go_wp2_with fail
  obtain ⟨b, HB⟩ : ∃ b, Hid (b = w.heap.size) := ⟨_, hide rfl⟩
  have M0 : Hid (Mp (w.alloc (.map #[] 0)) b (mk T 0)) := hide (by rw [uq HB]; exact mp_made w)
  have K0 : Hid (Keep w (w.alloc (.map #[] 0))) := hide ((Keep.refl w).alloc _)
  rw [← uq HB]
  generalize w.alloc (.map #[] 0) = w0 at M0 K0 ⊢
  go_loopw [9] (fun iv wr => ∃ k : Nat, iv = .int .i64 (k : Int) ∧ k ≤ n ∧ Hid (Mp wr b (mk T k)) ∧ Hid (Keep w wr) ∧ Hid (fE (nsF T R P) k (n - k) = r)) (fun iv _ => n - (intOf iv).toNat)
  case atStart => exact ⟨0, rfl, by omega, M0, K0, HI⟩
  case round =>
    obtain ⟨k, rfl, hk, MK, KW, HF⟩ := hrel
    by_cases hlt : k < n
    · have li : (k : Int) < (n : Int) := by omega
      obtain ⟨ad, rfl, hb, e0, e1, e2, e3, e4, e5, e6⟩ := (uq HC) k hlt
      have tl := hide ((uq HT) k hlt)
      have x0 := far_cell (uq KW) (by rw [add_block9]; exact hb) e0
      have x1 := far_cell (uq KW) (by show (ad.add (k * 7)).block < _; rw [add_block9]; exact hb) e1
      have x2 := far_cell (uq KW) (by show (ad.add (k * 7)).block < _; rw [add_block9]; exact hb) e2
      have x3 := far_cell (uq KW) (by show (ad.add (k * 7)).block < _; rw [add_block9]; exact hb) e3
      have x4 := far_cell (uq KW) (by show (ad.add (k * 7)).block < _; rw [add_block9]; exact hb) e4
      have x5 := far_cell (uq KW) (by show (ad.add (k * 7)).block < _; rw [add_block9]; exact hb) e5
      have x6 := far_cell (uq KW) (by show (ad.add (k * 7)).block < _; rw [add_block9]; exact hb) e6
      clear e0 e1 e2 e3 e4 e5 e6
      have hbx := heap_alloc_new wr (.cells #[.string (sv (T k)), .slice (X1 k) (N1 k) (C1 k), .slice (X2 k) (N2 k) (C2 k), .slice (X3 k) (N3 k) (C3 k), .slice (X4 k) (N4 k) (C4 k), .slice (X5 k) (N5 k) (C5 k), .int .i64 (P k)] 40)
      have KBq := hide ((uq KW).alloc (.cells #[.string (sv (T k)), .slice (X1 k) (N1 k) (C1 k), .slice (X2 k) (N2 k) (C2 k), .slice (X3 k) (N3 k) (C3 k), .slice (X4 k) (N4 k) (C4 k), .slice (X5 k) (N5 k) (C5 k), .int .i64 (P k)] 40))
      have KAq := hide ((Keep.refl wr).alloc (.cells #[.string (sv (T k)), .slice (X1 k) (N1 k) (C1 k), .slice (X2 k) (N2 k) (C2 k), .slice (X3 k) (N3 k) (C3 k), .slice (X4 k) (N4 k) (C4 k), .slice (X5 k) (N5 k) (C5 k), .int .i64 (P k)] 40))
      go_upto_region 5 with fail
      generalize hwa : wr.alloc (.cells #[.string (sv (T k)), .slice (X1 k) (N1 k) (C1 k), .slice (X2 k) (N2 k) (C2 k), .slice (X3 k) (N3 k) (C3 k), .slice (X4 k) (N4 k) (C4 k), .slice (X5 k) (N5 k) (C5 k), .int .i64 (P k)] 40) = wa at hbx KBq KAq ⊢
      obtain ⟨q, HQq⟩ : ∃ q, Hid (wr.heap.size = q) := ⟨_, hide rfl⟩
      rw [uq HQq] at hbx ⊢
      have HXq : Hid (∀ w' : World, w'.heap[q]? = wa.heap[q]? → w'.cell? ⟨q, 0, none⟩ = some (.string (sv (T k))) ∧ w'.cell? ⟨q, 1, none⟩ = some (.slice (X1 k) (N1 k) (C1 k)) ∧ w'.cell? ⟨q, 2, none⟩ = some (.slice (X2 k) (N2 k) (C2 k)) ∧ w'.cell? ⟨q, 3, none⟩ = some (.slice (X3 k) (N3 k) (C3 k)) ∧ w'.cell? ⟨q, 4, none⟩ = some (.slice (X4 k) (N4 k) (C4 k)) ∧ w'.cell? ⟨q, 5, none⟩ = some (.slice (X5 k) (N5 k) (C5 k)) ∧ w'.cell? ⟨q, 6, none⟩ = some (.int .i64 (P k))) := hide (fun w' h9 => by rw [hbx] at h9; refine ⟨?_, ?_, ?_, ?_, ?_, ?_, ?_⟩ <;> simp [World.cell?, h9])
      have HQLq := hide (Array.getElem?_eq_some_iff.1 hbx).1
      clear hbx hwa x0 x1 x2 x3 x4 x5 x6
      have HMB := hide ((uq MK).keep (uq KAq))
      have HQB : Hid (q ≠ b) := hide (by have := (uq MK).lt; have := uq HQq; omega)
      obtain ⟨f0, f1, f2, f3, f4, f5, f6⟩ := (uq HXq) wa rfl
      by_cases hh : hs (mk T k) (T k) = true
      · have hr := fE_yes (uq HF) hlt (show nsF T R P k = some (71, P k) by unfold nsF; rw [if_pos hh])
        subst hr
        clear HF
        go_wp2_with fail
        (refine (add_yes b (mk T k) (P k) _ (T k) _ (uq HMB) (uq tl) hh).mono ?_; rintro e w2 ⟨rfl, rfl⟩)
        go_wp2_with fail
        exact ⟨rfl, uq KBq, rfl⟩
      have hh0 : hs (mk T k) (T k) = false := by simpa using hh
      have HH0 := hide hh0
      clear hh hh0
      go_wp2_with fail
      (refine (add_no b (mk T k) (P k) _ (T k) _ (uq HMB) (uq tl) (by rw [mk_len]; unfold maxLen; omega) (wf_nat (by omega)) (uq HH0)).mono ?_; rintro e w2 ⟨rfl, hM2, hG2⟩)
      have HM2 : Hid (Mp w2 b (mk T (k + 1))) := hide (by rw [mk_succ]; exact hM2)
      have HK2 := hide (grown_keep (uq KBq) hG2 (by have := uq HB; omega))
      have he2 := hG2.block q (uq HQLq) (by simpa using uq HQB)
      clear hM2 hG2 f0 f1 f2 f3 f4 f5 f6
      obtain ⟨f0, f1, f2, f3, f4, f5, f6⟩ := (uq HXq) w2 he2
      clear he2
      have HRk := hide (show nsF T R P k = R k by unfold nsF; rw [if_neg (by rw [uq HH0]; decide)])
      have TK := hide ((uq TN) k hlt _ (uq HK2))
      obtain ⟨rk, HRR⟩ : ∃ rk, Hid (R k = rk) := ⟨_, hide rfl⟩
      rw [uq HRR] at TK
      go_wp2_with fail
      (refine (uq TK).mono ?_; rintro e w3 hq)
      rcases rk with _ | x
      rotate_left
      · obtain ⟨hk9, rfl⟩ := hq
        have hr := fE_yes (uq HF) hlt ((uq HRk).trans (uq HRR))
        subst hr
        clear HF
        go_wp2_with fail
        exact ⟨rfl, (uq HK2).trans hk9, rfl⟩
      obtain ⟨hk9, rfl⟩ := hq
      have HF2 := hide (fE_no (uq HF) hlt ((uq HRk).trans (uq HRR)))
      have HM3 := hide ((uq HM2).keep hk9)
      have HK3 := hide ((uq HK2).trans hk9)
      clear hk9 HF f0 f1 f2 f3 f4 f5 f6
      go_wp2_with fail
      go_roundw
      case rel => exact ⟨k + 1, by go_num, by omega, HM3, HK3, HF2⟩
      case measure => simp [intOf]; omega
    · have li : ¬ (k : Int) < (n : Int) := by omega
      have hr := fE_end (uq HF) (by omega)
      subst hr
      obtain rfl : k = n := by omega
      go_wp2_with fail
      go_ret
      exact ⟨uq KW, b, rfl, by have := uq HB; omega, uq MK⟩
end V
end Go.Proofs.Ytjincjlalopbfaa
