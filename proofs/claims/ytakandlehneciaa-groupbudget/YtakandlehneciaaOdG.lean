/- The document's Orders: all orders of six numbers at most, one behind the other. -/
import Derived.Test.YtakandlehneciaaOdE
namespace Go.Proofs.Ytakandlehneciaa
open Go.RowKit
attribute [local go_sem ↓] Go.wp_at_zero Go.wp_at_succ
set_option linter.unusedVariables false
set_option linter.unusedSimpArgs false
set_option maxRecDepth 10000
namespace Od
theorem lit0_len (w : World) (t t2 : TypeId) : ((w.alloc (.cells #[] t)).alloc (.cells #[.slice (some ⟨w.heap.size, 0, none⟩) 0 0] t2)).heap.size = w.heap.size + 2 := by rw [World.size_alloc, World.size_alloc]
theorem lit0_wr (w : World) : Wr ((w.alloc (.cells #[] 3)).alloc (.cells #[.slice (some ⟨w.heap.size, 0, none⟩) 0 0] 49)) (some ⟨w.heap.size + 1, 0, none⟩) [[]] := by
  have h1 := heap_alloc_new w (.cells #[] 3)
  have h2 := heap_alloc_new (w.alloc (.cells #[] 3)) (.cells #[.slice (some ⟨w.heap.size, 0, none⟩) 0 0] 49)
  rw [World.size_alloc] at h2
  have h3 : ((w.alloc (.cells #[] 3)).alloc (.cells #[.slice (some ⟨w.heap.size, 0, none⟩) 0 0] 49)).heap[w.heap.size]? = some (.cells #[] 3 (0, 0)) := by rw [heap_alloc_old _ _ (by simp)]; exact h1
  intro k hk
  obtain rfl : k = 0 := by simp at hk; omega
  refine ⟨_, .slice (some ⟨w.heap.size, 0, none⟩) 0 0, rfl, ?_, .inr ⟨w.heap.size, 0, #[], rfl, h3, fun k h => by simp at h⟩⟩
  rw [add_pl, Nat.zero_add]
  simp only [World.cell?]
  rw [h2]
  rfl
set_option maxHeartbeats 8000000 in
theorem rorders_yes (n : Nat) (hn : n ≤ 6) (w : World) : Calls Try.prog 59 #[.int .i64 (n : Int)] w (Wq (ordK n n) w) := by
  obtain ⟨i0, hi0, hz00, hz01, hz02⟩ := info_f infoI
  obtain ⟨i1, hi1, hz10, hz11, hz12⟩ := info_f infoR2
  have h0 : ¬ (n : Int) < 0 := by omega
  have h8 : ¬ (8 : Int) < (n : Int) := by omega
  have W0 := hide (lit0_wr w)
  have K0 := hide (((Keep.refl w).alloc (.cells #[] 3)).alloc (.cells #[.slice (some ⟨w.heap.size, 0, none⟩) 0 0] 49))
  go_enter Try.func59, Try.ntmps59
  go_wp2_with fail
  generalize (w.alloc (.cells #[] 3)).alloc (.cells #[.slice (some ⟨w.heap.size, 0, none⟩) 0 0] 49) = w0 at W0 K0 ⊢
  generalize (some ⟨w.heap.size + 1, 0, none⟩ : Option Addr) = va0 at W0 ⊢
  clear h0 h8
  go_loopw [3, 4] (fun vo vi wr => ∃ (i : Nat) (va : Option Addr) (vc : Nat), i ≤ n ∧ vi = .int .i64 (i : Int) ∧ vo = .slice va (ordK n i).length vc ∧ (ordK n i).length ≤ vc ∧ Hid (Wr wr va (ordK n i)) ∧ Hid (Keep w0 wr)) (fun vo vi _ => n - (intOf vi).toNat)
  case atStart => exact ⟨0, va0, 1, Nat.zero_le _, rfl, rfl, Nat.le_refl _, W0, hide (Keep.refl _)⟩
  case round =>
    clear W0
    obtain ⟨i, va, vc, hi, rfl, rfl, hvc, WR, KW⟩ := hrel
    by_cases hlt : i < n
    · have li : (i : Int) < (n : Int) := by omega
      obtain ⟨O, hO⟩ : ∃ O, ordK n i = O := ⟨_, rfl⟩
      have HO1 : Hid (ordK n (i + 1) = stp n O) := hide (by rw [ordK, hO])
      have hst : Hid ((stp n O).length ≤ 100000) := hide (by rw [← unhide HO1]; exact ord_len hn hlt)
      have hrw : Hid (∀ k, k < O.length → (O.getD k []).length = i) := hide (fun k hk => ord_row n i _ (by rw [hO, List.getD_eq_getElem?_getD, List.getElem?_eq_getElem hk]; exact List.getElem_mem hk))
      rw [hO] at WR hvc ⊢
      have hOb : O.length ≤ 100000 := by rw [← hO]; exact ord_len hn hi
      clear hO
      obtain ⟨m, hm⟩ : ∃ m, O.length = m := ⟨_, rfl⟩
      have HM := hide hm
      rw [hm] at hvc hOb ⊢
      clear hm
      obtain ⟨wo, hwo⟩ : ∃ wo, wo = wr := ⟨_, rfl⟩
      subst hwo
      go_wp2_with fail
      go_loopw [5, 6] (fun vm vk wr => ∃ k : Nat, k ≤ m ∧ vk = .int .i64 (k : Int) ∧ Hid (Og wo.heap.size wr vm (stp n (O.take k))) ∧ Hid (Keep wo wr)) (fun vm vk _ => m - (intOf vk).toNat)
      case atStart => exact ⟨0, Nat.zero_le _, rfl, hide (og_nil _ _), hide (Keep.refl _)⟩
      case round =>
        obtain ⟨k, hk, rfl, OGk, KWk⟩ := hrel
        by_cases hkl : k < m
        · have lk : (k : Int) < (m : Int) := by omega
          obtain ⟨ad, u, rfl, c0, hu⟩ := (unhide WR) k (by rw [unhide HM]; exact hkl)
          obtain ⟨ua, uc, hus⟩ := hu.sl
          subst hus
          have hr0 := (unhide hrw) k (by rw [unhide HM]; exact hkl)
          have HST : Hid (stp n (O.take (k + 1)) = stp n (O.take k) ++ nx (O.getD k []) n) := hide (stp_more n O k (by rw [unhide HM]; exact hkl))
          have HSL : Hid ((stp n (O.take k)).length ≤ 100000) := hide (Nat.le_trans (stp_le n O k) (unhide hst))
          have C0 := hide c0
          have U0 := hide hu
          clear c0 hu
          obtain ⟨r, hr⟩ : ∃ r, O.getD k [] = r := ⟨_, rfl⟩
          rw [hr] at hr0 C0 U0 HST
          rw [hr0] at C0 U0
          have hri : r.length ≤ 8 := by omega
          have HRI := hide hr0
          clear hr
          obtain ⟨M, hM⟩ : ∃ M, stp n (O.take k) = M := ⟨_, rfl⟩
          rw [hM] at HST HSL OGk
          clear hM
          obtain ⟨wk, hwk⟩ : ∃ wk, wk = wr := ⟨_, rfl⟩
          subst hwk
          clear hr0
          go_wp2_with fail
          go_loopw [5, 7] (fun vm vx wr => ∃ x : Nat, x ≤ n ∧ vx = .int .i64 (x : Int) ∧ Hid (Og wo.heap.size wr vm (M ++ nx r x)) ∧ Hid (Keep wo wr)) (fun vm vx _ => n - (intOf vx).toNat)
          case atStart => exact ⟨0, Nat.zero_le _, rfl, hide (by simpa [nx, rg] using unhide OGk), KWk⟩
          case round =>
            clear OGk KWk
            obtain ⟨x, hx, rfl, OGx, KWx⟩ := hrel
            by_cases hxl : x < n
            · have lx : (x : Int) < (n : Int) := by omega
              have y0 := kc (unhide KWx) (unhide C0)
              have IU := hide ((unhide U0).keep (unhide KWx))
              have TH := hide (has_any (.slice ua i uc) r (x : Int) wr (unhide IU).is (by omega))
              go_wp2_with fail
              (refine (unhide TH).mono ?_; rintro e w2 ⟨rfl, hk9⟩; have K2 := hide hk9; clear hk9 TH)
              have KW2 := hide ((unhide KWx).trans (unhide K2))
              by_cases hin : (x : Int) ∈ r
              · rw [decide_eq_true hin]
                have HNX : Hid (nx r (x + 1) = nx r x) := hide (by rw [nx_more, decide_eq_true hin]; simp)
                clear hin y0
                go_wp2_with fail
                go_roundw
                case rel => exact ⟨x + 1, hxl, by go_num, hide (by rw [unhide HNX]; exact (unhide OGx).keep (unhide K2)), KW2⟩
                case measure => simp [intOf]; omega
              · rw [decide_eq_false hin]
                have HNX : Hid (M ++ nx r (x + 1) = (M ++ nx r x) ++ [r ++ [(x : Int)]]) := hide (by rw [nx_more, decide_eq_false hin, List.append_assoc]; simp)
                clear hin y0
                obtain ⟨US, hus, hown, hrow⟩ := unhide OGx
                obtain ⟨ao, co, rfl⟩ := own_l hown
                obtain ⟨q, hq⟩ : ∃ q, (M ++ nx r x).length = q := ⟨_, rfl⟩
                have hqb : q ≤ 100010 := by
                  rw [← hq, List.length_append]
                  have := unhide HSL
                  have := nx_le r x
                  omega
                have HQ := hide hq
                have HU := hide hus
                have HRW := hide hrow
                have HO := hide (own_k hown (unhide K2))
                rw [hq] at HO ⊢
                clear hus hown hrow hq
                have y2 := kc (unhide KW2) (unhide C0)
                have IU2 := hide ((unhide IU).keep (unhide K2))
                have KA := hide ((Keep.refl w2).alloc (.cells #[] 3))
                have E0 := hide (e_row w2 3)
                have y3 := kc (unhide KA) y2
                have IU3 := hide ((unhide IU2).keep (unhide KA)).is
                go_wp2_with (first | (at_builtin; refine wpList_append_is _ rfl _ _ 49 rfl w2.heap.size 3 i0 _ Try.underlying49 hi0 hz00 hz01 hz02 rfl _ [] rfl (unhide E0) _ r rfl (unhide IU3) (by show 0 + r.length ≤ 1000000; omega) (Below.size (unhide KA)) ?_; intro v5 w5 hown' hgrow; rw [List.nil_append] at hown'; obtain ⟨a5, c5, rfl⟩ := own_l hown'; have HO5 := hide hown'; have K5 : Hid (Keep w2 w5) := hide (Below.grown (unhide KA) hgrow (Below.size (unhide KA)) (fun j ej => ((unhide E0).lt j ej).1)); clear hown' hgrow; have hs5 := Below.size (unhide K5); have HO5A := hide ((unhide HO5).alloc (.cells #[.int .i64 (x : Int)] 3)); have IX := hide (one_is w5 (x : Int) 3)) | (at_builtin; refine wpList_append_is _ rfl _ _ 49 rfl w2.heap.size 3 i0 _ Try.underlying49 hi0 hz00 hz01 hz02 rfl _ r rfl (unhide HO5A) _ [(x : Int)] rfl (unhide IX) (by show r.length + 1 ≤ 1000000; omega) (by simp; omega) ?_; intro v6 w6 hown' hgrow; obtain ⟨a6, c6, hv6⟩ := own_l hown'; rw [List.length_append] at hv6; have hv6' : v6 = .slice a6 (r.length + 1) c6 := hv6; clear hv6; subst hv6'; have I6 := hide (iw_own hown'); have K6 : Hid (Keep w2 w6) := hide (Below.grown ((unhide K5).alloc _) hgrow (by simp; omega) (fun j ej => ((unhide HO5A).lt j ej).1)); clear hown' hgrow; have hs6 := Below.size (unhide K6); have HOo := hide (own_k (unhide HO) (unhide K6))) | (at_builtin; refine wpList_append_own _ rfl _ _ 28 rfl wo.heap.size 49 i1 _ 1 24 Try.underlying28 hi1 hz10 hz11 hz12 rfl (by decide) _ _ _ rfl ((unhide HOo).alloc _) ⟨w6.heap.size, 0, none⟩ 1 1 [.slice a6 (r.length + 1) c6] rfl rfl (new_v w6 [.slice a6 (r.length + 1) c6] _) (by simp [Value.oneCell']) (by unfold maxLen; omega) (by omega) (by have := Below.size (unhide KW2); simp; omega) ?_; intro v7 w7 hown' hgrow hnil; have HO7 := hide hown'; have HG7 := hide hgrow; clear hown' hgrow hnil))
                have K7 : Hid (Keep wo w7) := hide (Below.grown (((unhide KW2).trans (unhide K6)).alloc (.cells #[.slice a6 (r.length + 1) c6] 49)) (unhide HG7) (by have := Below.size (unhide KW2); simp; omega) (fun j ej => ((unhide HOo).lt j ej).1))
                go_roundw
                case rel =>
                  refine ⟨x + 1, hxl, by go_num, hide ?_, K7⟩
                  rw [unhide HNX]
                  exact og_more (unhide HU) (unhide HQ) ((unhide HOo).alloc _) (fun j hj => (((unhide HRW j hj).keep (unhide K2)).keep (unhide K6)).keep ((Keep.refl _).alloc _)) ((unhide I6).keep ((Keep.refl _).alloc _)) (unhide HO7) (unhide HG7)
                case measure => simp [intOf]; omega
            · have lx : ¬ (x : Int) < (n : Int) := by omega
              obtain rfl : x = n := by omega
              obtain ⟨US, hus, hown, hrow⟩ := unhide OGx
              obtain ⟨ao, co, rfl⟩ := own_l hown
              clear hus hown hrow
              go_wp2_with fail
              go_roundw
              case rel => exact ⟨k + 1, hkl, by go_num, hide (by rw [unhide HST]; exact unhide OGx), KWx⟩
              case measure => simp [intOf]; omega
        · have lk : ¬ (k : Int) < (m : Int) := by omega
          obtain rfl : k = m := by omega
          obtain ⟨US, hus, hown, hrow⟩ := unhide OGk
          obtain ⟨ao, co, rfl⟩ := own_l hown
          clear hus hown hrow
          have HTK : Hid (stp n (O.take k) = ordK n (i + 1)) := hide (by rw [unhide HO1, List.take_of_length_le (by rw [unhide HM]; exact Nat.le_refl _)])
          rw [unhide HTK] at OGk ⊢
          have hcp := (Og.cap (unhide OGk)).1
          go_wp2_with fail
          go_roundw
          case rel => exact ⟨i + 1, ao, co, hlt, by go_num, rfl, hcp, hide (Og.wr (unhide OGk)), hide ((unhide KW).trans (unhide KWk))⟩
          case measure => simp [intOf]; omega
    · have li : ¬ (i : Int) < (n : Int) := by omega
      obtain rfl : i = n := by omega
      go_wp2_with fail
      go_ret
      exact ⟨va, vc, rfl, (unhide K0).trans (unhide KW), hvc, unhide WR⟩
set_option maxHeartbeats 2000000 in
theorem rorders_no (n : Int) (hn : n < 0 ∨ 8 < n) (w : World) : Calls Try.prog 59 #[.int .i64 n] w (Wq [] w) := by
  have K0 := hide (Keep.refl w)
  by_cases h0 : n < 0
  · go_enter Try.func59, Try.ntmps59
    go_wp2_with fail
    go_ret
    exact ⟨none, 0, rfl, unhide K0, Nat.le_refl _, fun k h => by simp at h⟩
  · have h8 : 8 < n := by omega
    go_enter Try.func59, Try.ntmps59
    go_wp2_with fail
    go_ret
    exact ⟨none, 0, rfl, unhide K0, Nat.le_refl _, fun k h => by simp at h⟩
end Od
end Go.Proofs.Ytakandlehneciaa
