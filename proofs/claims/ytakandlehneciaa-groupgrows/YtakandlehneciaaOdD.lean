/- Package order: Next, Turned; the document's Turned. -/
import Derived.Test.YtakandlehneciaaOdC
namespace Go.Proofs.Ytakandlehneciaa
open Go.RowKit
attribute [local go_sem ↓] Go.wp_at_zero Go.wp_at_succ
set_option linter.unusedVariables false
set_option linter.unusedSimpArgs false
set_option maxRecDepth 10000
namespace Od
/-- the next one, if there is one -/
def nxB (L : List Int) : Bool := isO L && decide (rank L + 1 < cnt (L.length : Int))
def nxL (L : List Int) : List Int := if nxB L then nth (L.length : Int) (rank L + 1) else []
def Nq (L : List Int) (w : World) (e : Ending) (w' : World) : Prop := ∃ v, e = .returned (.tuple #[v, .bool (nxB L)]) ∧ Keep w w' ∧ Iw w' v (nxL L)
def tnL (L : List Int) : List Int := if isO L then tl L else []
theorem isO_cnt {L : List Int} (h : isO L = true) : rank L < cnt (L.length : Int) ∧ 0 ≤ rank L := by
  obtain ⟨h8, r, _, e, hl⟩ := isO_rk h
  rw [cnt_nat h8, e]; omega
set_option maxHeartbeats 2000000 in
theorem turned_any (v : Value) (L : List Int) (w : World) (h : Is w v L) (hn : L.length ≤ 1000000) : Calls Try.prog 51 #[v] w (Iq (tnL L) w) := by
  have TR := hide (rank_any v L w h hn)
  obtain ⟨a, cap, rfl, h⟩ := h
  have HC := hide h
  clear h
  cases hO : isO L with
  | false =>
    have h1 : tnL L = [] := by unfold tnL; rw [hO]; rfl
    rw [rank_no hO] at TR
    rw [h1]
    generalize L.length = n at *
    clear h1 hO
    go_enter Try.func51, Try.ntmps51
    go_wp2_with fail
    (refine (unhide TR).mono ?_; rintro e w1 ⟨rfl, hk9⟩; have K1 := hide hk9; clear hk9 TR)
    go_wp2_with fail
    go_ret
    exact ⟨_, rfl, unhide K1, iw_nil _⟩
  | true =>
    have h1 : tnL L = tlk L L.length := by unfold tnL; rw [hO, tlk_end hO]; rfl
    rw [h1]
    clear h1
    have hr0 : ¬ (rank L < 0) := by have := isO_cnt hO; omega
    have h8 := (isO_rk hO).1
    have HZ := hide (tlk_zero L)
    have HM : Hid (∀ k, k < L.length → (0 ≤ L.getD k 0 ∧ L.getD k 0 < (L.length : Int)) ∧ (tlk L k).set (L.getD k 0).toNat (k : Int) = tlk L (k + 1)) := hide (fun k hk => ⟨isO_at hO hk, tlk_more hO hk⟩)
    have HLN : Hid (∀ k, (tlk L k).length = L.length) := hide (tlk_len L)
    generalize rank L = r at *
    clear hO
    obtain ⟨n, hL⟩ : ∃ n, L.length = n := ⟨_, rfl⟩
    rw [hL] at hn HC HM HLN HZ TR h8 ⊢
    clear hL
    have hmk := make_any n (by omega)
    obtain ⟨ZZ, hZZ⟩ : ∃ ZZ, ((List.replicate n (0 : Int)).map (Value.int .i64)).toArray = ZZ := ⟨_, rfl⟩
    rw [hZZ] at hmk
    go_enter Try.func51, Try.ntmps51
    go_wp2_with fail
    (refine (unhide TR).mono ?_; rintro e w1 ⟨rfl, hk9⟩; have K1 := hide hk9; clear hk9 TR)
    have R0 : Hid (Rw (w1.alloc (.cells ZZ 3)) w1.heap.size (tlk L 0)) := hide (by
      have := heap_alloc_new w1 (.cells ((List.replicate n (0 : Int)).map (Value.int .i64)).toArray 3)
      rw [unhide HZ, ← hZZ]
      simpa [Rw] using this)
    have K2 := hide ((Keep.refl w1).alloc (.cells ZZ 3))
    clear hZZ HZ
    go_wp2_with fail
    generalize w1.alloc (.cells ZZ 3) = w2 at R0 K2 ⊢
    obtain ⟨S, HS⟩ : ∃ S, Hid (w1.heap.size = S) := ⟨_, hide rfl⟩
    rw [unhide HS] at R0 ⊢
    clear hmk
    go_loopw [14] (fun vi wr => ∃ k : Nat, k ≤ n ∧ vi = .int .i64 (k : Int) ∧ Hid (Rw wr S (tlk L k)) ∧ Hid (Keep w1 wr)) (fun vi _ => n - (intOf vi).toNat)
    case atStart => exact ⟨0, Nat.zero_le _, rfl, R0, K2⟩
    case round =>
      clear R0 K2
      obtain ⟨k, hk, rfl, RW, KW⟩ := hrel
      by_cases hlt : k < n
      · have li : (k : Int) < (n : Int) := by omega
        obtain ⟨ad, rfl, e0⟩ := (unhide HC) k hlt
        have y0 := kc ((unhide K1).trans (unhide KW)) e0
        clear e0
        obtain ⟨⟨hx0, hx1⟩, hst⟩ := (unhide HM) k hlt
        obtain ⟨x, hx⟩ : ∃ x : Nat, L.getD k 0 = (x : Int) := ⟨(L.getD k 0).toNat, by omega⟩
        rw [hx] at hx0 hx1 y0 hst
        rw [Int.toNat_natCast] at hst
        have hu := (unhide RW).cell (i := x) (by rw [unhide HLN]; omega)
        have hf := (unhide RW).fz x
        have R2 : Hid (Rw (wr.setCell ⟨S, x, none⟩ (.int .i64 (k : Int))) S (tlk L (k + 1))) := hide (by rw [← hst]; exact (unhide RW).set _)
        have K2 : Hid (Keep w1 (wr.setCell ⟨S, x, none⟩ (.int .i64 (k : Int)))) := hide (Below.setCell (unhide KW) (by rw [unhide HS]; exact Nat.le_refl _) _)
        clear hst hx
        go_wp2_with fail
        go_roundw
        case rel => exact ⟨k + 1, hlt, by go_num, R2, K2⟩
        case measure => simp [intOf]; omega
      · have li : ¬ (k : Int) < (n : Int) := by omega
        obtain rfl : k = n := by omega
        have HI := hide ((unhide RW).iw (c := k))
        rw [unhide HLN] at HI
        go_wp2_with fail
        go_ret
        exact ⟨_, rfl, (unhide K1).trans (unhide KW), unhide HI⟩
set_option maxHeartbeats 2000000 in
theorem rturned_any (v : Value) (L : List Int) (w : World) (h : Is w v L) (hn : L.length ≤ 1000000) : Calls Try.prog 32 #[v] w (Iq (tnL L) w) := by
  have TR := hide (right_any v L w h hn)
  obtain ⟨a, cap, rfl, h⟩ := h
  have HC := hide h
  clear h
  cases hO : isO L with
  | false =>
    have h1 : tnL L = [] := by unfold tnL; rw [hO]; rfl
    rw [hO] at TR
    rw [h1]
    generalize L.length = n at *
    clear h1 hO
    go_enter Try.func32, Try.ntmps32
    go_wp2_with fail
    (refine (unhide TR).mono ?_; rintro e w1 ⟨rfl, hk9⟩; have K1 := hide hk9; clear hk9 TR)
    go_wp2_with fail
    go_ret
    exact ⟨_, rfl, unhide K1, iw_nil _⟩
  | true =>
    have h1 : tnL L = tlk L L.length := by unfold tnL; rw [hO, tlk_end hO]; rfl
    rw [h1]
    clear h1
    rw [hO] at TR
    have h8 := (isO_rk hO).1
    have HZ := hide (tlk_zero L)
    have HM : Hid (∀ k, k < L.length → (0 ≤ L.getD k 0 ∧ L.getD k 0 < (L.length : Int)) ∧ (tlk L k).set (L.getD k 0).toNat (k : Int) = tlk L (k + 1)) := hide (fun k hk => ⟨isO_at hO hk, tlk_more hO hk⟩)
    have HLN : Hid (∀ k, (tlk L k).length = L.length) := hide (tlk_len L)
    clear hO
    obtain ⟨n, hL⟩ : ∃ n, L.length = n := ⟨_, rfl⟩
    rw [hL] at hn HC HM HLN HZ TR h8 ⊢
    clear hL
    have hmk := make_any n (by omega)
    obtain ⟨ZZ, hZZ⟩ : ∃ ZZ, ((List.replicate n (0 : Int)).map (Value.int .i64)).toArray = ZZ := ⟨_, rfl⟩
    rw [hZZ] at hmk
    go_enter Try.func32, Try.ntmps32
    go_wp2_with fail
    (refine (unhide TR).mono ?_; rintro e w1 ⟨rfl, hk9⟩; have K1 := hide hk9; clear hk9 TR)
    have R0 : Hid (Rw (w1.alloc (.cells ZZ 3)) w1.heap.size (tlk L 0)) := hide (by
      have := heap_alloc_new w1 (.cells ((List.replicate n (0 : Int)).map (Value.int .i64)).toArray 3)
      rw [unhide HZ, ← hZZ]
      simpa [Rw] using this)
    have K2 := hide ((Keep.refl w1).alloc (.cells ZZ 3))
    clear hZZ HZ
    go_wp2_with fail
    generalize w1.alloc (.cells ZZ 3) = w2 at R0 K2 ⊢
    obtain ⟨S, HS⟩ : ∃ S, Hid (w1.heap.size = S) := ⟨_, hide rfl⟩
    rw [unhide HS] at R0 ⊢
    clear hmk
    go_loopw [4] (fun vi wr => ∃ k : Nat, k ≤ n ∧ vi = .int .i64 (k : Int) ∧ Hid (Rw wr S (tlk L k)) ∧ Hid (Keep w1 wr)) (fun vi _ => n - (intOf vi).toNat)
    case atStart => exact ⟨0, Nat.zero_le _, rfl, R0, K2⟩
    case round =>
      clear R0 K2
      obtain ⟨k, hk, rfl, RW, KW⟩ := hrel
      by_cases hlt : k < n
      · have li : (k : Int) < (n : Int) := by omega
        obtain ⟨ad, rfl, e0⟩ := (unhide HC) k hlt
        have y0 := kc ((unhide K1).trans (unhide KW)) e0
        clear e0
        obtain ⟨⟨hx0, hx1⟩, hst⟩ := (unhide HM) k hlt
        obtain ⟨x, hx⟩ : ∃ x : Nat, L.getD k 0 = (x : Int) := ⟨(L.getD k 0).toNat, by omega⟩
        rw [hx] at hx0 hx1 y0 hst
        rw [Int.toNat_natCast] at hst
        have hu := (unhide RW).cell (i := x) (by rw [unhide HLN]; omega)
        have hf := (unhide RW).fz x
        have R2 : Hid (Rw (wr.setCell ⟨S, x, none⟩ (.int .i64 (k : Int))) S (tlk L (k + 1))) := hide (by rw [← hst]; exact (unhide RW).set _)
        have K2 : Hid (Keep w1 (wr.setCell ⟨S, x, none⟩ (.int .i64 (k : Int)))) := hide (Below.setCell (unhide KW) (by rw [unhide HS]; exact Nat.le_refl _) _)
        clear hst hx
        go_wp2_with fail
        go_roundw
        case rel => exact ⟨k + 1, hlt, by go_num, R2, K2⟩
        case measure => simp [intOf]; omega
      · have li : ¬ (k : Int) < (n : Int) := by omega
        obtain rfl : k = n := by omega
        have HI := hide ((unhide RW).iw (c := k))
        rw [unhide HLN] at HI
        go_wp2_with fail
        go_ret
        exact ⟨_, rfl, (unhide K1).trans (unhide KW), unhide HI⟩
end Od
end Go.Proofs.Ytakandlehneciaa
