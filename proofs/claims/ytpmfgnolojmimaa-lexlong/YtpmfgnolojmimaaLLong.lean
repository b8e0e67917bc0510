/- LexLong: the walk. -/
import Derived.Test.YtpmfgnolojmimaaLApp
import Derived.Test.YtpmfgnolojmimaaLRight
namespace Go.Proofs.Ytpmfgnolojmimaa
theorem one_new (w : World) (a : Value) (t : TypeId) : ∀ j u, [a][j]? = some u → (w.alloc (.cells #[a] t)).cell? ((⟨w.heap.size, 0, none⟩ : Addr).add j) = some u := by
  intro j u hj
  rw [add_plain, Nat.zero_add]
  match j, hj with
  | 0, hj =>
    simp at hj; subst hj
    exact World.cell?_alloc_mark w #[a] t (0, 0) 0
  | j + 1, hj => simp at hj
theorem sv_app (a b : List UInt8) : sv a ++ sv b = sv (a ++ b) := by
  apply ByteArray.ext
  simp [sv, ByteArray.data_append]
theorem row_set {w : World} {g : Nat} {cur : Array Value} {t : TypeId} (h : w.heap[g]? = some (.cells cur t (0, 0))) (j : Nat) (v : Value) : (w.setCell ⟨g, j, none⟩ v).heap[g]? = some (.cells (cur.setIfInBounds j v) t (0, 0)) := by
  obtain ⟨hlt, hk⟩ := Array.getElem?_eq_some_iff.1 h
  show (w.heap.modify g _)[g]? = _
  rw [Array.getElem?_eq_getElem (by rw [Array.size_modify]; exact hlt), Array.getElem_modify_self, hk]
  rfl
end Go.Proofs.Ytpmfgnolojmimaa
namespace Go.Proofs.Ytpmfgnolojmimaa.long
open Go.RowKit
attribute [local go_sem ↓] Go.wp_at_zero Go.wp_at_succ
set_option linter.unusedVariables false
set_option linter.unusedSimpArgs false
set_option maxRecDepth 10000
/-- blanks so far -/
def Fl (cur : Array Value) (k : Nat) : Prop := cur.size = 65536 ∧ ∀ j, j < k → cur[j]? = some (.int .u8 32)
theorem fl_set {cur : Array Value} {k : Nat} (h : Fl cur k) (hk : k < 65536) : Fl (cur.setIfInBounds k (.int .u8 32)) (k + 1) := by
  refine ⟨by rw [Array.size_setIfInBounds]; exact h.1, fun j hj => ?_⟩
  by_cases e : j = k
  · subst e
    rw [Array.getElem?_setIfInBounds_self_of_lt (by rw [h.1]; exact hk)]
  · rw [Array.getElem?_setIfInBounds_ne (fun k => e k.symm)]
    exact h.2 j (by omega)
set_option maxHeartbeats 4000000 in
theorem walk1 (w : World) (l1 : List UInt8)
    (HL : Hid (∀ (w' : World) (cur : Array Value), Fl cur 65536 → w'.heap[w.heap.size]? = some (.cells (cur.setIfInBounds 0 (.int .u8 55)) 5 (0, 0)) → w'.ownsRow w.heap.size 5 1 (.slice (some ⟨w.heap.size, 0, none⟩) 65536 65536) 65536 (bc l1)))
    (Hl : Hid (l1.length = 65536))
    (TA : Hid (∀ w' v, By w' v l1 → Calls Try.prog 9 #[v] w' fun e w'' => ∃ ad cp, e = .returned (.tuple #[.slice (some ad) 2 cp, .int .i64 0, .int .i64 0]) ∧ w'.heap.size ≤ ad.block ∧ ad.block < w''.heap.size ∧ w''.cell? ⟨ad.block, ad.off + 4 + 3, none⟩ = some (.int .i64 65536) ∧ Keep w' w''))
    (TB : Hid (∀ w' v, By w' v (l1 ++ [32]) → Calls Try.prog 9 #[v] w' fun e w'' => ∃ u, e = .returned (.tuple #[u, .int .i64 4, .int .i64 65536]) ∧ Keep w' w''))
    (TC : Hid (∀ w' v, By w' v (sv (List.replicate 24 97) ++ ⟨#[32]⟩ ++ sv (List.replicate 18 57)).data.toList → Calls Try.prog 9 #[v] w' fun e w'' => ∃ ad cp, e = .returned (.tuple #[.slice (some ad) 3 cp, .int .i64 0, .int .i64 0]) ∧ ad.block < w''.heap.size ∧ w''.cell? ⟨ad.block, ad.off + 4 + 2, none⟩ = some (.int .i64 999999999999999999) ∧ Keep w' w''))
    (TD : Hid (∀ w' v, By w' v (⟨#[32, 32]⟩ ++ sv (List.replicate 24 97) ++ ⟨#[98]⟩).data.toList → Calls Try.prog 9 #[v] w' fun e w'' => ∃ u, e = .returned (.tuple #[u, .int .i64 4, .int .i64 2]) ∧ Keep w' w''))
    (TE : Hid (∀ w' v, By w' v (⟨#[44]⟩ ++ sv (List.replicate 18 57) ++ ⟨#[57]⟩).data.toList → Calls Try.prog 9 #[v] w' fun e w'' => ∃ u, e = .returned (.tuple #[u, .int .i64 4, .int .i64 1]) ∧ Keep w' w''))
    (T8 : Hid (∀ w', Calls Try.prog 12 #[] w' fun e w'' => e = .returned (.bool true) ∧ Keep w' w'')) :
    Calls Try.prog 7 #[] w fun e w' => e = .returned (.bool true) ∧ Keep w w' := by
  obtain ⟨i0, hi, hz0, hz1, hz2⟩ := info_parts infoY
  obtain ⟨Z, hZ, hmk⟩ : ∃ Z : Array Value, Z.size = 65536 ∧ ∀ w, (Instr.makeSlice 22 (.int .i64 65536) (.int .i64 65536)).run Try.prog w = .ok (.slice (some ⟨w.heap.size, 0, none⟩) 65536 65536) (w.alloc (.cells Z 5)) := by
    refine ⟨madeCells (Value.int .u8 0).cells (65536 * 1), by rw [size_madeCells], fun w => ?_⟩
    have h := run_make (P := Try.prog) w 22 5 i0 _ Try.underlying22 hi hz0 .i64 .i64 (65536 : Int) (65536 : Int) (by omega) (by omega) (by rw [hz2]; omega) (by omega)
    rw [hz1] at h
    exact h
  go_enter Try.func7, Try.ntmps7
  go_wp2_with fail
  go_loopw [2] (fun vi wr => ∃ (k : Nat) (cur : Array Value), k ≤ 65536 ∧ vi = .int .i64 (k : Int) ∧ wr.heap[w.heap.size]? = some (.cells cur 5 (0, 0)) ∧ Hid (Fl cur k) ∧ Hid (Below w.heap.size w wr)) (fun vi _ => 65536 - (intOf vi).toNat)
  case atStart => exact ⟨0, Z, Nat.zero_le _, rfl, (by show (w.heap.push _)[w.heap.size]? = _; simp), hide ⟨hZ, fun j hj => by omega⟩, hide ((Below.refl _ w).alloc (Nat.le_refl _) _)⟩
  case round =>
    obtain ⟨k, cur, hk, rfl, hrow, HF, HB⟩ := hrel
    by_cases hlt : k < 65536
    · have li : (k : Int) < 65536 := by omega
      have hfl := unhide HF
      obtain ⟨x, hx⟩ : ∃ x, cur[k]? = some x := ⟨_, Array.getElem?_eq_getElem (by rw [hfl.1]; exact hlt)⟩
      have hcell : wr.cell? ⟨w.heap.size, k, none⟩ = some x := by simp only [World.cell?, hrow]; exact hx
      have hfz : wr.frozen? ⟨w.heap.size, k, none⟩ = false := by simp [World.frozen?, hrow]
      have HROW := hide hrow
      clear hrow hfl hx
      go_wp2_with fail
      go_roundw
      case rel => exact ⟨k + 1, _, hlt, by go_num, row_set (unhide HROW) k _, hide (fl_set (unhide HF) hlt), hide ((unhide HB).setCell (p := ⟨w.heap.size, k, none⟩) (Nat.le_refl _) _)⟩
      case measure => simp [intOf]; omega
    · have e : k = 65536 := by omega
      subst e
      have hfl := unhide HF
      obtain ⟨x, hx⟩ : ∃ x, cur[0]? = some x := ⟨_, Array.getElem?_eq_getElem (by rw [hfl.1]; decide)⟩
      have hcell : wr.cell? ⟨w.heap.size, 0, none⟩ = some x := by simp only [World.cell?, hrow]; exact hx
      have hfz : wr.frozen? ⟨w.heap.size, 0, none⟩ = false := by simp [World.frozen?, hrow]
      have HR := hide ((unhide HL) _ cur hfl (row_set hrow 0 (.int .u8 55)))
      have HB2 : Hid (Keep w (wr.setCell ⟨w.heap.size, 0, none⟩ (.int .u8 55))) := (unhide HB).setCell (p := ⟨w.heap.size, 0, none⟩) (Nat.le_refl _) _
      clear hrow hfl hx HF HB
      have hw1 : w.heap.size < (wr.setCell ⟨w.heap.size, 0, none⟩ (.int .u8 55)).heap.size := by
        have := (unhide HR).lt _ rfl
        exact this.2
      have HBY : Hid (By (wr.setCell ⟨w.heap.size, 0, none⟩ (.int .u8 55)) (.slice (some ⟨w.heap.size, 0, none⟩) 65536 65536) l1) := by
        have := unhide HR
        rw [← unhide Hl] at this
        have h2 := by_own this
        rw [unhide Hl] at h2
        exact h2
      go_wp2_with fail
      generalize hgw : wr.setCell ⟨w.heap.size, 0, none⟩ (.int .u8 55) = w1 at *
      (refine ((unhide TA) _ _ (unhide HBY)).mono ?_; rintro e w2 ⟨ad, cp, rfl, hlo, hb, hc, hk⟩; have k2 := hide ((unhide HB2).trans hk); have HR2 := hide (own_keep (unhide HR) hk); have hs2 := Below.size hk; have Hc := hide hc; clear hk hc HBY HR HB2 hgw)
      have hbl : w.heap.size < w2.heap.size := by omega
      have hne : ad.block ≠ w.heap.size := by omega
      go_wp2_with (at_builtin; refine wpList_append_own _ rfl _ _ 22 rfl w.heap.size 5 i0 (.int .u8 0) 1 1 Try.underlying22 hi hz0 hz1 hz2 rfl (by decide) _ _ _ rfl ((unhide HR2).alloc _) ⟨w2.heap.size, 0, none⟩ 1 1 [.int .u8 32] rfl rfl (one_new w2 _ _) (by simp [Value.oneCell']) (by unfold maxLen; omega) (by omega) (by rw [World.size_alloc]; omega) ?_; intro v' w3 hown hgrow hnil; have HOWN := hide hown; have HGROW := hide hgrow; clear hown hgrow hnil)
      have k3 : Hid (Keep w w3) := Below.grown ((unhide k2).alloc _) (unhide HGROW) (by rw [World.size_alloc]; omega) (fun j ej => ((unhide HR2).lt j ej).1)
      have Hc3 : Hid (w3.cell? ⟨ad.block, ad.off + 4 + 3, none⟩ = some (.int .i64 65536)) := (unhide HGROW).cell (by rw [Below.cell (p := ⟨ad.block, ad.off + 4 + 3, none⟩) ((Keep.refl w2).alloc _) hb]; exact unhide Hc) (by intro e; injection e with e; exact hne e)
      have hb3 : ad.block < w3.heap.size := by have := (unhide HGROW).size; rw [World.size_alloc] at this; omega
      have HBC : Hid (By w3 v' (l1 ++ [32])) := by
        have := unhide HOWN
        rw [← unhide Hl] at this
        refine by_own (e := 5) (base := w.heap.size) ?_
        rw [bc_append, List.length_append]
        exact this
      clear HOWN HGROW HR2 Hc k2
      (refine ((unhide TB) _ _ (unhide HBC)).mono ?_; rintro e w4 ⟨u4, rfl, hk⟩; have k4 := hide ((unhide k3).trans hk); have Hc4 : Hid (w4.cell? ⟨ad.block, ad.off + 4 + 3, none⟩ = some (.int .i64 65536)) := (by unfold Hid; rw [Below.cell (p := ⟨ad.block, ad.off + 4 + 3, none⟩) hk hb3]; exact unhide Hc3); have hb4 := Nat.lt_of_lt_of_le hb3 (Below.size hk); clear hk Hc3 k3 HBC)
      go_wp2_with fail
      go_loop [9] (fun vs => ∃ k : Nat, k ≤ 24 ∧ vs = .string (sv (List.replicate k 97))) (fun vs => 24 - (match vs with | .string s => s.size | _ => 0))
      case atStart => exact ⟨0, Nat.zero_le _, rfl⟩
      case round =>
        obtain ⟨k, hk, rfl⟩ := hrel
        have hsz := sv_size (List.replicate k (97 : UInt8))
        rw [List.length_replicate] at hsz
        have HSV : Hid (sv (List.replicate k (97 : UInt8)) ++ ⟨#[97]⟩ = sv (List.replicate (k + 1) (97 : UInt8))) := by
          unfold Hid
          rw [List.replicate_succ']
          exact sv_app _ [97]
        by_cases hlt : k < 24
        · generalize sv (List.replicate k 97) = s at *
          have li : (s.size : Int) < 24 := by omega
          have hov : ¬ 9223372036854775807 < s.size + 1 := by omega
          go_wp2_with fail
          rw [unhide HSV]
          refine ⟨⟨k + 1, hlt, rfl⟩, ?_⟩
          show 24 - (sv (List.replicate (k + 1) 97)).size < 24 - s.size
          rw [sv_size, List.length_replicate]
          omega
        · have e : k = 24 := by omega
          subst e
          have HW := hide (⟨_, rfl⟩ : ∃ W, W = sv (List.replicate 24 (97 : UInt8)))
          obtain ⟨W, hW⟩ := unhide HW
          rw [← hW] at hsz ⊢
          have HWv := hide hW
          clear hW HW HSV
          have li : ¬ (W.size : Int) < 24 := by omega
          go_wp2_with fail
          go_loop [10] (fun vs => ∃ k : Nat, k ≤ 18 ∧ vs = .string (sv (List.replicate k 57))) (fun vs => 18 - (match vs with | .string s => s.size | _ => 0))
          case atStart => exact ⟨0, Nat.zero_le _, rfl⟩
          case round =>
            obtain ⟨k, hk, rfl⟩ := hrel
            have hsz2 := sv_size (List.replicate k (57 : UInt8))
            rw [List.length_replicate] at hsz2
            have HSV : Hid (sv (List.replicate k (57 : UInt8)) ++ ⟨#[57]⟩ = sv (List.replicate (k + 1) (57 : UInt8))) := by
              unfold Hid
              rw [List.replicate_succ']
              exact sv_app _ [57]
            by_cases hlt : k < 18
            · generalize sv (List.replicate k 57) = s at *
              have li2 : (s.size : Int) < 18 := by omega
              have hov : ¬ 9223372036854775807 < s.size + 1 := by omega
              go_wp2_with fail
              rw [unhide HSV]
              refine ⟨⟨k + 1, hlt, rfl⟩, ?_⟩
              show 18 - (sv (List.replicate (k + 1) 57)).size < 18 - s.size
              rw [sv_size, List.length_replicate]
              omega
            · have e : k = 18 := by omega
              subst e
              have HN0 := hide (⟨_, rfl⟩ : ∃ N, N = sv (List.replicate 18 (57 : UInt8)))
              obtain ⟨N, hN⟩ := unhide HN0
              rw [← hN] at hsz2 ⊢
              have HNv := hide hN
              clear hN HN0 HSV
              have li2 : ¬ (N.size : Int) < 18 := by omega
              have o1 : ¬ 9223372036854775807 < W.size + 1 := by omega
              have o2 : ¬ 9223372036854775807 < W.size + 1 + N.size := by omega
              have o3 : ¬ 9223372036854775807 < 2 + W.size := by omega
              have o4 : ¬ 9223372036854775807 < 2 + W.size + 1 := by omega
              have o5 : ¬ 9223372036854775807 < 1 + N.size := by omega
              have o6 : ¬ 9223372036854775807 < 1 + N.size + 1 := by omega
              rw [← unhide HWv, ← unhide HNv] at TC
              rw [← unhide HWv] at TD
              rw [← unhide HNv] at TE
              obtain ⟨c1, x1, y1, hcv1, hby1⟩ := by_of w4 (W ++ ⟨#[32]⟩ ++ N)
              replace hcv1 := hcv1 9 22 Try.underlying9 Try.underlying22
              have e1 : (W ++ ⟨#[32]⟩ ++ N).size = 43 := by rw [ByteArray.size_append, ByteArray.size_append, hsz, hsz2]; rfl
              rw [e1] at hcv1 hby1
              have HBY1 := hide hby1
              have ke1 := hide (keep_ext (Keep.refl w4) #[x1] y1)
              clear hby1 e1
              go_wp2_with fail
              (refine ((unhide TC) _ _ (unhide HBY1)).mono ?_; rintro e w5 ⟨bd, bp, rfl, hb5, hc5, hk⟩; have kk := hide ((unhide ke1).trans hk); have k5 := hide ((unhide k4).trans (unhide kk)); have Hd5 := hide hc5; have Hc5 : Hid (w5.cell? ⟨ad.block, ad.off + 4 + 3, none⟩ = some (.int .i64 65536)) := (by unfold Hid; rw [Below.cell (p := ⟨ad.block, ad.off + 4 + 3, none⟩) (unhide kk) hb4]; exact unhide Hc4); have hb5' := Nat.lt_of_lt_of_le hb4 (Below.size (unhide kk)); clear hk hc5 kk Hc4 k4 HBY1 hcv1 ke1)
              obtain ⟨c2, x2, y2, hcv2, hby2⟩ := by_of w5 (⟨#[32, 32]⟩ ++ W ++ ⟨#[98]⟩)
              replace hcv2 := hcv2 9 22 Try.underlying9 Try.underlying22
              have e2 : (⟨#[32, 32]⟩ ++ W ++ ⟨#[98]⟩).size = 27 := by rw [ByteArray.size_append, ByteArray.size_append, hsz]; rfl
              rw [e2] at hcv2 hby2
              have HBY2 := hide hby2
              have ke2 := hide (keep_ext (Keep.refl w5) #[x2] y2)
              clear hby2 e2
              go_wp2_with fail
              (refine ((unhide TD) _ _ (unhide HBY2)).mono ?_; rintro e w6 ⟨u6, rfl, hk⟩; have kk := hide ((unhide ke2).trans hk); have k6 := hide ((unhide k5).trans (unhide kk)); have Hc6 : Hid (w6.cell? ⟨ad.block, ad.off + 4 + 3, none⟩ = some (.int .i64 65536)) := (by unfold Hid; rw [Below.cell (p := ⟨ad.block, ad.off + 4 + 3, none⟩) (unhide kk) hb5']; exact unhide Hc5); have Hd6 : Hid (w6.cell? ⟨bd.block, bd.off + 4 + 2, none⟩ = some (.int .i64 999999999999999999)) := (by unfold Hid; rw [Below.cell (p := ⟨bd.block, bd.off + 4 + 2, none⟩) (unhide kk) hb5]; exact unhide Hd5); have hb6 := Nat.lt_of_lt_of_le hb5' (Below.size (unhide kk)); have hb6' := Nat.lt_of_lt_of_le hb5 (Below.size (unhide kk)); clear hk kk Hc5 Hd5 k5 HBY2 hcv2 ke2)
              obtain ⟨c3, x3, y3, hcv3, hby3⟩ := by_of w6 (⟨#[44]⟩ ++ N ++ ⟨#[57]⟩)
              replace hcv3 := hcv3 9 22 Try.underlying9 Try.underlying22
              have e3 : (⟨#[44]⟩ ++ N ++ ⟨#[57]⟩).size = 20 := by rw [ByteArray.size_append, ByteArray.size_append, hsz2]; rfl
              rw [e3] at hcv3 hby3
              have HBY3 := hide hby3
              have ke3 := hide (keep_ext (Keep.refl w6) #[x3] y3)
              clear hby3 e3
              go_wp2_with fail
              (refine ((unhide TE) _ _ (unhide HBY3)).mono ?_; rintro e w7 ⟨u7, rfl, hk⟩; have kk := hide ((unhide ke3).trans hk); have k7 := hide ((unhide k6).trans (unhide kk)); have hc7 : w7.cell? ⟨ad.block, ad.off + 4 + 3, none⟩ = some (.int .i64 65536) := (by rw [Below.cell (p := ⟨ad.block, ad.off + 4 + 3, none⟩) (unhide kk) hb6]; exact unhide Hc6); have hd7 : w7.cell? ⟨bd.block, bd.off + 4 + 2, none⟩ = some (.int .i64 999999999999999999) := (by rw [Below.cell (p := ⟨bd.block, bd.off + 4 + 2, none⟩) (unhide kk) hb6']; exact unhide Hd6); clear hk kk Hc6 Hd6 k6 HBY3 hcv3 ke3)
              go_wp2_with fail
              (refine ((unhide T8) _).mono ?_; rintro e w8 ⟨rfl, hk⟩; have k8 := hide ((unhide k7).trans hk); clear hk)
              go_wp2_with fail
              go_ret
              exact ⟨rfl, unhide k8⟩
end Go.Proofs.Ytpmfgnolojmimaa.long
