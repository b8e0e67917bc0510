/- ShowApart: two networks that have texts have one text just if they are the same, their places aside. For any two networks (greater ones than the law's Few lets in are let by) the law's call returns true, and both read behind it as they read before. -/
import Derived.Test.YtcdnbdajnagfiaaGreatDoorCards
import Derived.Test.YtcdnbdajnagfiaaGreatDoorLKind
import Derived.Test.YtcdnbdajnagfiaaGreatDoorTie
import Derived.Test.YtcdnbdajnagfiaaGreatDoorNInv
import Derived.Test.YtcdnbdajnagfiaaGreatDoorSFwT
import Derived.Test.YtcdnbdajnagfiaaGreatDoorMTf
import Derived.LaidLaws
import Derived.LaidHandle
import Derived.LaidMore
import Derived.SevenTiedAt
import Derived.Deep.DrawnRows
import Derived.Deep.RegionHeld
namespace Go.Proofs.YtcdnbdajnagfiaaGreatDoor.apa
open Go.ChangeShapes Go.WideShapes Go.ChangeAt Go.RowKit
open Go.WideMaps Go.WideElems
attribute [local go_sem ↓] Go.wp_at_zero Go.wp_at_succ
set_option linter.unusedVariables false
set_option linter.unusedSimpArgs false
set_option maxRecDepth 10000
open S
/-- what Show leaves, with an error or without -/
def ShQ (E : Int) (o : List UInt8) (w : World) (e : Ending) (w' : World) : Prop := ∃ a n c, e = .returned (.tuple #[.slice a n c, .int .i64 E]) ∧ n = o.length ∧ By w' (.slice a n c) o ∧ Keep w w'
theorem shq {w : World} {ds : List D} {us : List Value} (hs : ShL netT ds) (hr : Rvs w ds us) (ht : Tab w) : Calls Tryz.prog 8 #[.agg us.toArray] w (ShQ (if netB ds then 0 else 1) (if netB ds then txt ds else []) w) := by
  cases hB : netB ds with
  | false =>
    refine (show_bad hs hB hr).mono ?_
    rintro e w' ⟨rfl, hk⟩
    exact ⟨none, 0, 0, rfl, rfl, ⟨none, 0, rfl, Nat.le_refl _, fun k hk => by simp at hk⟩, hk⟩
  | true =>
    refine (show_any hs hB hr ht).mono ?_
    rintro e w' ⟨v, rfl, hb, hk⟩
    obtain ⟨a, cap, rfl⟩ := hb.shape
    exact ⟨a, _, cap, rfl, rfl, hb, hk⟩
set_option maxHeartbeats 8000000 in
theorem no1 (a0 a1 a2 a3 a4 : Int) (aN : Option Addr) (nN cN : Nat) (aS : Option Addr) (nS cS : Nat) (a5 a6 : Int) (b0 b1 b2 b3 b4 : Int) (bN : Option Addr) (mN dN : Nat) (bS : Option Addr) (mS dS : Nat) (b5 b6 : Int) (E1 E2 : Int) (o1 o2 : List UInt8) (g1 : (E1 != 0) = true) (w : World)
    (TF1 : Hid (∀ w', Keep w w' → Calls Tryz.prog 7 #[.agg #[.int .i64 a0, .int .i64 a1, .int .i64 a2, .int .i64 a3, .int .i64 a4, .slice aN nN cN, .slice aS nS cS, .int .i64 a5, .int .i64 a6]] w' (Ak w')))
    (TF2 : Hid (∀ w', Keep w w' → Calls Tryz.prog 7 #[.agg #[.int .i64 b0, .int .i64 b1, .int .i64 b2, .int .i64 b3, .int .i64 b4, .slice bN mN dN, .slice bS mS dS, .int .i64 b5, .int .i64 b6]] w' (Ak w')))
    (TS1 : Hid (∀ w', Keep w w' → Calls Tryz.prog 8 #[.agg #[.int .i64 a0, .int .i64 a1, .int .i64 a2, .int .i64 a3, .int .i64 a4, .slice aN nN cN, .slice aS nS cS, .int .i64 a5, .int .i64 a6]] w' (ShQ E1 o1 w')))
    (TS2 : Hid (∀ w', Keep w w' → Calls Tryz.prog 8 #[.agg #[.int .i64 b0, .int .i64 b1, .int .i64 b2, .int .i64 b3, .int .i64 b4, .slice bN mN dN, .slice bS mS dS, .int .i64 b5, .int .i64 b6]] w' (ShQ E2 o2 w')))
    (TA : Hid (∀ w', Keep w w' → Calls Tryz.prog 12 #[] w' fun e w'' => e = .returned (.bool true) ∧ Keep w' w'')) :
    Calls Tryz.prog 6 #[.agg #[.int .i64 a0, .int .i64 a1, .int .i64 a2, .int .i64 a3, .int .i64 a4, .slice aN nN cN, .slice aS nS cS, .int .i64 a5, .int .i64 a6], .agg #[.int .i64 b0, .int .i64 b1, .int .i64 b2, .int .i64 b3, .int .i64 b4, .slice bN mN dN, .slice bS mS dS, .int .i64 b5, .int .i64 b6]] w fun e w' => e = .returned (.bool true) ∧ Keep w w' := by
  go_enter Tryz.func6, Tryz.ntmps6
  go_upto_region 1 with fail
  have HK1 := hide (((Keep.refl w).alloc (.cells #[.int .i64 a0, .int .i64 a1, .int .i64 a2, .int .i64 a3, .int .i64 a4, .slice aN nN cN, .slice aS nS cS, .int .i64 a5, .int .i64 a6] 27)).alloc (.cells #[.int .i64 b0, .int .i64 b1, .int .i64 b2, .int .i64 b3, .int .i64 b4, .slice bN mN dN, .slice bS mS dS, .int .i64 b5, .int .i64 b6] 27))
  have hy := heap_alloc_new (w.alloc (.cells #[.int .i64 a0, .int .i64 a1, .int .i64 a2, .int .i64 a3, .int .i64 a4, .slice aN nN cN, .slice aS nS cS, .int .i64 a5, .int .i64 a6] 27)) (.cells #[.int .i64 b0, .int .i64 b1, .int .i64 b2, .int .i64 b3, .int .i64 b4, .slice bN mN dN, .slice bS mS dS, .int .i64 b5, .int .i64 b6] 27)
  rw [World.size_alloc] at hy
  have hx : ((w.alloc (.cells #[.int .i64 a0, .int .i64 a1, .int .i64 a2, .int .i64 a3, .int .i64 a4, .slice aN nN cN, .slice aS nS cS, .int .i64 a5, .int .i64 a6] 27)).alloc (.cells #[.int .i64 b0, .int .i64 b1, .int .i64 b2, .int .i64 b3, .int .i64 b4, .slice bN mN dN, .slice bS mS dS, .int .i64 b5, .int .i64 b6] 27)).heap[w.heap.size]? = some (.cells #[.int .i64 a0, .int .i64 a1, .int .i64 a2, .int .i64 a3, .int .i64 a4, .slice aN nN cN, .slice aS nS cS, .int .i64 a5, .int .i64 a6] 27 (0, 0)) := by rw [heap_alloc_old _ _ (by simp)]; exact heap_alloc_new w _
  generalize (w.alloc (.cells #[.int .i64 a0, .int .i64 a1, .int .i64 a2, .int .i64 a3, .int .i64 a4, .slice aN nN cN, .slice aS nS cS, .int .i64 a5, .int .i64 a6] 27)).alloc (.cells #[.int .i64 b0, .int .i64 b1, .int .i64 b2, .int .i64 b3, .int .i64 b4, .slice bN mN dN, .slice bS mS dS, .int .i64 b5, .int .i64 b6] 27) = w1 at HK1 hx hy ⊢
  generalize w.heap.size + 1 = yb at hy ⊢
  generalize w.heap.size = xb at hx ⊢
  have HX : Hid (∀ w', Keep w1 w' → w'.cell? ⟨xb, 0, none⟩ = some (.int .i64 a0) ∧ w'.cell? ⟨xb, 1, none⟩ = some (.int .i64 a1) ∧ w'.cell? ⟨xb, 2, none⟩ = some (.int .i64 a2) ∧ w'.cell? ⟨xb, 3, none⟩ = some (.int .i64 a3) ∧ w'.cell? ⟨xb, 4, none⟩ = some (.int .i64 a4) ∧ w'.cell? ⟨xb, 5, none⟩ = some (.slice aN nN cN) ∧ w'.cell? ⟨xb, 6, none⟩ = some (.slice aS nS cS) ∧ w'.cell? ⟨xb, 7, none⟩ = some (.int .i64 a5) ∧ w'.cell? ⟨xb, 8, none⟩ = some (.int .i64 a6)) := hide (fun w' k9 => by have h := k9.block xb (Array.getElem?_eq_some_iff.1 hx).1; rw [hx] at h; refine ⟨?_, ?_, ?_, ?_, ?_, ?_, ?_, ?_, ?_⟩ <;> simp [World.cell?, h])
  have HY : Hid (∀ w', Keep w1 w' → w'.cell? ⟨yb, 0, none⟩ = some (.int .i64 b0) ∧ w'.cell? ⟨yb, 1, none⟩ = some (.int .i64 b1) ∧ w'.cell? ⟨yb, 2, none⟩ = some (.int .i64 b2) ∧ w'.cell? ⟨yb, 3, none⟩ = some (.int .i64 b3) ∧ w'.cell? ⟨yb, 4, none⟩ = some (.int .i64 b4) ∧ w'.cell? ⟨yb, 5, none⟩ = some (.slice bN mN dN) ∧ w'.cell? ⟨yb, 6, none⟩ = some (.slice bS mS dS) ∧ w'.cell? ⟨yb, 7, none⟩ = some (.int .i64 b5) ∧ w'.cell? ⟨yb, 8, none⟩ = some (.int .i64 b6)) := hide (fun w' k9 => by have h := k9.block yb (Array.getElem?_eq_some_iff.1 hy).1; rw [hy] at h; refine ⟨?_, ?_, ?_, ?_, ?_, ?_, ?_, ?_, ?_⟩ <;> simp [World.cell?, h])
  clear hx hy
  obtain ⟨p0, p1, p2, p3, p4, p5, p6, p7, p8⟩ := (uq HX) w1 (Keep.refl _)
  go_wp2_with fail
  (refine ((uq TF1) _ (uq HK1)).mono ?_; rintro e w2 ⟨b, rfl, hk⟩; have HL2 := hide hk; have HK2 := hide ((uq HK1).trans hk); clear hk)
  clear p0 p1 p2 p3 p4 p5 p6 p7 p8
  cases b
  · go_wp2_with fail
    go_ret
    exact ⟨rfl, uq HK2⟩
  obtain ⟨p0, p1, p2, p3, p4, p5, p6, p7, p8⟩ := (uq HY) w2 (uq HL2)
  go_wp2_with fail
  (refine ((uq TF2) _ (uq HK2)).mono ?_; rintro e w3 ⟨b, rfl, hk⟩; have HL3 := hide ((uq HL2).trans hk); have HK3 := hide ((uq HK2).trans hk); clear hk)
  clear p0 p1 p2 p3 p4 p5 p6 p7 p8
  cases b
  · go_wp2_with fail
    go_ret
    exact ⟨rfl, uq HK3⟩
  obtain ⟨p0, p1, p2, p3, p4, p5, p6, p7, p8⟩ := (uq HX) w3 (uq HL3)
  go_wp2_with fail
  (refine ((uq TS1) _ (uq HK3)).mono ?_; rintro e w4 ⟨s1, l1, c1, rfl, hn, hb, hk⟩; have HB4 := hide hb; have HN4 := hide hn; have HM4 := hide hk; have HL4 := hide ((uq HL3).trans hk); have HK4 := hide ((uq HK3).trans hk); clear hk hb hn)
  clear p0 p1 p2 p3 p4 p5 p6 p7 p8
  obtain ⟨p0, p1, p2, p3, p4, p5, p6, p7, p8⟩ := (uq HY) w4 (uq HL4)
  go_wp2_with fail
  (refine ((uq TS2) _ (uq HK4)).mono ?_; rintro e w5 ⟨s2, l2, c2, rfl, hn, hb, hk⟩; have HB5 := hide hb; have HN5 := hide hn; have HM5 := hide hk; have HL5 := hide ((uq HL4).trans hk); have HK5 := hide ((uq HK4).trans hk); clear hk hb hn)
  clear p0 p1 p2 p3 p4 p5 p6 p7 p8
  go_wp2_with fail
  (refine ((uq TA) _ (uq HK5)).mono ?_; rintro e w6 ⟨rfl, hk⟩; have HK6 := hide ((uq HK5).trans hk); clear hk)
  go_wp2_with fail
  go_ret
  exact ⟨rfl, uq HK6⟩
set_option maxHeartbeats 8000000 in
theorem no2 (a0 a1 a2 a3 a4 : Int) (aN : Option Addr) (nN cN : Nat) (aS : Option Addr) (nS cS : Nat) (a5 a6 : Int) (b0 b1 b2 b3 b4 : Int) (bN : Option Addr) (mN dN : Nat) (bS : Option Addr) (mS dS : Nat) (b5 b6 : Int) (E2 : Int) (o1 o2 : List UInt8) (g2 : (E2 != 0) = true) (w : World)
    (TF1 : Hid (∀ w', Keep w w' → Calls Tryz.prog 7 #[.agg #[.int .i64 a0, .int .i64 a1, .int .i64 a2, .int .i64 a3, .int .i64 a4, .slice aN nN cN, .slice aS nS cS, .int .i64 a5, .int .i64 a6]] w' (Ak w')))
    (TF2 : Hid (∀ w', Keep w w' → Calls Tryz.prog 7 #[.agg #[.int .i64 b0, .int .i64 b1, .int .i64 b2, .int .i64 b3, .int .i64 b4, .slice bN mN dN, .slice bS mS dS, .int .i64 b5, .int .i64 b6]] w' (Ak w')))
    (TS1 : Hid (∀ w', Keep w w' → Calls Tryz.prog 8 #[.agg #[.int .i64 a0, .int .i64 a1, .int .i64 a2, .int .i64 a3, .int .i64 a4, .slice aN nN cN, .slice aS nS cS, .int .i64 a5, .int .i64 a6]] w' (ShQ 0 o1 w')))
    (TS2 : Hid (∀ w', Keep w w' → Calls Tryz.prog 8 #[.agg #[.int .i64 b0, .int .i64 b1, .int .i64 b2, .int .i64 b3, .int .i64 b4, .slice bN mN dN, .slice bS mS dS, .int .i64 b5, .int .i64 b6]] w' (ShQ E2 o2 w')))
    (TA : Hid (∀ w', Keep w w' → Calls Tryz.prog 12 #[] w' fun e w'' => e = .returned (.bool true) ∧ Keep w' w'')) :
    Calls Tryz.prog 6 #[.agg #[.int .i64 a0, .int .i64 a1, .int .i64 a2, .int .i64 a3, .int .i64 a4, .slice aN nN cN, .slice aS nS cS, .int .i64 a5, .int .i64 a6], .agg #[.int .i64 b0, .int .i64 b1, .int .i64 b2, .int .i64 b3, .int .i64 b4, .slice bN mN dN, .slice bS mS dS, .int .i64 b5, .int .i64 b6]] w fun e w' => e = .returned (.bool true) ∧ Keep w w' := by
  go_enter Tryz.func6, Tryz.ntmps6
  go_upto_region 1 with fail
  have HK1 := hide (((Keep.refl w).alloc (.cells #[.int .i64 a0, .int .i64 a1, .int .i64 a2, .int .i64 a3, .int .i64 a4, .slice aN nN cN, .slice aS nS cS, .int .i64 a5, .int .i64 a6] 27)).alloc (.cells #[.int .i64 b0, .int .i64 b1, .int .i64 b2, .int .i64 b3, .int .i64 b4, .slice bN mN dN, .slice bS mS dS, .int .i64 b5, .int .i64 b6] 27))
  have hy := heap_alloc_new (w.alloc (.cells #[.int .i64 a0, .int .i64 a1, .int .i64 a2, .int .i64 a3, .int .i64 a4, .slice aN nN cN, .slice aS nS cS, .int .i64 a5, .int .i64 a6] 27)) (.cells #[.int .i64 b0, .int .i64 b1, .int .i64 b2, .int .i64 b3, .int .i64 b4, .slice bN mN dN, .slice bS mS dS, .int .i64 b5, .int .i64 b6] 27)
  rw [World.size_alloc] at hy
  have hx : ((w.alloc (.cells #[.int .i64 a0, .int .i64 a1, .int .i64 a2, .int .i64 a3, .int .i64 a4, .slice aN nN cN, .slice aS nS cS, .int .i64 a5, .int .i64 a6] 27)).alloc (.cells #[.int .i64 b0, .int .i64 b1, .int .i64 b2, .int .i64 b3, .int .i64 b4, .slice bN mN dN, .slice bS mS dS, .int .i64 b5, .int .i64 b6] 27)).heap[w.heap.size]? = some (.cells #[.int .i64 a0, .int .i64 a1, .int .i64 a2, .int .i64 a3, .int .i64 a4, .slice aN nN cN, .slice aS nS cS, .int .i64 a5, .int .i64 a6] 27 (0, 0)) := by rw [heap_alloc_old _ _ (by simp)]; exact heap_alloc_new w _
  generalize (w.alloc (.cells #[.int .i64 a0, .int .i64 a1, .int .i64 a2, .int .i64 a3, .int .i64 a4, .slice aN nN cN, .slice aS nS cS, .int .i64 a5, .int .i64 a6] 27)).alloc (.cells #[.int .i64 b0, .int .i64 b1, .int .i64 b2, .int .i64 b3, .int .i64 b4, .slice bN mN dN, .slice bS mS dS, .int .i64 b5, .int .i64 b6] 27) = w1 at HK1 hx hy ⊢
  generalize w.heap.size + 1 = yb at hy ⊢
  generalize w.heap.size = xb at hx ⊢
  have HX : Hid (∀ w', Keep w1 w' → w'.cell? ⟨xb, 0, none⟩ = some (.int .i64 a0) ∧ w'.cell? ⟨xb, 1, none⟩ = some (.int .i64 a1) ∧ w'.cell? ⟨xb, 2, none⟩ = some (.int .i64 a2) ∧ w'.cell? ⟨xb, 3, none⟩ = some (.int .i64 a3) ∧ w'.cell? ⟨xb, 4, none⟩ = some (.int .i64 a4) ∧ w'.cell? ⟨xb, 5, none⟩ = some (.slice aN nN cN) ∧ w'.cell? ⟨xb, 6, none⟩ = some (.slice aS nS cS) ∧ w'.cell? ⟨xb, 7, none⟩ = some (.int .i64 a5) ∧ w'.cell? ⟨xb, 8, none⟩ = some (.int .i64 a6)) := hide (fun w' k9 => by have h := k9.block xb (Array.getElem?_eq_some_iff.1 hx).1; rw [hx] at h; refine ⟨?_, ?_, ?_, ?_, ?_, ?_, ?_, ?_, ?_⟩ <;> simp [World.cell?, h])
  have HY : Hid (∀ w', Keep w1 w' → w'.cell? ⟨yb, 0, none⟩ = some (.int .i64 b0) ∧ w'.cell? ⟨yb, 1, none⟩ = some (.int .i64 b1) ∧ w'.cell? ⟨yb, 2, none⟩ = some (.int .i64 b2) ∧ w'.cell? ⟨yb, 3, none⟩ = some (.int .i64 b3) ∧ w'.cell? ⟨yb, 4, none⟩ = some (.int .i64 b4) ∧ w'.cell? ⟨yb, 5, none⟩ = some (.slice bN mN dN) ∧ w'.cell? ⟨yb, 6, none⟩ = some (.slice bS mS dS) ∧ w'.cell? ⟨yb, 7, none⟩ = some (.int .i64 b5) ∧ w'.cell? ⟨yb, 8, none⟩ = some (.int .i64 b6)) := hide (fun w' k9 => by have h := k9.block yb (Array.getElem?_eq_some_iff.1 hy).1; rw [hy] at h; refine ⟨?_, ?_, ?_, ?_, ?_, ?_, ?_, ?_, ?_⟩ <;> simp [World.cell?, h])
  clear hx hy
  obtain ⟨p0, p1, p2, p3, p4, p5, p6, p7, p8⟩ := (uq HX) w1 (Keep.refl _)
  go_wp2_with fail
  (refine ((uq TF1) _ (uq HK1)).mono ?_; rintro e w2 ⟨b, rfl, hk⟩; have HL2 := hide hk; have HK2 := hide ((uq HK1).trans hk); clear hk)
  clear p0 p1 p2 p3 p4 p5 p6 p7 p8
  cases b
  · go_wp2_with fail
    go_ret
    exact ⟨rfl, uq HK2⟩
  obtain ⟨p0, p1, p2, p3, p4, p5, p6, p7, p8⟩ := (uq HY) w2 (uq HL2)
  go_wp2_with fail
  (refine ((uq TF2) _ (uq HK2)).mono ?_; rintro e w3 ⟨b, rfl, hk⟩; have HL3 := hide ((uq HL2).trans hk); have HK3 := hide ((uq HK2).trans hk); clear hk)
  clear p0 p1 p2 p3 p4 p5 p6 p7 p8
  cases b
  · go_wp2_with fail
    go_ret
    exact ⟨rfl, uq HK3⟩
  obtain ⟨p0, p1, p2, p3, p4, p5, p6, p7, p8⟩ := (uq HX) w3 (uq HL3)
  go_wp2_with fail
  (refine ((uq TS1) _ (uq HK3)).mono ?_; rintro e w4 ⟨s1, l1, c1, rfl, hn, hb, hk⟩; have HB4 := hide hb; have HN4 := hide hn; have HM4 := hide hk; have HL4 := hide ((uq HL3).trans hk); have HK4 := hide ((uq HK3).trans hk); clear hk hb hn)
  clear p0 p1 p2 p3 p4 p5 p6 p7 p8
  obtain ⟨p0, p1, p2, p3, p4, p5, p6, p7, p8⟩ := (uq HY) w4 (uq HL4)
  go_wp2_with fail
  (refine ((uq TS2) _ (uq HK4)).mono ?_; rintro e w5 ⟨s2, l2, c2, rfl, hn, hb, hk⟩; have HB5 := hide hb; have HN5 := hide hn; have HM5 := hide hk; have HL5 := hide ((uq HL4).trans hk); have HK5 := hide ((uq HK4).trans hk); clear hk hb hn)
  clear p0 p1 p2 p3 p4 p5 p6 p7 p8
  go_wp2_with fail
  (refine ((uq TA) _ (uq HK5)).mono ?_; rintro e w6 ⟨rfl, hk⟩; have HK6 := hide ((uq HK5).trans hk); clear hk)
  go_wp2_with fail
  go_ret
  exact ⟨rfl, uq HK6⟩
set_option maxHeartbeats 16000000 in
theorem yes (a0 a1 a2 a3 a4 : Int) (aN : Option Addr) (nN cN : Nat) (aS : Option Addr) (nS cS : Nat) (a5 a6 : Int) (b0 b1 b2 b3 b4 : Int) (bN : Option Addr) (mN dN : Nat) (bS : Option Addr) (mS dS : Nat) (b5 b6 : Int) (o1 o2 : List UInt8) (S1 S2 : ByteArray) (r : Bool) (HS1 : Hid (sv o1 = S1)) (HS2 : Hid (sv o2 = S2)) (hE : (S1.toList == S2.toList) = r) (w : World)
    (TF1 : Hid (∀ w', Keep w w' → Calls Tryz.prog 7 #[.agg #[.int .i64 a0, .int .i64 a1, .int .i64 a2, .int .i64 a3, .int .i64 a4, .slice aN nN cN, .slice aS nS cS, .int .i64 a5, .int .i64 a6]] w' (Ak w')))
    (TF2 : Hid (∀ w', Keep w w' → Calls Tryz.prog 7 #[.agg #[.int .i64 b0, .int .i64 b1, .int .i64 b2, .int .i64 b3, .int .i64 b4, .slice bN mN dN, .slice bS mS dS, .int .i64 b5, .int .i64 b6]] w' (Ak w')))
    (TS1 : Hid (∀ w', Keep w w' → Calls Tryz.prog 8 #[.agg #[.int .i64 a0, .int .i64 a1, .int .i64 a2, .int .i64 a3, .int .i64 a4, .slice aN nN cN, .slice aS nS cS, .int .i64 a5, .int .i64 a6]] w' (ShQ 0 o1 w')))
    (TS2 : Hid (∀ w', Keep w w' → Calls Tryz.prog 8 #[.agg #[.int .i64 b0, .int .i64 b1, .int .i64 b2, .int .i64 b3, .int .i64 b4, .slice bN mN dN, .slice bS mS dS, .int .i64 b5, .int .i64 b6]] w' (ShQ 0 o2 w')))
    (TA : Hid (∀ w', Keep w w' → Calls Tryz.prog 12 #[] w' fun e w'' => e = .returned (.bool true) ∧ Keep w' w''))
    (TM : Hid (∀ w', Keep w w' → Calls Tryz.prog 14 #[.agg #[.int .i64 a0, .int .i64 a1, .int .i64 a2, .int .i64 a3, .int .i64 a4, .slice aN nN cN, .slice aS nS cS, .int .i64 a5, .int .i64 a6], .agg #[.int .i64 b0, .int .i64 b1, .int .i64 b2, .int .i64 b3, .int .i64 b4, .slice bN mN dN, .slice bS mS dS, .int .i64 b5, .int .i64 b6], .bool false] w' fun e w'' => e = .returned (.bool r) ∧ Keep w' w'')) :
    Calls Tryz.prog 6 #[.agg #[.int .i64 a0, .int .i64 a1, .int .i64 a2, .int .i64 a3, .int .i64 a4, .slice aN nN cN, .slice aS nS cS, .int .i64 a5, .int .i64 a6], .agg #[.int .i64 b0, .int .i64 b1, .int .i64 b2, .int .i64 b3, .int .i64 b4, .slice bN mN dN, .slice bS mS dS, .int .i64 b5, .int .i64 b6]] w fun e w' => e = .returned (.bool true) ∧ Keep w w' := by
  go_enter Tryz.func6, Tryz.ntmps6
  go_upto_region 1 with fail
  have HK1 := hide (((Keep.refl w).alloc (.cells #[.int .i64 a0, .int .i64 a1, .int .i64 a2, .int .i64 a3, .int .i64 a4, .slice aN nN cN, .slice aS nS cS, .int .i64 a5, .int .i64 a6] 27)).alloc (.cells #[.int .i64 b0, .int .i64 b1, .int .i64 b2, .int .i64 b3, .int .i64 b4, .slice bN mN dN, .slice bS mS dS, .int .i64 b5, .int .i64 b6] 27))
  have hy := heap_alloc_new (w.alloc (.cells #[.int .i64 a0, .int .i64 a1, .int .i64 a2, .int .i64 a3, .int .i64 a4, .slice aN nN cN, .slice aS nS cS, .int .i64 a5, .int .i64 a6] 27)) (.cells #[.int .i64 b0, .int .i64 b1, .int .i64 b2, .int .i64 b3, .int .i64 b4, .slice bN mN dN, .slice bS mS dS, .int .i64 b5, .int .i64 b6] 27)
  rw [World.size_alloc] at hy
  have hx : ((w.alloc (.cells #[.int .i64 a0, .int .i64 a1, .int .i64 a2, .int .i64 a3, .int .i64 a4, .slice aN nN cN, .slice aS nS cS, .int .i64 a5, .int .i64 a6] 27)).alloc (.cells #[.int .i64 b0, .int .i64 b1, .int .i64 b2, .int .i64 b3, .int .i64 b4, .slice bN mN dN, .slice bS mS dS, .int .i64 b5, .int .i64 b6] 27)).heap[w.heap.size]? = some (.cells #[.int .i64 a0, .int .i64 a1, .int .i64 a2, .int .i64 a3, .int .i64 a4, .slice aN nN cN, .slice aS nS cS, .int .i64 a5, .int .i64 a6] 27 (0, 0)) := by rw [heap_alloc_old _ _ (by simp)]; exact heap_alloc_new w _
  generalize (w.alloc (.cells #[.int .i64 a0, .int .i64 a1, .int .i64 a2, .int .i64 a3, .int .i64 a4, .slice aN nN cN, .slice aS nS cS, .int .i64 a5, .int .i64 a6] 27)).alloc (.cells #[.int .i64 b0, .int .i64 b1, .int .i64 b2, .int .i64 b3, .int .i64 b4, .slice bN mN dN, .slice bS mS dS, .int .i64 b5, .int .i64 b6] 27) = w1 at HK1 hx hy ⊢
  generalize w.heap.size + 1 = yb at hy ⊢
  generalize w.heap.size = xb at hx ⊢
  have HX : Hid (∀ w', Keep w1 w' → w'.cell? ⟨xb, 0, none⟩ = some (.int .i64 a0) ∧ w'.cell? ⟨xb, 1, none⟩ = some (.int .i64 a1) ∧ w'.cell? ⟨xb, 2, none⟩ = some (.int .i64 a2) ∧ w'.cell? ⟨xb, 3, none⟩ = some (.int .i64 a3) ∧ w'.cell? ⟨xb, 4, none⟩ = some (.int .i64 a4) ∧ w'.cell? ⟨xb, 5, none⟩ = some (.slice aN nN cN) ∧ w'.cell? ⟨xb, 6, none⟩ = some (.slice aS nS cS) ∧ w'.cell? ⟨xb, 7, none⟩ = some (.int .i64 a5) ∧ w'.cell? ⟨xb, 8, none⟩ = some (.int .i64 a6)) := hide (fun w' k9 => by have h := k9.block xb (Array.getElem?_eq_some_iff.1 hx).1; rw [hx] at h; refine ⟨?_, ?_, ?_, ?_, ?_, ?_, ?_, ?_, ?_⟩ <;> simp [World.cell?, h])
  have HY : Hid (∀ w', Keep w1 w' → w'.cell? ⟨yb, 0, none⟩ = some (.int .i64 b0) ∧ w'.cell? ⟨yb, 1, none⟩ = some (.int .i64 b1) ∧ w'.cell? ⟨yb, 2, none⟩ = some (.int .i64 b2) ∧ w'.cell? ⟨yb, 3, none⟩ = some (.int .i64 b3) ∧ w'.cell? ⟨yb, 4, none⟩ = some (.int .i64 b4) ∧ w'.cell? ⟨yb, 5, none⟩ = some (.slice bN mN dN) ∧ w'.cell? ⟨yb, 6, none⟩ = some (.slice bS mS dS) ∧ w'.cell? ⟨yb, 7, none⟩ = some (.int .i64 b5) ∧ w'.cell? ⟨yb, 8, none⟩ = some (.int .i64 b6)) := hide (fun w' k9 => by have h := k9.block yb (Array.getElem?_eq_some_iff.1 hy).1; rw [hy] at h; refine ⟨?_, ?_, ?_, ?_, ?_, ?_, ?_, ?_, ?_⟩ <;> simp [World.cell?, h])
  clear hx hy
  obtain ⟨p0, p1, p2, p3, p4, p5, p6, p7, p8⟩ := (uq HX) w1 (Keep.refl _)
  go_wp2_with fail
  (refine ((uq TF1) _ (uq HK1)).mono ?_; rintro e w2 ⟨b, rfl, hk⟩; have HL2 := hide hk; have HK2 := hide ((uq HK1).trans hk); clear hk)
  clear p0 p1 p2 p3 p4 p5 p6 p7 p8
  cases b
  · go_wp2_with fail
    go_ret
    exact ⟨rfl, uq HK2⟩
  obtain ⟨p0, p1, p2, p3, p4, p5, p6, p7, p8⟩ := (uq HY) w2 (uq HL2)
  go_wp2_with fail
  (refine ((uq TF2) _ (uq HK2)).mono ?_; rintro e w3 ⟨b, rfl, hk⟩; have HL3 := hide ((uq HL2).trans hk); have HK3 := hide ((uq HK2).trans hk); clear hk)
  clear p0 p1 p2 p3 p4 p5 p6 p7 p8
  cases b
  · go_wp2_with fail
    go_ret
    exact ⟨rfl, uq HK3⟩
  obtain ⟨p0, p1, p2, p3, p4, p5, p6, p7, p8⟩ := (uq HX) w3 (uq HL3)
  go_wp2_with fail
  (refine ((uq TS1) _ (uq HK3)).mono ?_; rintro e w4 ⟨s1, l1, c1, rfl, hn, hb, hk⟩; have HB4 := hide hb; have HN4 := hide hn; have HM4 := hide hk; have HL4 := hide ((uq HL3).trans hk); have HK4 := hide ((uq HK3).trans hk); clear hk hb hn)
  clear p0 p1 p2 p3 p4 p5 p6 p7 p8
  obtain ⟨p0, p1, p2, p3, p4, p5, p6, p7, p8⟩ := (uq HY) w4 (uq HL4)
  go_wp2_with fail
  (refine ((uq TS2) _ (uq HK4)).mono ?_; rintro e w5 ⟨s2, l2, c2, rfl, hn, hb, hk⟩; have HB5 := hide hb; have HN5 := hide hn; have HM5 := hide hk; have HL5 := hide ((uq HL4).trans hk); have HK5 := hide ((uq HK4).trans hk); clear hk hb hn)
  clear p0 p1 p2 p3 p4 p5 p6 p7 p8
  have HSX : Hid (∀ w', Keep w5 w' → w'.cell? ⟨xb, 0, none⟩ = some (.int .i64 a0) ∧ w'.cell? ⟨xb, 1, none⟩ = some (.int .i64 a1) ∧ w'.cell? ⟨xb, 2, none⟩ = some (.int .i64 a2) ∧ w'.cell? ⟨xb, 3, none⟩ = some (.int .i64 a3) ∧ w'.cell? ⟨xb, 4, none⟩ = some (.int .i64 a4) ∧ w'.cell? ⟨xb, 5, none⟩ = some (.slice aN nN cN) ∧ w'.cell? ⟨xb, 6, none⟩ = some (.slice aS nS cS) ∧ w'.cell? ⟨xb, 7, none⟩ = some (.int .i64 a5) ∧ w'.cell? ⟨xb, 8, none⟩ = some (.int .i64 a6) ∧ w'.cell? ⟨yb, 0, none⟩ = some (.int .i64 b0) ∧ w'.cell? ⟨yb, 1, none⟩ = some (.int .i64 b1) ∧ w'.cell? ⟨yb, 2, none⟩ = some (.int .i64 b2) ∧ w'.cell? ⟨yb, 3, none⟩ = some (.int .i64 b3) ∧ w'.cell? ⟨yb, 4, none⟩ = some (.int .i64 b4) ∧ w'.cell? ⟨yb, 5, none⟩ = some (.slice bN mN dN) ∧ w'.cell? ⟨yb, 6, none⟩ = some (.slice bS mS dS) ∧ w'.cell? ⟨yb, 7, none⟩ = some (.int .i64 b5) ∧ w'.cell? ⟨yb, 8, none⟩ = some (.int .i64 b6) ∧ (convert 29 9 (.slice s1 l1 c1)).run Tryz.prog w' = .ok (.string S1) w' ∧ (convert 29 9 (.slice s2 l2 c2)).run Tryz.prog w' = .ok (.string S2) w') := hide (fun w' k9 => by
    obtain ⟨p0, p1, p2, p3, p4, p5, p6, p7, p8⟩ := (uq HX) w' ((uq HL5).trans k9)
    obtain ⟨q0, q1, q2, q3, q4, q5, q6, q7, q8⟩ := (uq HY) w' ((uq HL5).trans k9)
    refine ⟨p0, p1, p2, p3, p4, p5, p6, p7, p8, q0, q1, q2, q3, q4, q5, q6, q7, q8, ?_, ?_⟩
    · have := by_str ((uq HB4).keep ((uq HM5).trans k9)) (t := 29) (u := 9) Tryz.underlying29 Tryz.underlying9
      rwa [uq HS1] at this
    · have := by_str ((uq HB5).keep k9) (t := 29) (u := 9) Tryz.underlying29 Tryz.underlying9
      rwa [uq HS2] at this)
  go_upto_region 7 with fail
  refine wp_region_held_drew (S := fun w' => w'.cell? ⟨xb, 0, none⟩ = some (.int .i64 a0) ∧ w'.cell? ⟨xb, 1, none⟩ = some (.int .i64 a1) ∧ w'.cell? ⟨xb, 2, none⟩ = some (.int .i64 a2) ∧ w'.cell? ⟨xb, 3, none⟩ = some (.int .i64 a3) ∧ w'.cell? ⟨xb, 4, none⟩ = some (.int .i64 a4) ∧ w'.cell? ⟨xb, 5, none⟩ = some (.slice aN nN cN) ∧ w'.cell? ⟨xb, 6, none⟩ = some (.slice aS nS cS) ∧ w'.cell? ⟨xb, 7, none⟩ = some (.int .i64 a5) ∧ w'.cell? ⟨xb, 8, none⟩ = some (.int .i64 a6) ∧ w'.cell? ⟨yb, 0, none⟩ = some (.int .i64 b0) ∧ w'.cell? ⟨yb, 1, none⟩ = some (.int .i64 b1) ∧ w'.cell? ⟨yb, 2, none⟩ = some (.int .i64 b2) ∧ w'.cell? ⟨yb, 3, none⟩ = some (.int .i64 b3) ∧ w'.cell? ⟨yb, 4, none⟩ = some (.int .i64 b4) ∧ w'.cell? ⟨yb, 5, none⟩ = some (.slice bN mN dN) ∧ w'.cell? ⟨yb, 6, none⟩ = some (.slice bS mS dS) ∧ w'.cell? ⟨yb, 7, none⟩ = some (.int .i64 b5) ∧ w'.cell? ⟨yb, 8, none⟩ = some (.int .i64 b6) ∧ (convert 29 9 (.slice s1 l1 c1)).run Tryz.prog w' = .ok (.string S1) w' ∧ (convert 29 9 (.slice s2 l2 c2)).run Tryz.prog w' = .ok (.string S2) w') (by kernel_rfl) (by exact (uq HSX) _ (by repeat (first | apply Keep.drew | exact Keep.refl _))) (fun hHeld => ?_)
  refine tkk 0 34 hHeld ?_; try simp only [Act.put, Ya, Yb, Yc]
  refine tkk 1 35 hHeld ?_; try simp only [Act.put, Ya, Yb, Yc]
  refine tkk 2 36 hHeld ?_; try simp only [Act.put, Ya, Yb, Yc]
  refine tkk 3 37 hHeld ?_; try simp only [Act.put, Ya, Yb, Yc]
  refine tkk 4 38 hHeld ?_; try simp only [Act.put, Ya, Yb, Yc]
  refine tkk 5 39 hHeld ?_; try simp only [Act.put, Ya, Yb, Yc]
  refine tkk 6 40 hHeld ?_; try simp only [Act.put, Ya, Yb, Yc]
  refine rdyy 7 (fun K hK => ?_)
  go_simp
  clear hHeld
  (refine ((uq TM) _ (uq HK5).drew).mono ?_; rintro e w6 ⟨rfl, hk⟩; have HX6 := hide (((Keep.refl w5).drew).trans hk); clear hk)
  try go_wp2_with fail
  refine hK.out _ _ ?_ (fun hHeld => ?_)
  · exact (uq HSX) _ (uq HX6)
  clear hK K
  try simp only [Act.put, Ya, Yb, Yc]
  refine tkk 8 42 hHeld ?_; try simp only [Act.put, Ya, Yb, Yc]
  refine tkk 9 43 hHeld ?_; try simp only [Act.put, Ya, Yb, Yc]
  refine rdyy 10 (fun K hK => ?_)
  go_simp
  clear hHeld
  (refine ((uq TA) _ ((uq HK5).trans (uq HX6))).mono ?_; rintro e w7 ⟨rfl, hk⟩; have HX7 := hide ((uq HX6).trans hk); clear hk)
  try go_wp2_with fail
  refine hK.out _ _ ?_ (fun hHeld => ?_)
  · exact (uq HSX) _ (uq HX7)
  clear hK K
  try simp only [Act.put, Ya, Yb, Yc]
  refine tkk 11 45 hHeld ?_; try simp only [Act.put, Ya, Yb, Yc]
  refine tkk 12 4 hHeld ?_; try simp only [Act.put, Ya, Yb, Yc]
  refine wpAnyH_done (by kernel_rfl) ?_ _
  clear hHeld
  go_wp2_with fail
  go_ret
  exact ⟨rfl, (uq HK5).trans (uq HX7)⟩
theorem nine {w : World} {ds : List D} {us : List Value} (hs : ShL netT ds) (hr : Rvs w ds us) : ∃ a0 a1 a2 a3 a4 aN nN cN aS nS cS a5 a6, us = [.int .i64 a0, .int .i64 a1, .int .i64 a2, .int .i64 a3, .int .i64 a4, .slice aN nN cN, .slice aS nS cS, .int .i64 a5, .int .i64 a6] := by
  simp only [ShL, Sh1, netT] at hs
  obtain ⟨_, _, rfl, ⟨v0, rfl, _⟩, ⟨_, _, rfl, ⟨v1, rfl, _⟩, ⟨_, _, rfl, ⟨v2, rfl, _⟩, ⟨_, _, rfl, ⟨v3, rfl, _⟩, ⟨_, _, rfl, ⟨v4, rfl, _⟩, ⟨_, _, rfl, ⟨L5, rfl, _⟩, ⟨_, _, rfl, ⟨L6, rfl, _⟩, ⟨_, _, rfl, ⟨v7, rfl, _⟩, ⟨_, _, rfl, ⟨v8, rfl, _⟩, rfl⟩⟩⟩⟩⟩⟩⟩⟩⟩ := hs
  simp only [Rvs, Rv, dI] at hr
  obtain ⟨_, _, rfl, rfl, _, _, rfl, rfl, _, _, rfl, rfl, _, _, rfl, rfl, _, _, rfl, rfl, _, _, rfl, ⟨x5, z5, rfl, _⟩, _, _, rfl, ⟨x6, z6, rfl, _⟩, _, _, rfl, rfl, _, _, rfl, rfl, rfl⟩ := hr
  exact ⟨_, _, _, _, _, _, _, _, _, _, _, _, _, rfl⟩
theorem walk {w : World} {ds es : List D} {us vs : List Value} (hs : ShL netT ds) (he : ShL netT es) (hr : Rvs w ds us) (hq : Rvs w es vs) (ht : Tab w) : Calls Tryz.prog 6 #[.agg us.toArray, .agg vs.toArray] w fun e w' => e = .returned (.bool true) ∧ Below w.heap.size w w' := by
  have TF1 : ∀ w', Keep w w' → Calls Tryz.prog 7 #[.agg us.toArray] w' (Ak w') := fun w' k => few_any hs (Rvs.keep k _ _ hr)
  have TF2 : ∀ w', Keep w w' → Calls Tryz.prog 7 #[.agg vs.toArray] w' (Ak w') := fun w' k => few_any he (Rvs.keep k _ _ hq)
  have TS1 : ∀ w', Keep w w' → Calls Tryz.prog 8 #[.agg us.toArray] w' _ := fun w' k => shq hs (Rvs.keep k _ _ hr) (ht.keep k)
  have TS2 : ∀ w', Keep w w' → Calls Tryz.prog 8 #[.agg vs.toArray] w' _ := fun w' k => shq he (Rvs.keep k _ _ hq) (ht.keep k)
  have TA : ∀ w', Keep w w' → Calls Tryz.prog 12 #[] w' fun e w'' => e = .returned (.bool true) ∧ Keep w' w'' := fun w' k => awake_any w' (ht.keep k)
  obtain ⟨a0, a1, a2, a3, a4, aN, nN, cN, aS, nS, cS, a5, a6, rfl⟩ := nine hs hr
  obtain ⟨b0, b1, b2, b3, b4, bN, mN, dN, bS, mS, dS, b5, b6, rfl⟩ := nine he hq
  by_cases hB : netB ds = true
  · by_cases hC : netB es = true
    · obtain ⟨r, h1, h2⟩ := same_tree_false (sh_net hs hB) (sh_net he hC) hr hq
      rw [hB] at TS1
      rw [hC] at TS2
      refine yes a0 a1 a2 a3 a4 aN nN cN aS nS cS a5 a6 b0 b1 b2 b3 b4 bN mN dN bS mS dS b5 b6 _ _ (sv (txt ds)) (sv (txt es)) r rfl rfl ?_ w (hide TF1) (hide TF2) (hide TS1) (hide TS2) (hide TA) (hide h2)
      rw [bta_tl, bta_tl]
      have h3 := apart hs he hB hC
      cases r with
      | true => exact beq_iff_eq.2 (h3.2 (h1.1 rfl))
      | false =>
        have : txt ds ≠ txt es := fun h => by have := h1.2 (h3.1 h); cases this
        simpa using this
    · have hC' : netB es = false := by simpa using hC
      rw [hB] at TS1
      rw [hC'] at TS2
      exact no2 a0 a1 a2 a3 a4 aN nN cN aS nS cS a5 a6 b0 b1 b2 b3 b4 bN mN dN bS mS dS b5 b6 1 _ _ rfl w (hide TF1) (hide TF2) (hide TS1) (hide TS2) (hide TA)
  · have hB' : netB ds = false := by simpa using hB
    rw [hB'] at TS1
    exact no1 a0 a1 a2 a3 a4 aN nN cN aS nS cS a5 a6 b0 b1 b2 b3 b4 bN mN dN bS mS dS b5 b6 1 _ _ _ rfl w (hide TF1) (hide TF2) (hide TS1) (hide TS2) (hide TA)
theorem laidOut : laidOutB Tryz.prog = true := by kernel_rfl
theorem own : ownKnob Tryz.prog.godebug = none := by kernel_rfl
theorem tab_of {W : World} (h : laidMetH Tryz.prog Rows.showApartRow.laid W) : Tab W := by
  have h' : laidMet Tryz.prog Rows.showApartRow.laid W := h
  obtain ⟨g, t, cs, fuel, p, hg, ht, hv, hd⟩ := Lib.laidMet.reads h' (n := "internal/strconv.uint64pow10") (d := Rows.laid_internal_strconv_uint64pow10) (.tail _ (.tail _ (.head _)))
  have hg2 : Tryz.prog.globalNamed "internal/strconv.uint64pow10" = some 1 := by kernel_rfl
  obtain rfl : g = 1 := (Option.some.inj (hg2.symm.trans hg)).symm
  have ht2 : (Tryz.prog.globals[1]?).map (·.type) = some 263 := by kernel_rfl
  obtain rfl : t = 263 := (Option.some.inj (ht2.symm.trans ht)).symm
  have e : (Rows.laid_internal_strconv_uint64pow10 : DataW Unit) = Lib.tabData .u64 Lib.pow10Tab := by rfl
  rw [e] at hd
  have hc := Lib.cells_of_tab Tryz.underlying263 Tryz.underlying156 (by kernel_rfl) (by kernel_rfl) hd
  unfold Tab Lib.TabIs
  rw [hv, ← hc]
theorem door_met (os : Os) (args : Array Value) : laidMetH Tryz.prog Rows.showApartRow.laid ((World.doorLaid Tryz.prog 24 os).forCall (fun _ _ => 0) ⟨#[], args, []⟩).memory :=
  laidMetH_of_parts3 (fuel := 8) (laidMet_of_run' 8 (by kernel_rfl) (by kernel_rfl)) (by kernel_rfl) (by kernel_rfl)
set_option maxHeartbeats 400000 in
set_option maxRecDepth 100000 in
theorem lifted (os : Os) (started : os.Started) (H : Type) (enc : TypeId × Value → H) :
    ReturnsInHanded {} Tryz.checked os 6 .any (fun w args => (Rows.showApartSpec.pre enc Tryz.prog Tryz.f6 [] false w args ∧ laidMetH Tryz.prog Rows.showApartRow.laid w) ∧ sizedMet enc Tryz.prog Tryz.f6 (OpenSpec.ofChange Rows.showApartSpec) false w args)
      (Rows.showApartSpec.post enc Tryz.prog Tryz.f6 false true false false) := by
  refine returnsInHanded_of_change_and (C := Tryz.checked) (X := fun w _ => laidMetH Tryz.prog Rows.showApartRow.laid w) (fun _ _ _ hh h => h.of_heap hh) own started (by kernel_rfl) Tryz.func6
    (ChangeSpec.witness_shaped (enc := enc) (C := Tryz.checked) (os := os) (X := fun w _ => laidMetH Tryz.prog Rows.showApartRow.laid w) false (World.doorLaid Tryz.prog 24 os) #[.agg #[.int .i64 0, .int .i64 0, .int .i64 0, .int .i64 0, .int .i64 0, .slice none 0 0, .slice none 0 0, .int .i64 0, .int .i64 0], .agg #[.int .i64 0, .int .i64 0, .int .i64 0, .int .i64 0, .int .i64 0, .slice none 0 0, .slice none 0 0, .int .i64 0, .int .i64 0]] 8 rfl (World.shaped_of_RefB (by kernel_rfl) (by kernel_rfl)) (by kernel_rfl) (by kernel_rfl) (by kernel_rfl) (door_met os _)) ?_
  intro W base args ds gs before hval0 hW _ _ hL _
  have hval : ∀ (j : Nat) t v, Tryz.f6.params[j]? = some t → args[j]? = some v → Value.okWide Tryz.prog W .any base t v := hval0
  have hW' := hW
  obtain ⟨p, q, hA0, hV, rfl, hfz, hnd⟩ := hW
  have hA : DataW.TrodAll enc Tryz.prog W 0 (fun _ => true) true Tryz.f6.params.toList args.toList ds p := hA0
  rw [Tryz.params6] at hA hval
  obtain ⟨v0, vs0, d0, ds0, p0, q0, hargs, rfl, rfl, h0, r0⟩ := trodAll_cons hA
  obtain ⟨v1, vs1, d1, ds1, p1, q1, rfl, rfl, rfl, h1, r1⟩ := trodAll_cons r0
  obtain ⟨rfl, rfl, rfl⟩ := trodAll_nil r1
  obtain rfl : args = #[v0, v1] := by cases args; simp_all
  obtain ⟨rfl, rfl⟩ := trodVars_none hV
  have k0 := h0
  have lt0 : ∀ x ∈ p0, x.block < W.heap.size := by obtain ⟨m, hm⟩ := k0; exact DataW.trod_lt m _ _ _ hm
  obtain ⟨es0, us0, rfl, s0, x0⟩ := open_struct Tryz.underlying27 S.net_desc (hval 0 27 v0 rfl rfl) h0
  clear h0
  have k1 := h1
  have lt1 : ∀ x ∈ p1, x.block < W.heap.size := by obtain ⟨m, hm⟩ := k1; exact DataW.trod_lt m _ _ _ hm
  obtain ⟨es1, us1, rfl, s1, x1⟩ := open_struct Tryz.underlying27 S.net_desc (hval 1 27 v1 rfl rfl) h1
  clear h1
  clear hA0 hval0
  refine (walk s0 s1 x0 x1 (tab_of hL)).mono fun e W' ⟨he, bel⟩ => ?_
  subst he
  exact ⟨_, rfl, _, _, _, [], _, [], hW', trodAll_mk1 (shut_bool Tryz.underlying4 _), (trodAll_cons_mk (Below.trod laidOut (by kernel_rfl) (of_decide_eq_true (by kernel_rfl)) k0 bel lt0) (trodAll_cons_mk (Below.trod laidOut (by kernel_rfl) (of_decide_eq_true (by kernel_rfl)) k1 bel lt1) trodAll_mk0)), rfl, bel.frame _, fun h => by cases h⟩
theorem over : Rows.showApartRow.holds Tryz.pinned (OpenSpec.ofChange Rows.showApartSpec) :=
  OpenClaim.holds_of_wide 6 Tryz.f6 rfl rfl rfl rfl rfl rfl rfl ⟨rfl, rfl, rfl, rfl, rfl⟩ rfl rfl rfl rfl rfl (by kernel_rfl) Tryz.func6 (by kernel_rfl)
    (of_decide_eq_true (by kernel_rfl)) (by unfold Func.isWrapper; first | (rw [if_pos (by decide +kernel)]; kernel_rfl) | (rw [if_neg (by decide +kernel)]; exact ⟨rfl, rfl⟩))
    (fun os started H enc _ => lifted os started H enc)
theorem card : Claim7.holds Tryz.pinned (.plain (OpenSpec.ofChange Rows.showApartSpec)) Rows.showApartCard :=
  Claim7.holds_tied_plain_at .later [] [.data, .data, .data] true _ true
    over (fun _ h => by cases h) (by kernel_rfl) (fun _ h => by cases h) showApart_row_tie rfl ⟨rfl, rfl⟩ (by kernel_rfl) rfl
    (fun f fn hf hfn => by
      obtain rfl : f = 6 := Option.some.inj ((show Tryz.prog.funcNamed Rows.showApartRow.func = some 6 by kernel_rfl).symm.trans hf) |>.symm
      obtain rfl : fn = Tryz.f6 := (Option.some.inj (Tryz.func6.symm.trans hfn)).symm
      exact ⟨by kernel_rfl, fun j t ht => by
        rw [Tryz.params6] at ht
        have hm : t ∈ [27, 27] := by simpa using Array.mem_of_getElem? ht
        have hall : ([27, 27].all fun u => !Tryz.prog.wantsStandIn u) = true := by kernel_rfl
        exact (show Tryz.prog.wantsStandIn t = false by simpa using List.all_eq_true.1 hall t hm)⟩)
    (by kernel_rfl)

end Go.Proofs.YtcdnbdajnagfiaaGreatDoor.apa
namespace Go.Proofs.YtcdnbdajnagfiaaGreatDoor
theorem ShowApart_holds : Rows.ShowApartCardSaid := apa.card
end Go.Proofs.YtcdnbdajnagfiaaGreatDoor
