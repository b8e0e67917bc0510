/- NeedEnough over letters. -/
import Derived.Test.YtjincjlalopbfaaVDh
import Derived.Test.YtjincjlalopbfaaLMath
import Derived.Test.YtjincjlalopbfaaVFew
import Derived.Deep.DrawnRows
import Derived.Deep.RegionHeld3
namespace Go.Proofs.Ytjincjlalopbfaa
open Go.RowKit
attribute [local go_sem ↓] Go.wp_at_zero Go.wp_at_succ
set_option linter.unusedVariables false
set_option linter.unusedSimpArgs false
set_option maxRecDepth 10000
namespace Nd
/-- needs that are read: their numbers, how many walks, and these -/
def Ndr (w : World) (la : Option Addr) (n : Nat) (G Y R : Nat → Int) (WN : Nat → Nat) (v1 v2 : Nat → Nat → Int) : Prop := ∀ k, k < n → ∃ ad a c, la = some ad ∧ ad.block < w.heap.size ∧ w.cell? ⟨(ad.add (k * 7)).block, (ad.add (k * 7)).off + 1, none⟩ = some (.int .i64 (G k)) ∧ w.cell? ⟨(ad.add (k * 7)).block, (ad.add (k * 7)).off + 2, none⟩ = some (.int .i64 (Y k)) ∧ w.cell? ⟨(ad.add (k * 7)).block, (ad.add (k * 7)).off + 3, none⟩ = some (.int .i64 (R k)) ∧ w.cell? ⟨(ad.add (k * 7)).block, (ad.add (k * 7)).off + 6, none⟩ = some (.slice a (WN k) c) ∧ ∀ m, m < WN k → ∃ wd, a = some wd ∧ wd.block < w.heap.size ∧ w.cell? ⟨(wd.add (m * 3)).block, (wd.add (m * 3)).off + 1, none⟩ = some (.int .i64 (v1 k m)) ∧ w.cell? ⟨(wd.add (m * 3)).block, (wd.add (m * 3)).off + 2, none⟩ = some (.int .i64 (v2 k m))
theorem Ndr.keep {w w' : World} {la : Option Addr} {n : Nat} {G Y R : Nat → Int} {WN : Nat → Nat} {v1 v2 : Nat → Nat → Int} (h : Ndr w la n G Y R WN v1 v2) (hk : Keep w w') : Ndr w' la n G Y R WN v1 v2 := fun k hlt => by
  obtain ⟨ad, a, c, e, hb, h1, h2, h3, h6, hw⟩ := h k hlt
  refine ⟨ad, a, c, e, Nat.lt_of_lt_of_le hb hk.size, W.Keep.cl hk h1, W.Keep.cl hk h2, W.Keep.cl hk h3, W.Keep.cl hk h6, fun m hm => ?_⟩
  obtain ⟨wd, e2, hb2, g1, g2⟩ := hw m hm
  exact ⟨wd, e2, Nat.lt_of_lt_of_le hb2 hk.size, W.Keep.cl hk g1, W.Keep.cl hk g2⟩
/-- the sum of the first k -/
def ws (WN : Nat → Nat) : Nat → Nat
  | 0 => 0
  | k + 1 => ws WN k + WN k
theorem ws_mono (WN : Nat → Nat) {j : Nat} : ∀ k, j ≤ k → ws WN j ≤ ws WN k
  | 0, h => by have : j = 0 := by omega
               subst this; exact Nat.le_refl _
  | k + 1, h => by
    rcases Nat.eq_or_lt_of_le h with e | e
    · rw [e]; exact Nat.le_refl _
    · exact Nat.le_trans (ws_mono WN k (by omega)) (by rw [ws]; omega)
set_option maxHeartbeats 4000000 in
theorem enough_no (a0 a1 a2 a3 a4 : Int) (aN : Option Addr) (nN cN : Nat) (aS : Option Addr) (nS cS : Nat) (a5 a6 : Int) (i e0 : Int) (w : World) (h0 : ¬ e0 = 0)
    (TF : Hid (∀ w', Keep w w' → Calls Try.prog 4 #[.agg #[.int .i64 a0, .int .i64 a1, .int .i64 a2, .int .i64 a3, .int .i64 a4, .slice aN nN cN, .slice aS nS cS, .int .i64 a5, .int .i64 a6]] w' (S.Ak w')))
    (TO : Hid (∀ w', Keep w w' → Calls Try.prog 5 #[.agg #[.int .i64 a0, .int .i64 a1, .int .i64 a2, .int .i64 a3, .int .i64 a4, .slice aN nN cN, .slice aS nS cS, .int .i64 a5, .int .i64 a6], .int .i64 i] w' fun e w'' => e = .returned (.tuple #[.slice none 0 0, .int .i64 e0]) ∧ Keep w' w''))
    (TA : Hid (∀ w', Calls Try.prog 6 #[] w' fun e w'' => e = .returned (.bool true) ∧ Keep w' w'')) : Calls Try.prog 3 #[.agg #[.int .i64 a0, .int .i64 a1, .int .i64 a2, .int .i64 a3, .int .i64 a4, .slice aN nN cN, .slice aS nS cS, .int .i64 a5, .int .i64 a6], .int .i64 i] w fun e w' => e = .returned (.bool true) ∧ Keep w w' := by
  have hb : (e0 != 0) = true := by simpa using h0
  clear h0
  have hnw0 := heap_alloc_new w (.cells #[.int .i64 a0, .int .i64 a1, .int .i64 a2, .int .i64 a3, .int .i64 a4, .slice aN nN cN, .slice aS nS cS, .int .i64 a5, .int .i64 a6] 27)
  have K0 := hide ((Keep.refl w).alloc (.cells #[.int .i64 a0, .int .i64 a1, .int .i64 a2, .int .i64 a3, .int .i64 a4, .slice aN nN cN, .slice aS nS cS, .int .i64 a5, .int .i64 a6] 27))
  go_enter Try.func3, Try.ntmps3
  go_upto_region 1 with fail
  generalize w.alloc (.cells #[.int .i64 a0, .int .i64 a1, .int .i64 a2, .int .i64 a3, .int .i64 a4, .slice aN nN cN, .slice aS nS cS, .int .i64 a5, .int .i64 a6] 27) = w0 at hnw0 K0 ⊢
  obtain ⟨q0, HQ0⟩ : ∃ q, Hid (w.heap.size = q) := ⟨_, hide rfl⟩
  rw [uq HQ0] at hnw0 ⊢
  have HX0 : Hid (∀ w' : World, Keep w0 w' → w'.cell? ⟨q0, 0, none⟩ = some (.int .i64 a0) ∧ w'.cell? ⟨q0, 1, none⟩ = some (.int .i64 a1) ∧ w'.cell? ⟨q0, 2, none⟩ = some (.int .i64 a2) ∧ w'.cell? ⟨q0, 3, none⟩ = some (.int .i64 a3) ∧ w'.cell? ⟨q0, 4, none⟩ = some (.int .i64 a4) ∧ w'.cell? ⟨q0, 5, none⟩ = some (.slice aN nN cN) ∧ w'.cell? ⟨q0, 6, none⟩ = some (.slice aS nS cS) ∧ w'.cell? ⟨q0, 7, none⟩ = some (.int .i64 a5) ∧ w'.cell? ⟨q0, 8, none⟩ = some (.int .i64 a6)) := hide (fun w' k9 => by
    have h1 := k9.block q0 (Array.getElem?_eq_some_iff.1 hnw0).1
    rw [hnw0] at h1
    refine ⟨?_, ?_, ?_, ?_, ?_, ?_, ?_, ?_, ?_⟩ <;> simp [World.cell?, h1])
  clear hnw0
  obtain ⟨z0, z1, z2, z3, z4, z5, z6, z7, z8⟩ := (uq HX0) w0 (Keep.refl _)
  go_wp2_with fail
  (refine ((uq TF) _ (uq K0)).mono ?_; rintro e w2 ⟨b, rfl, hk⟩; have K2 := hide hk; clear hk)
  clear z0 z1 z2 z3 z4 z5 z6 z7 z8
  cases b
  · go_wp2_with fail
    go_ret
    exact ⟨rfl, (uq K0).trans (uq K2)⟩
  obtain ⟨z0, z1, z2, z3, z4, z5, z6, z7, z8⟩ := (uq HX0) w2 (uq K2)
  go_wp2_with fail
  (refine ((uq TO) _ ((uq K0).trans (uq K2))).mono ?_; rintro e w3 ⟨rfl, hk⟩; have K3 := hide ((uq K2).trans hk); clear hk)
  clear z0 z1 z2 z3 z4 z5 z6 z7 z8
  go_wp2_with fail
  (refine ((uq TA) _).mono ?_; rintro e w4 ⟨rfl, hk⟩)
  go_wp2_with fail
  go_ret
  exact ⟨rfl, (uq K0).trans ((uq K3).trans hk)⟩
set_option maxHeartbeats 16000000 in
theorem enough_yes (a0 a1 a2 a3 a4 : Int) (aN : Option Addr) (nN cN : Nat) (aS : Option Addr) (nS cS : Nat) (a5 a6 : Int) (j : Nat) (s : ByteArray) (x1 : Option Addr) (n1 c1 : Nat) (x2 : Option Addr) (n2 c2 : Nat) (x3 : Option Addr) (n3 c3 : Nat) (x4 : Option Addr) (n4 c4 : Nat) (x5 : Option Addr) (n5 c5 : Nat) (p : Int) (T9 : Nat → List UInt8) (V1 V2 V3 V4 V5 V6 V7 V8 V9 V10 G Y R : Nat → Int) (WN : Nat → Nat) (v1 v2 ss : Nat → Nat → Int) (J : Nat → Nat) (p1 d y0 m1 m2 m3 s1 m4 : Nat → Int) (w : World) (hj : j < nN) (hn1 : n1 ≤ 1000) (hn2 : n2 ≤ 1000) (hn3 : n3 ≤ 1000)
    (HCN : Hid (∃ ad, aN = some ad ∧ ad.block < w.heap.size ∧ w.cell? (ad.add (j * 7)) = some (.string s) ∧ w.cell? ⟨(ad.add (j * 7)).block, (ad.add (j * 7)).off + 1, none⟩ = some (.slice x1 n1 c1) ∧ w.cell? ⟨(ad.add (j * 7)).block, (ad.add (j * 7)).off + 2, none⟩ = some (.slice x2 n2 c2) ∧ w.cell? ⟨(ad.add (j * 7)).block, (ad.add (j * 7)).off + 3, none⟩ = some (.slice x3 n3 c3) ∧ w.cell? ⟨(ad.add (j * 7)).block, (ad.add (j * 7)).off + 4, none⟩ = some (.slice x4 n4 c4) ∧ w.cell? ⟨(ad.add (j * 7)).block, (ad.add (j * 7)).off + 5, none⟩ = some (.slice x5 n5 c5) ∧ w.cell? ⟨(ad.add (j * 7)).block, (ad.add (j * 7)).off + 6, none⟩ = some (.int .i64 p)))
    (HC : Hid (∀ k, k < n1 → ∃ ad, x1 = some ad ∧ ad.block < w.heap.size ∧ w.cell? (ad.add (k * 11)) = some (.string (sv (T9 k))) ∧ w.cell? ⟨(ad.add (k * 11)).block, (ad.add (k * 11)).off + 1, none⟩ = some (.int .i64 (V1 k)) ∧ w.cell? ⟨(ad.add (k * 11)).block, (ad.add (k * 11)).off + 2, none⟩ = some (.int .i64 (V2 k)) ∧ w.cell? ⟨(ad.add (k * 11)).block, (ad.add (k * 11)).off + 3, none⟩ = some (.int .i64 (V3 k)) ∧ w.cell? ⟨(ad.add (k * 11)).block, (ad.add (k * 11)).off + 4, none⟩ = some (.int .i64 (V4 k)) ∧ w.cell? ⟨(ad.add (k * 11)).block, (ad.add (k * 11)).off + 5, none⟩ = some (.int .i64 (V5 k)) ∧ w.cell? ⟨(ad.add (k * 11)).block, (ad.add (k * 11)).off + 6, none⟩ = some (.int .i64 (V6 k)) ∧ w.cell? ⟨(ad.add (k * 11)).block, (ad.add (k * 11)).off + 7, none⟩ = some (.int .i64 (V7 k)) ∧ w.cell? ⟨(ad.add (k * 11)).block, (ad.add (k * 11)).off + 8, none⟩ = some (.int .i64 (V8 k)) ∧ w.cell? ⟨(ad.add (k * 11)).block, (ad.add (k * 11)).off + 9, none⟩ = some (.int .i64 (V9 k)) ∧ w.cell? ⟨(ad.add (k * 11)).block, (ad.add (k * 11)).off + 10, none⟩ = some (.int .i64 (V10 k))))
    (HJ : Hid (∀ k, k < n1 → J k < n3))
    (HQ9 : Hid (∀ k, k < n1 → ¬ G (J k) < V9 k ∧ IntKind.i64.wrap (1962 * V6 k) = p1 k ∧ IntKind.i64.wrap (610000 + p1 k) = d k ∧ IntKind.i64.wrap (Y (J k) - 10) = y0 k ∧ IntKind.i64.wrap (y0 k * d k) = m1 k ∧ IntKind.i64.wrap (10000 * V5 k) = m2 k ∧ ¬ m1 k < m2 k ∧ IntKind.i64.wrap (R (J k) * V5 k) = m3 k ∧ IntKind.i64.wrap (V7 k + V8 k) = s1 k ∧ IntKind.i64.wrap (10 * s1 k) = m4 k ∧ ¬ m3 k < m4 k))
    (HWS : Hid (∀ k, k < n3 → ∀ m, m < WN k → IntKind.i64.wrap (v1 k m + v2 k m) = ss k m ∧ ¬ G k < ss k m)) (HSUM : Hid (ws WN n3 = n2))
    (TF : Hid (∀ w', Keep w w' → Calls Try.prog 4 #[.agg #[.int .i64 a0, .int .i64 a1, .int .i64 a2, .int .i64 a3, .int .i64 a4, .slice aN nN cN, .slice aS nS cS, .int .i64 a5, .int .i64 a6]] w' (S.Ak w')))
    (TO : Hid (∀ w', Keep w w' → Calls Try.prog 5 #[.agg #[.int .i64 a0, .int .i64 a1, .int .i64 a2, .int .i64 a3, .int .i64 a4, .slice aN nN cN, .slice aS nS cS, .int .i64 a5, .int .i64 a6], .int .i64 (j : Int)] w' fun e w'' => ∃ la lc, e = .returned (.tuple #[.slice la n3 lc, .int .i64 0]) ∧ Keep w' w'' ∧ Ndr w'' la n3 G Y R WN v1 v2))
    (TH : Hid (∀ k, k < n1 → ∀ w', Keep w w' → Calls Try.prog 7 #[.agg #[.string s, .slice x1 n1 c1, .slice x2 n2 c2, .slice x3 n3 c3, .slice x4 n4 c4, .slice x5 n5 c5, .int .i64 p], .string (sv (T9 k))] w' fun e w'' => e = .returned (.int .i64 (J k : Int)) ∧ Keep w' w''))
    (TA : Hid (∀ w', Calls Try.prog 6 #[] w' fun e w'' => e = .returned (.bool true) ∧ Keep w' w'')) : Calls Try.prog 3 #[.agg #[.int .i64 a0, .int .i64 a1, .int .i64 a2, .int .i64 a3, .int .i64 a4, .slice aN nN cN, .slice aS nS cS, .int .i64 a5, .int .i64 a6], .int .i64 (j : Int)] w fun e w' => e = .returned (.bool true) ∧ Keep w w' := by
  have hnw0 := heap_alloc_new w (.cells #[.int .i64 a0, .int .i64 a1, .int .i64 a2, .int .i64 a3, .int .i64 a4, .slice aN nN cN, .slice aS nS cS, .int .i64 a5, .int .i64 a6] 27)
  have K0 := hide ((Keep.refl w).alloc (.cells #[.int .i64 a0, .int .i64 a1, .int .i64 a2, .int .i64 a3, .int .i64 a4, .slice aN nN cN, .slice aS nS cS, .int .i64 a5, .int .i64 a6] 27))
  go_enter Try.func3, Try.ntmps3
  go_upto_region 1 with fail
  generalize w.alloc (.cells #[.int .i64 a0, .int .i64 a1, .int .i64 a2, .int .i64 a3, .int .i64 a4, .slice aN nN cN, .slice aS nS cS, .int .i64 a5, .int .i64 a6] 27) = w0 at hnw0 K0 ⊢
  obtain ⟨q0, HQ0⟩ : ∃ q, Hid (w.heap.size = q) := ⟨_, hide rfl⟩
  rw [uq HQ0] at hnw0 ⊢
  have HX0 : Hid (∀ w' : World, Keep w0 w' → w'.cell? ⟨q0, 0, none⟩ = some (.int .i64 a0) ∧ w'.cell? ⟨q0, 1, none⟩ = some (.int .i64 a1) ∧ w'.cell? ⟨q0, 2, none⟩ = some (.int .i64 a2) ∧ w'.cell? ⟨q0, 3, none⟩ = some (.int .i64 a3) ∧ w'.cell? ⟨q0, 4, none⟩ = some (.int .i64 a4) ∧ w'.cell? ⟨q0, 5, none⟩ = some (.slice aN nN cN) ∧ w'.cell? ⟨q0, 6, none⟩ = some (.slice aS nS cS) ∧ w'.cell? ⟨q0, 7, none⟩ = some (.int .i64 a5) ∧ w'.cell? ⟨q0, 8, none⟩ = some (.int .i64 a6)) := hide (fun w' k9 => by
    have h1 := k9.block q0 (Array.getElem?_eq_some_iff.1 hnw0).1
    rw [hnw0] at h1
    refine ⟨?_, ?_, ?_, ?_, ?_, ?_, ?_, ?_, ?_⟩ <;> simp [World.cell?, h1])
  clear hnw0
  obtain ⟨z0, z1, z2, z3, z4, z5, z6, z7, z8⟩ := (uq HX0) w0 (Keep.refl _)
  go_wp2_with fail
  (refine ((uq TF) _ (uq K0)).mono ?_; rintro e w2 ⟨b, rfl, hk⟩; have K2 := hide hk; clear hk)
  clear z0 z1 z2 z3 z4 z5 z6 z7 z8
  cases b
  · go_wp2_with fail
    go_ret
    exact ⟨rfl, (uq K0).trans (uq K2)⟩
  obtain ⟨z0, z1, z2, z3, z4, z5, z6, z7, z8⟩ := (uq HX0) w2 (uq K2)
  go_wp2_with fail
  (refine ((uq TO) _ ((uq K0).trans (uq K2))).mono ?_; rintro e w3 ⟨la, lc, rfl, hk, hnd⟩; have K3 := hide ((uq K2).trans hk); have ND3 := hide hnd; clear hk hnd)
  clear z0 z1 z2 z3 z4 z5 z6 z7 z8
  obtain ⟨z0, z1, z2, z3, z4, z5, z6, z7, z8⟩ := (uq HX0) w3 (uq K3)
  obtain ⟨ad, rfl, hb, e0, e1, e2, e3, e4, e5, e6⟩ := uq HCN
  have y0 := V.far_cell ((uq K0).trans (uq K3)) (by rw [V.add_block9]; exact hb) e0
  have y1 := V.far_cell ((uq K0).trans (uq K3)) (by show (ad.add (j * 7)).block < _; rw [V.add_block9]; exact hb) e1
  have y2 := V.far_cell ((uq K0).trans (uq K3)) (by show (ad.add (j * 7)).block < _; rw [V.add_block9]; exact hb) e2
  have y3 := V.far_cell ((uq K0).trans (uq K3)) (by show (ad.add (j * 7)).block < _; rw [V.add_block9]; exact hb) e3
  have y4 := V.far_cell ((uq K0).trans (uq K3)) (by show (ad.add (j * 7)).block < _; rw [V.add_block9]; exact hb) e4
  have y5 := V.far_cell ((uq K0).trans (uq K3)) (by show (ad.add (j * 7)).block < _; rw [V.add_block9]; exact hb) e5
  have y6 := V.far_cell ((uq K0).trans (uq K3)) (by show (ad.add (j * 7)).block < _; rw [V.add_block9]; exact hb) e6
  clear e0 e1 e2 e3 e4 e5 e6
  have hbx := heap_alloc_new w3 (.cells #[.string s, .slice x1 n1 c1, .slice x2 n2 c2, .slice x3 n3 c3, .slice x4 n4 c4, .slice x5 n5 c5, .int .i64 p] 40)
  have KB := hide ((Keep.refl w3).alloc (.cells #[.string s, .slice x1 n1 c1, .slice x2 n2 c2, .slice x3 n3 c3, .slice x4 n4 c4, .slice x5 n5 c5, .int .i64 p] 40))
  go_upto_region 7 with fail
  generalize w3.alloc (.cells #[.string s, .slice x1 n1 c1, .slice x2 n2 c2, .slice x3 n3 c3, .slice x4 n4 c4, .slice x5 n5 c5, .int .i64 p] 40) = wh at hbx KB ⊢
  obtain ⟨q, HQ⟩ : ∃ q, Hid (w3.heap.size = q) := ⟨_, hide rfl⟩
  rw [uq HQ] at hbx ⊢
  have HXq : Hid (∀ w' : World, Keep wh w' → w'.cell? ⟨q, 0, none⟩ = some (.string s) ∧ w'.cell? ⟨q, 1, none⟩ = some (.slice x1 n1 c1) ∧ w'.cell? ⟨q, 2, none⟩ = some (.slice x2 n2 c2) ∧ w'.cell? ⟨q, 3, none⟩ = some (.slice x3 n3 c3) ∧ w'.cell? ⟨q, 4, none⟩ = some (.slice x4 n4 c4) ∧ w'.cell? ⟨q, 5, none⟩ = some (.slice x5 n5 c5) ∧ w'.cell? ⟨q, 6, none⟩ = some (.int .i64 p)) := hide (fun w' k9 => by
    have h1 := k9.block q (Array.getElem?_eq_some_iff.1 hbx).1
    rw [hbx] at h1
    refine ⟨?_, ?_, ?_, ?_, ?_, ?_, ?_⟩ <;> simp [World.cell?, h1])
  clear hbx y0 y1 y2 y3 y4 y5 y6 z0 z1 z2 z3 z4 z5 z6 z7 z8
  have NDh := hide ((uq ND3).keep (uq KB))
  have KH := hide ((uq K3).trans (uq KB))
  clear ND3
  go_wp2_with fail
  go_loopw [8] (fun vi wr => ∃ k : Nat, vi = .int .i64 (k : Int) ∧ k ≤ n1 ∧ Hid (Keep wh wr)) (fun vi _ => n1 - (intOf vi).toNat)
  case atStart => exact ⟨0, rfl, Nat.zero_le _, hide (Keep.refl _)⟩
  case round =>
    obtain ⟨k, rfl, hk, KW⟩ := hrel
    obtain ⟨f0, f1, f2, f3, f4, f5, f6⟩ := (uq HXq) wr (uq KW)
    by_cases hlt : k < n1
    · have li : (k : Int) < (n1 : Int) := by omega
      obtain ⟨bd, rfl, hbb, e0, e1, e2, e3, e4, e5, e6, e7, e8, e9, e10⟩ := (uq HC) k hlt
      have KWW := hide ((uq K0).trans ((uq KH).trans (uq KW)))
      have y0 := V.far_cell (uq KWW) (by rw [V.add_block9]; exact hbb) e0
      have y1 := V.far_cell (uq KWW) (by show (bd.add (k * 11)).block < _; rw [V.add_block9]; exact hbb) e1
      have y2 := V.far_cell (uq KWW) (by show (bd.add (k * 11)).block < _; rw [V.add_block9]; exact hbb) e2
      have y3 := V.far_cell (uq KWW) (by show (bd.add (k * 11)).block < _; rw [V.add_block9]; exact hbb) e3
      have y4 := V.far_cell (uq KWW) (by show (bd.add (k * 11)).block < _; rw [V.add_block9]; exact hbb) e4
      have y5 := V.far_cell (uq KWW) (by show (bd.add (k * 11)).block < _; rw [V.add_block9]; exact hbb) e5
      have y6 := V.far_cell (uq KWW) (by show (bd.add (k * 11)).block < _; rw [V.add_block9]; exact hbb) e6
      have y7 := V.far_cell (uq KWW) (by show (bd.add (k * 11)).block < _; rw [V.add_block9]; exact hbb) e7
      have y8 := V.far_cell (uq KWW) (by show (bd.add (k * 11)).block < _; rw [V.add_block9]; exact hbb) e8
      have y9 := V.far_cell (uq KWW) (by show (bd.add (k * 11)).block < _; rw [V.add_block9]; exact hbb) e9
      have y10 := V.far_cell (uq KWW) (by show (bd.add (k * 11)).block < _; rw [V.add_block9]; exact hbb) e10
      clear e0 e1 e2 e3 e4 e5 e6 e7 e8 e9 e10
      have hbx := heap_alloc_new wr (.cells #[.string (sv (T9 k)), .int .i64 (V1 k), .int .i64 (V2 k), .int .i64 (V3 k), .int .i64 (V4 k), .int .i64 (V5 k), .int .i64 (V6 k), .int .i64 (V7 k), .int .i64 (V8 k), .int .i64 (V9 k), .int .i64 (V10 k)] 42)
      have KP := hide ((Keep.refl wr).alloc (.cells #[.string (sv (T9 k)), .int .i64 (V1 k), .int .i64 (V2 k), .int .i64 (V3 k), .int .i64 (V4 k), .int .i64 (V5 k), .int .i64 (V6 k), .int .i64 (V7 k), .int .i64 (V8 k), .int .i64 (V9 k), .int .i64 (V10 k)] 42))
      go_upto_region 11 with fail
      generalize wr.alloc (.cells #[.string (sv (T9 k)), .int .i64 (V1 k), .int .i64 (V2 k), .int .i64 (V3 k), .int .i64 (V4 k), .int .i64 (V5 k), .int .i64 (V6 k), .int .i64 (V7 k), .int .i64 (V8 k), .int .i64 (V9 k), .int .i64 (V10 k)] 42) = wp at hbx KP ⊢
      obtain ⟨q2, HQ2⟩ : ∃ q, Hid (wr.heap.size = q) := ⟨_, hide rfl⟩
      rw [uq HQ2] at hbx ⊢
      have HX2 : Hid (∀ w' : World, Keep wp w' → w'.cell? ⟨q2, 0, none⟩ = some (.string (sv (T9 k))) ∧ w'.cell? ⟨q2, 1, none⟩ = some (.int .i64 (V1 k)) ∧ w'.cell? ⟨q2, 2, none⟩ = some (.int .i64 (V2 k)) ∧ w'.cell? ⟨q2, 3, none⟩ = some (.int .i64 (V3 k)) ∧ w'.cell? ⟨q2, 4, none⟩ = some (.int .i64 (V4 k)) ∧ w'.cell? ⟨q2, 5, none⟩ = some (.int .i64 (V5 k)) ∧ w'.cell? ⟨q2, 6, none⟩ = some (.int .i64 (V6 k)) ∧ w'.cell? ⟨q2, 7, none⟩ = some (.int .i64 (V7 k)) ∧ w'.cell? ⟨q2, 8, none⟩ = some (.int .i64 (V8 k)) ∧ w'.cell? ⟨q2, 9, none⟩ = some (.int .i64 (V9 k)) ∧ w'.cell? ⟨q2, 10, none⟩ = some (.int .i64 (V10 k))) := hide (fun w' k9 => by
        have h1 := k9.block q2 (Array.getElem?_eq_some_iff.1 hbx).1
        rw [hbx] at h1
        refine ⟨?_, ?_, ?_, ?_, ?_, ?_, ?_, ?_, ?_, ?_, ?_⟩ <;> simp [World.cell?, h1])
      clear hbx y0 y1 y2 y3 y4 y5 y6 y7 y8 y9 y10 f0 f1 f2 f3 f4 f5 f6
      have KP2 := hide ((uq KW).trans (uq KP))
      obtain ⟨f0, f1, f2, f3, f4, f5, f6⟩ := (uq HXq) wp (uq KP2)
      obtain ⟨g0, g1, g2, g3, g4, g5, g6, g7, g8, g9, g10⟩ := (uq HX2) wp (Keep.refl _)
      have TK := hide ((uq TH) k hlt wp ((uq K0).trans ((uq KH).trans (uq KP2))))
      have hJ := (uq HJ) k hlt
      obtain ⟨q1, q3, q4, q5, q6, q7, q8, q9, q10, q11, q12⟩ := (uq HQ9) k hlt
      have Q1 := hide q1
      have Q8 := hide q8
      have Q12 := hide q12
      clear q1 q8 q12
      obtain ⟨jj, hjj⟩ : ∃ x, J k = x := ⟨_, rfl⟩
      rw [hjj] at TK hJ q5 q9
      have Q1b : Hid (¬ G jj < V9 k) := hide (by rw [← hjj]; have := uq Q1; omega)
      clear hjj Q1
      go_wp2_with fail
      (refine (uq TK).mono ?_; rintro e w5 ⟨rfl, hk9⟩; have K5 := hide hk9; clear hk9)
      clear f0 f1 f2 f3 f4 f5 f6 g0 g1 g2 g3 g4 g5 g6 g7 g8 g9 g10
      have NDk := (uq NDh).keep ((uq KP2).trans (uq K5))
      obtain ⟨nd, na, nc, e9, hnb, r1, r2, r3, _, _⟩ := NDk jj hJ
      clear NDk
      subst e9
      have HD9 : Hid (∀ w', Keep w5 w' → (w'.cell? ⟨(nd.add (jj * 7)).block, (nd.add (jj * 7)).off + 1, none⟩ = some (.int .i64 (G jj)) ∧ w'.cell? ⟨(nd.add (jj * 7)).block, (nd.add (jj * 7)).off + 2, none⟩ = some (.int .i64 (Y jj)) ∧ w'.cell? ⟨(nd.add (jj * 7)).block, (nd.add (jj * 7)).off + 3, none⟩ = some (.int .i64 (R jj))) ∧ w'.cell? ⟨q2, 0, none⟩ = some (.string (sv (T9 k))) ∧ w'.cell? ⟨q2, 1, none⟩ = some (.int .i64 (V1 k)) ∧ w'.cell? ⟨q2, 2, none⟩ = some (.int .i64 (V2 k)) ∧ w'.cell? ⟨q2, 3, none⟩ = some (.int .i64 (V3 k)) ∧ w'.cell? ⟨q2, 4, none⟩ = some (.int .i64 (V4 k)) ∧ w'.cell? ⟨q2, 5, none⟩ = some (.int .i64 (V5 k)) ∧ w'.cell? ⟨q2, 6, none⟩ = some (.int .i64 (V6 k)) ∧ w'.cell? ⟨q2, 7, none⟩ = some (.int .i64 (V7 k)) ∧ w'.cell? ⟨q2, 8, none⟩ = some (.int .i64 (V8 k)) ∧ w'.cell? ⟨q2, 9, none⟩ = some (.int .i64 (V9 k)) ∧ w'.cell? ⟨q2, 10, none⟩ = some (.int .i64 (V10 k))) := hide (fun w' k9 => ⟨⟨W.Keep.cl k9 r1, W.Keep.cl k9 r2, W.Keep.cl k9 r3⟩, (uq HX2) w' ((uq K5).trans k9)⟩)
      clear r1 r2 r3 hnb
      have h1 : ¬ n3 ≤ jj := by omega
      have h2 : ¬ (n3 : Int) ≤ (jj : Int) := by omega
      have h3 : decide ((n3 : Int) ≤ (jj : Int)) = false := decide_eq_false h2
      have h4 : decide (n3 ≤ jj) = false := decide_eq_false h1
      have h5 : decide (G jj < V9 k) = false := decide_eq_false (by have := uq Q1b; omega)
      have h6 : decide (m1 k < m2 k) = false := decide_eq_false (by have := uq Q8; omega)
      have h7 : decide (m3 k < m4 k) = false := decide_eq_false (by have := uq Q12; omega)
      have h8 : ¬ (jj : Int) < 0 := by omega
      have h9 : decide ((jj : Int) < 0) = false := decide_eq_false h8
      go_upto_region 12 with fail
      refine wp_region_held_drew (S := (fun w' => (w'.cell? ⟨(nd.add (jj * 7)).block, (nd.add (jj * 7)).off + 1, none⟩ = some (.int .i64 (G jj)) ∧ w'.cell? ⟨(nd.add (jj * 7)).block, (nd.add (jj * 7)).off + 2, none⟩ = some (.int .i64 (Y jj)) ∧ w'.cell? ⟨(nd.add (jj * 7)).block, (nd.add (jj * 7)).off + 3, none⟩ = some (.int .i64 (R jj))) ∧ w'.cell? ⟨q2, 0, none⟩ = some (.string (sv (T9 k))) ∧ w'.cell? ⟨q2, 1, none⟩ = some (.int .i64 (V1 k)) ∧ w'.cell? ⟨q2, 2, none⟩ = some (.int .i64 (V2 k)) ∧ w'.cell? ⟨q2, 3, none⟩ = some (.int .i64 (V3 k)) ∧ w'.cell? ⟨q2, 4, none⟩ = some (.int .i64 (V4 k)) ∧ w'.cell? ⟨q2, 5, none⟩ = some (.int .i64 (V5 k)) ∧ w'.cell? ⟨q2, 6, none⟩ = some (.int .i64 (V6 k)) ∧ w'.cell? ⟨q2, 7, none⟩ = some (.int .i64 (V7 k)) ∧ w'.cell? ⟨q2, 8, none⟩ = some (.int .i64 (V8 k)) ∧ w'.cell? ⟨q2, 9, none⟩ = some (.int .i64 (V9 k)) ∧ w'.cell? ⟨q2, 10, none⟩ = some (.int .i64 (V10 k)))) (by kernel_rfl) (by exact (uq HD9) _ (Keep.refl w5).drew) (fun hHeld => ?_)
      refine tkk 0 52 hHeld ?_; try simp only [Act.put, Ya, Yb, Yc]
      refine tkk 1 53 hHeld ?_; try simp only [Act.put, Ya, Yb, Yc]
      refine tkk 2 54 hHeld ?_; try simp only [Act.put, Ya, Yb, Yc]
      refine tkk 3 55 hHeld ?_; try simp only [Act.put, Ya, Yb, Yc]
      refine tkk 4 56 hHeld ?_; try simp only [Act.put, Ya, Yb, Yc]
      refine tkk 5 57 hHeld ?_; try simp only [Act.put, Ya, Yb, Yc]
      refine tkk 6 58 hHeld ?_; try simp only [Act.put, Ya, Yb, Yc]
      refine tkk 7 59 hHeld ?_; try simp only [Act.put, Ya, Yb, Yc]
      refine tkk 8 60 hHeld ?_; try simp only [Act.put, Ya, Yb, Yc]
      refine tkk 9 61 hHeld ?_; try simp only [Act.put, Ya, Yb, Yc]
      refine tkk 10 62 hHeld ?_; try simp only [Act.put, Ya, Yb, Yc]
      refine tkk 11 63 hHeld ?_; try simp only [Act.put, Ya, Yb, Yc]
      refine tkk 12 64 hHeld ?_; try simp only [Act.put, Ya, Yb, Yc]
      refine tkk 13 65 hHeld ?_; try simp only [Act.put, Ya, Yb, Yc]
      refine tkk 14 66 hHeld ?_; try simp only [Act.put, Ya, Yb, Yc]
      refine tkk 15 67 hHeld ?_; try simp only [Act.put, Ya, Yb, Yc]
      refine tkk 16 68 hHeld ?_; try simp only [Act.put, Ya, Yb, Yc]
      refine tkk 17 69 hHeld ?_; try simp only [Act.put, Ya, Yb, Yc]
      refine tkk 18 70 hHeld ?_; try simp only [Act.put, Ya, Yb, Yc]
      refine tkk 19 71 hHeld ?_; try simp only [Act.put, Ya, Yb, Yc]
      refine tkk 20 72 hHeld ?_; try simp only [Act.put, Ya, Yb, Yc]
      refine tkk 21 73 hHeld ?_; try simp only [Act.put, Ya, Yb, Yc]
      refine tkk 22 74 hHeld ?_; try simp only [Act.put, Ya, Yb, Yc]
      refine tkk 23 75 hHeld ?_; try simp only [Act.put, Ya, Yb, Yc]
      refine tkk 24 76 hHeld ?_; try simp only [Act.put, Ya, Yb, Yc]
      refine tkk 25 77 hHeld ?_; try simp only [Act.put, Ya, Yb, Yc]
      refine tkk 26 78 hHeld ?_; try simp only [Act.put, Ya, Yb, Yc]
      refine tkk 27 79 hHeld ?_; try simp only [Act.put, Ya, Yb, Yc]
      refine tkk 28 80 hHeld ?_; try simp only [Act.put, Ya, Yb, Yc]
      refine tkk 29 81 hHeld ?_; try simp only [Act.put, Ya, Yb, Yc]
      refine tkk 30 82 hHeld ?_; try simp only [Act.put, Ya, Yb, Yc]
      refine tkk 31 83 hHeld ?_; try simp only [Act.put, Ya, Yb, Yc]
      refine tkk 32 84 hHeld ?_; try simp only [Act.put, Ya, Yb, Yc]
      refine tkk 33 85 hHeld ?_; try simp only [Act.put, Ya, Yb, Yc]
      refine tkk 34 86 hHeld ?_; try simp only [Act.put, Ya, Yb, Yc]
      refine tkk 35 87 hHeld ?_; try simp only [Act.put, Ya, Yb, Yc]
      refine tkk 36 88 hHeld ?_; try simp only [Act.put, Ya, Yb, Yc]
      refine tkk 37 89 hHeld ?_; try simp only [Act.put, Ya, Yb, Yc]
      refine tkk 38 90 hHeld ?_; try simp only [Act.put, Ya, Yb, Yc]
      refine tkk 39 91 hHeld ?_; try simp only [Act.put, Ya, Yb, Yc]
      refine tkk 40 92 hHeld ?_; try simp only [Act.put, Ya, Yb, Yc]
      refine tkk 41 93 hHeld ?_; try simp only [Act.put, Ya, Yb, Yc]
      refine tkk 42 94 hHeld ?_; try simp only [Act.put, Ya, Yb, Yc]
      refine tkk 43 95 hHeld ?_; try simp only [Act.put, Ya, Yb, Yc]
      refine tkk 44 96 hHeld ?_; try simp only [Act.put, Ya, Yb, Yc]
      refine tkk 45 97 hHeld ?_; try simp only [Act.put, Ya, Yb, Yc]
      refine tkk 46 98 hHeld ?_; try simp only [Act.put, Ya, Yb, Yc]
      refine tkk 47 99 hHeld ?_; try simp only [Act.put, Ya, Yb, Yc]
      refine tkk 48 100 hHeld ?_; try simp only [Act.put, Ya, Yb, Yc]
      refine tkk 49 101 hHeld ?_; try simp only [Act.put, Ya, Yb, Yc]
      refine tkk 50 102 hHeld ?_; try simp only [Act.put, Ya, Yb, Yc]
      refine tkk 51 103 hHeld ?_; try simp only [Act.put, Ya, Yb, Yc]
      refine wpAnyH_done (by kernel_rfl) ?_ _
      clear hHeld
      go_wp2_with fail
      go_roundw
      case rel => exact ⟨k + 1, by go_num, by omega, hide (((uq KP2).trans (uq K5)).drew)⟩
      case measure => simp [intOf]; omega
    · have li : ¬ (k : Int) < (n1 : Int) := by omega
      go_wp2_with fail
      clear f0 f1 f2 f3 f4 f5 f6
      have HS9 : Hid (∀ k, k ≤ n3 → ws WN k ≤ 1000) := hide (fun k hk => Nat.le_trans (ws_mono WN n3 hk) (by rw [uq HSUM]; exact hn2))
      go_loopw [11, 12] (fun va vi wr => ∃ k : Nat, vi = .int .i64 (k : Int) ∧ va = .int .i64 ((ws WN k : Nat) : Int) ∧ k ≤ n3 ∧ Hid (Keep wh wr)) (fun va vi _ => n3 - (intOf vi).toNat)
      case atStart => exact ⟨0, rfl, rfl, Nat.zero_le _, KW⟩
      case round =>
        obtain ⟨k, rfl, rfl, hk2, KX⟩ := hrel
        by_cases hkt : k < n3
        · have lk : (k : Int) < (n3 : Int) := by omega
          obtain ⟨nd, na, nc, e9, hnb, r1, _, _, r6, hw⟩ := ((uq NDh).keep (uq KX)) k hkt
          subst e9
          have HSk := (uq HS9) (k + 1) hkt
          rw [ws] at HSk
          have HWk : Hid (ws WN k + WN k = ws WN (k + 1)) := hide rfl
          obtain ⟨wn, hwn⟩ : ∃ x, WN k = x := ⟨_, rfl⟩
          obtain ⟨wk, hwk⟩ : ∃ x, ws WN k = x := ⟨_, rfl⟩
          rw [hwn] at r6 HSk HWk hw
          rw [hwk] at HSk HWk
          rw [hwk]
          have HWS9 := hide ((uq HWS) k hkt)
          rw [hwn] at HWS9
          clear hwn hwk
          have HE9 : Hid (∀ w', Keep wr w' → w'.cell? ⟨(nd.add (k * 7)).block, (nd.add (k * 7)).off + 1, none⟩ = some (.int .i64 (G k)) ∧ w'.cell? ⟨(nd.add (k * 7)).block, (nd.add (k * 7)).off + 6, none⟩ = some (.slice na wn nc)) := hide (fun w' k9 => ⟨W.Keep.cl k9 r1, W.Keep.cl k9 r6⟩)
          have HW9 := hide hw
          clear hw r1
          obtain ⟨wo, hwo⟩ : ∃ wo, wo = wr := ⟨_, rfl⟩
          subst hwo
          go_wp2_with fail
          clear r6
          go_loopw [13] (fun vm wq => ∃ m : Nat, vm = .int .i64 (m : Int) ∧ m ≤ wn ∧ Hid (Keep wo wq)) (fun vm _ => wn - (intOf vm).toNat)
          case atStart => exact ⟨0, rfl, Nat.zero_le _, hide (Keep.refl _)⟩
          case round =>
            obtain ⟨m, rfl, hm, KM⟩ := hrel
            obtain ⟨r1, r6⟩ := (uq HE9) wr (uq KM)
            by_cases hmt : m < wn
            · have lm : (m : Int) < (wn : Int) := by omega
              obtain ⟨wd, e9, hwb, t1, t2⟩ := (uq HW9) m hmt
              obtain ⟨s8, s9⟩ := (uq HWS9) m hmt
              have h5 : decide (G k < ss k m) = false := decide_eq_false (by omega)
              clear s9
              subst e9
              have HF9 : Hid (∀ w', Keep wr w' → w'.cell? ⟨(nd.add (k * 7)).block, (nd.add (k * 7)).off + 1, none⟩ = some (.int .i64 (G k)) ∧ w'.cell? ⟨(nd.add (k * 7)).block, (nd.add (k * 7)).off + 6, none⟩ = some (.slice (some wd) wn nc) ∧ w'.cell? ⟨(wd.add (m * 3)).block, (wd.add (m * 3)).off + 1, none⟩ = some (.int .i64 (v1 k m)) ∧ w'.cell? ⟨(wd.add (m * 3)).block, (wd.add (m * 3)).off + 2, none⟩ = some (.int .i64 (v2 k m))) := hide (fun w' k9 => ⟨W.Keep.cl k9 r1, W.Keep.cl k9 r6, W.Keep.cl ((uq KM).trans k9) t1, W.Keep.cl ((uq KM).trans k9) t2⟩)
              clear t1 t2
              go_upto_region 22 with fail
              clear r1 r6
              refine wp_region_held_drew (S := (fun w' => w'.cell? ⟨(nd.add (k * 7)).block, (nd.add (k * 7)).off + 1, none⟩ = some (.int .i64 (G k)) ∧ w'.cell? ⟨(nd.add (k * 7)).block, (nd.add (k * 7)).off + 6, none⟩ = some (.slice (some wd) wn nc) ∧ w'.cell? ⟨(wd.add (m * 3)).block, (wd.add (m * 3)).off + 1, none⟩ = some (.int .i64 (v1 k m)) ∧ w'.cell? ⟨(wd.add (m * 3)).block, (wd.add (m * 3)).off + 2, none⟩ = some (.int .i64 (v2 k m)))) (by kernel_rfl) (by exact (uq HF9) _ (Keep.refl wr).drew) (fun hHeld => ?_)
              refine tkk 0 128 hHeld ?_; try simp only [Act.put, Ya, Yb, Yc]
              refine tkk 1 129 hHeld ?_; try simp only [Act.put, Ya, Yb, Yc]
              refine tkk 2 130 hHeld ?_; try simp only [Act.put, Ya, Yb, Yc]
              refine tkk 3 131 hHeld ?_; try simp only [Act.put, Ya, Yb, Yc]
              refine tkk 4 132 hHeld ?_; try simp only [Act.put, Ya, Yb, Yc]
              refine tkk 5 133 hHeld ?_; try simp only [Act.put, Ya, Yb, Yc]
              refine tkk 6 134 hHeld ?_; try simp only [Act.put, Ya, Yb, Yc]
              refine tkk 7 135 hHeld ?_; try simp only [Act.put, Ya, Yb, Yc]
              refine tkk 8 136 hHeld ?_; try simp only [Act.put, Ya, Yb, Yc]
              refine tkk 9 137 hHeld ?_; try simp only [Act.put, Ya, Yb, Yc]
              refine tkk 10 138 hHeld ?_; try simp only [Act.put, Ya, Yb, Yc]
              refine tkk 11 139 hHeld ?_; try simp only [Act.put, Ya, Yb, Yc]
              refine tkk 12 140 hHeld ?_; try simp only [Act.put, Ya, Yb, Yc]
              refine tkk 13 141 hHeld ?_; try simp only [Act.put, Ya, Yb, Yc]
              refine tkk 14 142 hHeld ?_; try simp only [Act.put, Ya, Yb, Yc]
              refine tkk 15 143 hHeld ?_; try simp only [Act.put, Ya, Yb, Yc]
              refine tkk 16 144 hHeld ?_; try simp only [Act.put, Ya, Yb, Yc]
              refine tkk 17 145 hHeld ?_; try simp only [Act.put, Ya, Yb, Yc]
              refine tkk 18 146 hHeld ?_; try simp only [Act.put, Ya, Yb, Yc]
              refine tkk 19 147 hHeld ?_; try simp only [Act.put, Ya, Yb, Yc]
              refine tkk 20 148 hHeld ?_; try simp only [Act.put, Ya, Yb, Yc]
              refine tkk 21 149 hHeld ?_; try simp only [Act.put, Ya, Yb, Yc]
              refine tkk 22 150 hHeld ?_; try simp only [Act.put, Ya, Yb, Yc]
              refine tkk 23 151 hHeld ?_; try simp only [Act.put, Ya, Yb, Yc]
              refine tkk 24 152 hHeld ?_; try simp only [Act.put, Ya, Yb, Yc]
              refine wpAnyH_done (by kernel_rfl) ?_ _
              clear hHeld
              go_wp2_with fail
              go_roundw
              case rel => exact ⟨m + 1, by go_num, by omega, hide ((uq KM).drew)⟩
              case measure => simp [intOf]; omega
            · have lm : ¬ (m : Int) < (wn : Int) := by omega
              go_wp2_with fail
              go_roundw
              case rel => exact ⟨k + 1, by go_num, by rw [← uq HWk]; go_num, by omega, hide ((uq KX).trans (uq KM))⟩
              case measure => simp [intOf]; omega
        · have lk : ¬ (k : Int) < (n3 : Int) := by omega
          obtain rfl : k = n3 := by omega
          rw [uq HSUM]
          obtain ⟨f0, f1, f2, f3, f4, f5, f6⟩ := (uq HXq) wr (uq KX)
          have u1 : ((n2 : Int) == (n2 : Int)) = true := by simp
          have u2 : ((k : Int) == (k : Int)) = true := by simp
          go_wp2_with fail
          (refine ((uq TA) _).mono ?_; rintro e w9 ⟨rfl, hk9⟩)
          go_wp2_with fail
          go_ret
          exact ⟨rfl, (uq K0).trans ((uq KH).trans ((uq KX).trans hk9))⟩
end Nd
end Go.Proofs.Ytjincjlalopbfaa
