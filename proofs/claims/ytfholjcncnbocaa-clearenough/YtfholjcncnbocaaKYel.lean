/- Yellow, Red and Flash, the program's and the document's; the chapter's examples. -/
import Derived.Test.YtfholjcncnbocaaKClr
namespace Go.Proofs.Ytfholjcncnbocaa
open Go.RowKit
set_option linter.unusedVariables false
set_option linter.unusedSimpArgs false
set_option maxRecDepth 10000
theorem bds2 (W : World) (b : Nat) (x0 x1 x2 y0 y1 y2 : Int) (hb : b < W.heap.size) (h0 : W.cell? ⟨b, 0, none⟩ = some (.int .i64 x0)) (h1 : W.cell? ⟨b, 1, none⟩ = some (.int .i64 x1)) (h2 : W.cell? ⟨b, 2, none⟩ = some (.int .i64 x2))
    (h3 : W.cell? ⟨b, 3, none⟩ = some (.int .i64 y0)) (h4 : W.cell? ⟨b, 4, none⟩ = some (.int .i64 y1)) (h5 : W.cell? ⟨b, 5, none⟩ = some (.int .i64 y2)) :
    Bds W ⟨b, 0, none⟩ 2 (fun k => if k = 0 then (x0, x1, x2) else (y0, y1, y2)) := by
  refine ⟨hb, fun k hk => ?_⟩
  rcases (show k = 0 ∨ k = 1 by omega) with rfl | rfl
  · exact ⟨h0, h1, h2⟩
  · exact ⟨h3, h4, h5⟩
theorem bds3 (W : World) (b : Nat) (x0 x1 x2 y0 y1 y2 z0 z1 z2 : Int) (hb : b < W.heap.size) (h0 : W.cell? ⟨b, 0, none⟩ = some (.int .i64 x0)) (h1 : W.cell? ⟨b, 1, none⟩ = some (.int .i64 x1)) (h2 : W.cell? ⟨b, 2, none⟩ = some (.int .i64 x2))
    (h3 : W.cell? ⟨b, 3, none⟩ = some (.int .i64 y0)) (h4 : W.cell? ⟨b, 4, none⟩ = some (.int .i64 y1)) (h5 : W.cell? ⟨b, 5, none⟩ = some (.int .i64 y2))
    (h6 : W.cell? ⟨b, 6, none⟩ = some (.int .i64 z0)) (h7 : W.cell? ⟨b, 7, none⟩ = some (.int .i64 z1)) (h8 : W.cell? ⟨b, 8, none⟩ = some (.int .i64 z2)) :
    Bds W ⟨b, 0, none⟩ 3 (fun k => if k = 0 then (x0, x1, x2) else if k = 1 then (y0, y1, y2) else (z0, z1, z2)) := by
  refine ⟨hb, fun k hk => ?_⟩
  rcases (show k = 0 ∨ k = 1 ∨ k = 2 by omega) with rfl | rfl | rfl
  · exact ⟨h0, h1, h2⟩
  · exact ⟨h3, h4, h5⟩
  · exact ⟨h6, h7, h8⟩
/-- bounds of two numbers, of three, held by one call -/
theorem within2 (b cap : Nat) (x0 x1 x2 y0 y1 y2 : Int) (r : Bool) (W : World) (hb : b < W.heap.size) (h0 : W.cell? ⟨b, 0, none⟩ = some (.int .i64 x0)) (h1 : W.cell? ⟨b, 1, none⟩ = some (.int .i64 x1)) (h2 : W.cell? ⟨b, 2, none⟩ = some (.int .i64 x2))
    (h3 : W.cell? ⟨b, 3, none⟩ = some (.int .i64 y0)) (h4 : W.cell? ⟨b, 4, none⟩ = some (.int .i64 y1)) (h5 : W.cell? ⟨b, 5, none⟩ = some (.int .i64 y2)) (hr : r = decide ((x1 ≤ x0 ∧ x0 ≤ x2) ∧ y1 ≤ y0 ∧ y0 ≤ y2)) :
    Calls Try.prog 13 #[.slice (some ⟨b, 0, none⟩) 2 cap] W fun e w' => e = .returned (.bool r) ∧ Keep W w' := by
  refine within_core _ 2 cap _ r W (by omega) (hide (bds2 W b x0 x1 x2 y0 y1 y2 hb h0 h1 h2 h3 h4 h5)) ?_ ?_
  · intro k hk h
    rcases (show k = 0 ∨ k = 1 by omega) with rfl | rfl <;> simp at h <;> rw [hr] <;> simp <;> omega
  · intro h
    have q0 := h 0 (by omega)
    have q1 := h 1 (by omega)
    simp at q0 q1
    rw [hr]; simp; omega
theorem within3 (b cap : Nat) (x0 x1 x2 y0 y1 y2 z0 z1 z2 : Int) (r : Bool) (W : World) (hb : b < W.heap.size) (h0 : W.cell? ⟨b, 0, none⟩ = some (.int .i64 x0)) (h1 : W.cell? ⟨b, 1, none⟩ = some (.int .i64 x1)) (h2 : W.cell? ⟨b, 2, none⟩ = some (.int .i64 x2))
    (h3 : W.cell? ⟨b, 3, none⟩ = some (.int .i64 y0)) (h4 : W.cell? ⟨b, 4, none⟩ = some (.int .i64 y1)) (h5 : W.cell? ⟨b, 5, none⟩ = some (.int .i64 y2))
    (h6 : W.cell? ⟨b, 6, none⟩ = some (.int .i64 z0)) (h7 : W.cell? ⟨b, 7, none⟩ = some (.int .i64 z1)) (h8 : W.cell? ⟨b, 8, none⟩ = some (.int .i64 z2)) (hr : r = decide ((x1 ≤ x0 ∧ x0 ≤ x2) ∧ (y1 ≤ y0 ∧ y0 ≤ y2) ∧ z1 ≤ z0 ∧ z0 ≤ z2)) :
    Calls Try.prog 13 #[.slice (some ⟨b, 0, none⟩) 3 cap] W fun e w' => e = .returned (.bool r) ∧ Keep W w' := by
  refine within_core _ 3 cap _ r W (by omega) (hide (bds3 W b x0 x1 x2 y0 y1 y2 z0 z1 z2 hb h0 h1 h2 h3 h4 h5 h6 h7 h8)) ?_ ?_
  · intro k hk h
    rcases (show k = 0 ∨ k = 1 ∨ k = 2 by omega) with rfl | rfl | rfl <;> simp at h <;> rw [hr] <;> simp <;> omega
  · intro h
    have q0 := h 0 (by omega)
    have q1 := h 1 (by omega)
    have q2 := h 2 (by omega)
    simp at q0 q1 q2
    rw [hr]; simp; omega
set_option maxHeartbeats 1000000 in
theorem yellow_any (s g : Int) (w : World) :
    Calls Try.prog 6 #[.int .i64 s, .int .i64 g] w fun e w' => e = .returned (.tuple #[.int .i64 (yN s g), .int .i64 (yE s g)]) ∧ Keep w w' := by
  have W2 := hide within2
  have CU := hide ceil_up
  by_cases h : yK s g = true
  · have hyN : yN s g = up (10000 * s + 10 * (610000 + 1962 * g)) (610000 + 1962 * g) := by
      have hd : 1 ≤ s ∧ s ≤ 10000 ∧ -200 ≤ g ∧ g ≤ 200 := by simpa [yK] using h
      unfold yN; rw [if_pos h, up_add (by omega)]; omega
    have hyE : yE s g = 0 := by unfold yE; rw [if_pos h]
    rw [hyN, hyE]
    have hd : 1 ≤ s ∧ s ≤ 10000 ∧ -200 ≤ g ∧ g ≤ 200 := by simpa [yK] using h
    obtain ⟨d1, d2, d3, d4⟩ := hd
    clear hyN hyE h
    go_enter Try.func6, Try.ntmps6
    go_wp2_with fail
    (refine ((unhide W2) _ _ s 1 10000 g (-200) 200 true _ (by simp [go_sem]) (by simp [go_sem]) (by simp [go_sem]) (by simp [go_sem]) (by simp [go_sem]) (by simp [go_sem]) (by simp [go_sem]) (by simp; omega)).mono ?_; rintro e w2 ⟨rfl, hk⟩)
    have m1 : wrap64 (1962 * g) = 1962 * g := wrap_in (by omega)
    have m2 : wrap64 (610000 + 1962 * g) = 610000 + 1962 * g := wrap_in (by omega)
    have m3 : wrap64 (10000 * s) = 10000 * s := wrap_in (by omega)
    have m4 : wrap64 (10 * (610000 + 1962 * g)) = 10 * (610000 + 1962 * g) := wrap_in (by omega)
    have m5 : wrap64 (10000 * s + 10 * (610000 + 1962 * g)) = 10000 * s + 10 * (610000 + 1962 * g) := wrap_in (by omega)
    go_wp2_with fail
    (refine ((unhide CU) _ _ _ (by omega) (by omega) (by omega) (by omega)).mono ?_; rintro e w3 ⟨rfl, rfl⟩)
    go_wp2_with fail
    go_ret2
    exact ⟨rfl, Keep.trans ((Keep.refl w).alloc _) hk⟩
  · have hyN : yN s g = 0 := by unfold yN; rw [if_neg h]
    have hyE : yE s g = 1 := by unfold yE; rw [if_neg h]
    rw [hyN, hyE]
    have hd : ¬ (1 ≤ s ∧ s ≤ 10000 ∧ -200 ≤ g ∧ g ≤ 200) := by simpa [yK] using h
    have HD := hide hd
    clear hyN hyE h hd
    go_enter Try.func6, Try.ntmps6
    go_wp2_with fail
    (refine ((unhide W2) _ _ s 1 10000 g (-200) 200 false _ (by simp [go_sem]) (by simp [go_sem]) (by simp [go_sem]) (by simp [go_sem]) (by simp [go_sem]) (by simp [go_sem]) (by simp [go_sem]) (by have := unhide HD; simp; omega)).mono ?_; rintro e w2 ⟨rfl, hk⟩)
    go_wp2_with fail
    go_ret2
    exact ⟨rfl, Keep.trans ((Keep.refl w).alloc _) hk⟩
set_option maxHeartbeats 1000000 in
theorem red_any (a b s : Int) (w : World) :
    Calls Try.prog 8 #[.int .i64 a, .int .i64 b, .int .i64 s] w fun e w' => e = .returned (.tuple #[.int .i64 (rN a b s), .int .i64 (rE a b s)]) ∧ Keep w w' := by
  have W2 := hide within3
  have CU := hide ceil_up
  by_cases h : rK a b s = true
  · have hyN : rN a b s = up (10 * (a + b)) s := by unfold rN; rw [if_pos h]
    have hyE : rE a b s = 0 := by unfold rE; rw [if_pos h]
    rw [hyN, hyE]
    have hd : 0 ≤ a ∧ a ≤ 100000 ∧ 0 ≤ b ∧ b ≤ 100000 ∧ 1 ≤ s ∧ s ≤ 10000 := by simpa [rK] using h
    obtain ⟨d1, d2, d3, d4, d5, d6⟩ := hd
    clear hyN hyE h
    go_enter Try.func8, Try.ntmps8
    go_wp2_with fail
    (refine ((unhide W2) _ _ a 0 100000 b 0 100000 s 1 10000 true _ (by simp [go_sem]) (by simp [go_sem]) (by simp [go_sem]) (by simp [go_sem]) (by simp [go_sem]) (by simp [go_sem]) (by simp [go_sem]) (by simp [go_sem]) (by simp [go_sem]) (by simp [go_sem]) (by simp; omega)).mono ?_; rintro e w2 ⟨rfl, hk⟩)
    have m1 : wrap64 (a + b) = a + b := wrap_in (by omega)
    have m2 : wrap64 (10 * (a + b)) = 10 * (a + b) := wrap_in (by omega)
    go_wp2_with fail
    (refine ((unhide CU) _ _ _ (by omega) (by omega) (by omega) (by omega)).mono ?_; rintro e w3 ⟨rfl, rfl⟩)
    go_wp2_with fail
    go_ret2
    exact ⟨rfl, Keep.trans ((Keep.refl w).alloc _) hk⟩
  · have hyN : rN a b s = 0 := by unfold rN; rw [if_neg h]
    have hyE : rE a b s = 1 := by unfold rE; rw [if_neg h]
    rw [hyN, hyE]
    have hd : ¬ (0 ≤ a ∧ a ≤ 100000 ∧ 0 ≤ b ∧ b ≤ 100000 ∧ 1 ≤ s ∧ s ≤ 10000) := by simpa [rK] using h
    have HD := hide hd
    clear hyN hyE h hd
    go_enter Try.func8, Try.ntmps8
    go_wp2_with fail
    (refine ((unhide W2) _ _ a 0 100000 b 0 100000 s 1 10000 false _ (by simp [go_sem]) (by simp [go_sem]) (by simp [go_sem]) (by simp [go_sem]) (by simp [go_sem]) (by simp [go_sem]) (by simp [go_sem]) (by simp [go_sem]) (by simp [go_sem]) (by simp [go_sem]) (by have := unhide HD; simp; omega)).mono ?_; rintro e w2 ⟨rfl, hk⟩)
    go_wp2_with fail
    go_ret2
    exact ⟨rfl, Keep.trans ((Keep.refl w).alloc _) hk⟩
set_option maxHeartbeats 1000000 in
theorem flash_any (a s : Int) (w : World) :
    Calls Try.prog 10 #[.int .i64 a, .int .i64 s] w fun e w' => e = .returned (.tuple #[.int .i64 (fN a s), .int .i64 (fE a s)]) ∧ Keep w w' := by
  have W2 := hide within2
  have CU := hide ceil_up
  by_cases h : fK a s = true
  · have hyN : fN a s = up (10 * a) s := by unfold fN; rw [if_pos h]
    have hyE : fE a s = 0 := by unfold fE; rw [if_pos h]
    rw [hyN, hyE]
    have hd : 1 ≤ a ∧ a ≤ 100000 ∧ 1 ≤ s ∧ s ≤ 10000 := by simpa [fK] using h
    obtain ⟨d1, d2, d5, d6⟩ := hd
    clear hyN hyE h
    go_enter Try.func10, Try.ntmps10
    go_wp2_with fail
    (refine ((unhide W2) _ _ a 1 100000 s 1 10000 true _ (by simp [go_sem]) (by simp [go_sem]) (by simp [go_sem]) (by simp [go_sem]) (by simp [go_sem]) (by simp [go_sem]) (by simp [go_sem]) (by simp; omega)).mono ?_; rintro e w2 ⟨rfl, hk⟩)
    have m2 : wrap64 (10 * a) = 10 * a := wrap_in (by omega)
    go_wp2_with fail
    (refine ((unhide CU) _ _ _ (by omega) (by omega) (by omega) (by omega)).mono ?_; rintro e w3 ⟨rfl, rfl⟩)
    go_wp2_with fail
    go_ret2
    exact ⟨rfl, Keep.trans ((Keep.refl w).alloc _) hk⟩
  · have hyN : fN a s = 0 := by unfold fN; rw [if_neg h]
    have hyE : fE a s = 1 := by unfold fE; rw [if_neg h]
    rw [hyN, hyE]
    have hd : ¬ (1 ≤ a ∧ a ≤ 100000 ∧ 1 ≤ s ∧ s ≤ 10000) := by simpa [fK] using h
    have HD := hide hd
    clear hyN hyE h hd
    go_enter Try.func10, Try.ntmps10
    go_wp2_with fail
    (refine ((unhide W2) _ _ a 1 100000 s 1 10000 false _ (by simp [go_sem]) (by simp [go_sem]) (by simp [go_sem]) (by simp [go_sem]) (by simp [go_sem]) (by simp [go_sem]) (by simp [go_sem]) (by have := unhide HD; simp; omega)).mono ?_; rintro e w2 ⟨rfl, hk⟩)
    go_wp2_with fail
    go_ret2
    exact ⟨rfl, Keep.trans ((Keep.refl w).alloc _) hk⟩
set_option maxHeartbeats 1000000 in
theorem awake_any (w : World) : Calls Try.prog 12 #[] w fun e w' => e = .returned (.bool true) ∧ Keep w w' := by
  have YA := hide yellow_any
  have RA := hide red_any
  have FA := hide flash_any
  have e1 : yN 1500 0 = 35 := by decide
  have e2 : yE 1500 0 = 0 := by decide
  have e3 : rN 1800 600 1500 = 16 := by decide
  have e4 : rE 1800 600 1500 = 0 := by decide
  have e5 : fN 1500 120 = 125 := by decide
  have e6 : fE 1500 120 = 0 := by decide
  go_enter Try.func12, Try.ntmps12
  go_wp2_with fail
  (refine ((unhide YA) _ _ _).mono ?_; rintro e w1 ⟨rfl, k1⟩; rw [e1, e2])
  go_wp2_with fail
  (refine ((unhide RA) _ _ _ _).mono ?_; rintro e w2 ⟨rfl, k2⟩; rw [e3, e4])
  go_wp2_with fail
  (refine ((unhide FA) _ _ _).mono ?_; rintro e w3 ⟨rfl, k3⟩; rw [e5, e6])
  go_wp2_with fail
  go_ret
  exact ⟨rfl, (k1.trans k2).trans k3⟩
end Go.Proofs.Ytfholjcncnbocaa
