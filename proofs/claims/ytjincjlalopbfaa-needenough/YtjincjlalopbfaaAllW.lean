/- Package clear's calls: bounds held by one call, quotients rounded up; Yellow, Red, Flash. -/
import Derived.Test.YtjincjlalopbfaaKMath
import Derived.Test.YtjincjlalopbfaaChecked
import Derived.Test.YtjincjlalopbfaaLSkip
import Derived.LoopTactic
import Derived.Test.YtjincjlalopbfaaFracV
import Derived.Test.YtjincjlalopbfaaWholeQ
import Derived.Deep.DeepCutAuto
import Derived.Deep.DrawnRows
namespace Go.Proofs.Ytjincjlalopbfaa
open Go.RowKit
set_option linter.unusedVariables false
set_option linter.unusedSimpArgs false
set_option maxRecDepth 10000
set_option maxHeartbeats 400000 in
theorem ceil_p0 (a b t : Int) (w : World) (h2 : a ≤ 9223372036854775807) (h4 : b ≤ 9223372036854775807) (ha : 0 ≤ a) (hb : 0 < b) (e1 : a.tdiv b = t) (e2 : a.tmod b = 0) (e3 : a / b = t) (e4 : a % b = 0) (t1 : 0 ≤ t) (t2 : t ≤ 9223372036854775807) :
    Calls Try.prog 54 #[.int .i64 a, .int .i64 b] w fun e w' => e = .returned (.tuple #[.int .i64 t, .int .i64 0]) ∧ w' = w := by
  have hda : decide (a < 0) = false := by simp; omega
  have hdb : decide (b < 0) = false := by simp; omega
  have hz : (b == 0) = false := by simp; omega
  have hx1 : (a == -9223372036854775808) = false := by simp; omega
  go_enter Try.func54, Try.ntmps54
  go_wp2
  go_ret2
  exact ⟨rfl, rfl⟩
set_option maxHeartbeats 400000 in
theorem ceil_p1 (a b t m : Int) (w : World) (h2 : a ≤ 9223372036854775807) (h4 : b ≤ 9223372036854775807) (ha : 0 ≤ a) (hb : 0 < b) (e1 : a.tdiv b = t) (e2 : a.tmod b = m) (e3 : a / b = t) (e4 : a % b = m) (hm : (m == 0) = false) (hm' : ¬ m = 0) (t1 : 0 ≤ t) (t2 : t ≤ 4611686018427387904) :
    Calls Try.prog 54 #[.int .i64 a, .int .i64 b] w fun e w' => e = .returned (.tuple #[.int .i64 (t + 1), .int .i64 0]) ∧ w' = w := by
  have hmn : (m != 0) = true := by simp [hm']
  have hda : decide (a < 0) = false := by simp; omega
  have hdb : decide (b < 0) = false := by simp; omega
  have hz : (b == 0) = false := by simp; omega
  have hx1 : (a == -9223372036854775808) = false := by simp; omega
  go_enter Try.func54, Try.ntmps54
  go_wp2
  go_ret2
  exact ⟨rfl, rfl⟩
theorem ceil_up (a b : Int) (w : World) (h2 : a ≤ 4611686018427387904) (h4 : b ≤ 9223372036854775807) (ha : 0 ≤ a) (hb : 0 < b) :
    Calls Try.prog 54 #[.int .i64 a, .int .i64 b] w fun e w' => e = .returned (.tuple #[.int .i64 (up a b), .int .i64 0]) ∧ w' = w := by
  have d0 : 0 ≤ a / b := Int.ediv_nonneg ha (by omega)
  have d1 : a / b ≤ a := Int.ediv_le_self _ ha
  have e1 : a.tdiv b = a / b := Int.tdiv_eq_ediv_of_nonneg ha
  have e2 : a.tmod b = a % b := Int.tmod_eq_emod_of_nonneg ha
  by_cases hm : a % b = 0
  · rw [show up a b = a / b by unfold up; rw [if_pos hm]; omega]
    exact ceil_p0 a b _ w (by omega) h4 ha hb e1 (by omega) rfl hm d0 (by omega)
  · rw [show up a b = a / b + 1 by unfold up; rw [if_neg hm]]
    exact ceil_p1 a b _ _ w (by omega) h4 ha hb e1 e2 rfl rfl (by simpa using hm) hm d0 (by omega)
/-- bounds one behind another from an address on -/
def Bds (w : World) (ad : Addr) (n : Nat) (f : Nat → Int × Int × Int) : Prop := ad.block < w.heap.size ∧ ∀ k, k < n → w.cell? (ad.add (k * 3)) = some (.int .i64 (f k).1)
  ∧ w.cell? ⟨(ad.add (k * 3)).block, (ad.add (k * 3)).off + 1, none⟩ = some (.int .i64 (f k).2.1) ∧ w.cell? ⟨(ad.add (k * 3)).block, (ad.add (k * 3)).off + 2, none⟩ = some (.int .i64 (f k).2.2)
theorem add_blockK (ad : Addr) (n : Nat) : (ad.add n).block = ad.block := by unfold Addr.add; split <;> rfl
theorem Bds.keep {w w' : World} {ad : Addr} {n : Nat} {f : Nat → Int × Int × Int} (h : Bds w ad n f) (hk : Keep w w') : Bds w' ad n f := by
  have hs := Below.size hk
  have hb := h.1
  refine ⟨by omega, fun k hlt => ?_⟩
  obtain ⟨h4, h5, h6⟩ := h.2 k hlt
  refine ⟨?_, ?_, ?_⟩
  · rw [Below.cell hk (by rw [add_blockK]; exact hb)]; exact h4
  · rw [Below.cell (p := ⟨(ad.add (k * 3)).block, (ad.add (k * 3)).off + 1, none⟩) hk (by show (ad.add (k * 3)).block < _; rw [add_blockK]; exact hb)]; exact h5
  · rw [Below.cell (p := ⟨(ad.add (k * 3)).block, (ad.add (k * 3)).off + 2, none⟩) hk (by show (ad.add (k * 3)).block < _; rw [add_blockK]; exact hb)]; exact h6
set_option maxHeartbeats 2000000 in
theorem within_core (ad : Addr) (n cap : Nat) (f : Nat → Int × Int × Int) (r : Bool) (w : World) (hn : n ≤ 50) (HB : Hid (Bds w ad n f))
    (H1 : Hid (∀ k, k < n → ((f k).1 < (f k).2.1 ∨ (f k).2.2 < (f k).1) → r = false)) (H2 : Hid ((∀ k, k < n → (f k).2.1 ≤ (f k).1 ∧ (f k).1 ≤ (f k).2.2) → r = true)) :
    Calls Try.prog 53 #[.slice (some ad) n cap] w fun e w' => e = .returned (.bool r) ∧ Keep w w' := by
  go_enter Try.func53, Try.ntmps53
  go_wp2_with fail
  go_loopw [7] (fun iv wr => ∃ k : Nat, iv = .int .i64 (k : Int) ∧ k ≤ n ∧ Hid (∀ j, j < k → (f j).2.1 ≤ (f j).1 ∧ (f j).1 ≤ (f j).2.2) ∧ Hid (Keep w wr)) (fun iv _ => n - (intOf iv).toNat)
  case atStart => exact ⟨0, rfl, by omega, hide fun j hj => by omega, hide (Keep.refl _)⟩
  case round =>
    obtain ⟨k, rfl, hk, HS, KW⟩ := hrel
    by_cases hlt : k < n
    · have li : (k : Int) < (n : Int) := by omega
      obtain ⟨c0, c1, c2⟩ := ((uq HB).keep (uq KW)).2 k hlt
      have HQ := hide ((uq H1) k hlt)
      have HT : Hid (((f k).2.1 ≤ (f k).1 ∧ (f k).1 ≤ (f k).2.2) → ∀ j, j < k + 1 → (f j).2.1 ≤ (f j).1 ∧ (f j).1 ≤ (f j).2.2) := by
        intro h j hj
        rcases Nat.lt_succ_iff_lt_or_eq.1 hj with h' | h'
        · exact (uq HS) j h'
        · rw [h']; exact h
      generalize (f k).1 = x at c0 HQ HT
      generalize (f k).2.1 = y at c1 HQ HT
      generalize (f k).2.2 = z at c2 HQ HT
      by_cases h1 : x < y
      · have hr := (uq HQ) (.inl h1)
        subst hr
        go_wp2_with fail
        go_ret
        exact ⟨rfl, by repeat (first | exact uq KW | apply Keep.alloc | apply Keep.drew)⟩
      · by_cases h2 : z < x
        · have hr := (uq HQ) (.inr h2)
          subst hr
          go_wp2_with fail
          go_ret
          exact ⟨rfl, by repeat (first | exact uq KW | apply Keep.alloc | apply Keep.drew)⟩
        · have HN := hide ((uq HT) ⟨by omega, by omega⟩)
          go_wp2_with fail
          go_roundw
          case rel => exact ⟨k + 1, by go_num, by omega, HN, hide (by repeat (first | exact uq KW | apply Keep.alloc | apply Keep.drew))⟩
          case measure => simp [intOf]; omega
    · have li : ¬ (k : Int) < (n : Int) := by omega
      have hr := (uq H2) (fun j hj => (uq HS) j (by omega))
      subst hr
      go_wp2_with fail
      go_ret
      exact ⟨rfl, uq KW⟩
end Go.Proofs.Ytjincjlalopbfaa

namespace Go.Proofs.Ytjincjlalopbfaa
open Go.RowKit
set_option linter.unusedVariables false
set_option linter.unusedSimpArgs false
set_option maxRecDepth 10000
theorem bds2 (W : World) (b : Nat) (x0 x1 x2 y0 y1 y2 : Int) (hb : b < W.heap.size) (h0 : W.cell? ⟨b, 0, none⟩ = some (.int .i64 x0)) (h1 : W.cell? ⟨b, 1, none⟩ = some (.int .i64 x1)) (h2 : W.cell? ⟨b, 2, none⟩ = some (.int .i64 x2))
    (h3 : W.cell? ⟨b, 3, none⟩ = some (.int .i64 y0)) (h4 : W.cell? ⟨b, 4, none⟩ = some (.int .i64 y1)) (h5 : W.cell? ⟨b, 5, none⟩ = some (.int .i64 y2)) :
    Bds W ⟨b, 0, none⟩ 2 (fun k => if k = 0 then (x0, x1, x2) else (y0, y1, y2)) := by
  refine ⟨hb, fun k hk => ?_⟩
  rcases (show k = 0 ∨ k = 1 by omega) with rfl | rfl
  · exact ⟨h0, h1, h2⟩
  · exact ⟨h3, h4, h5⟩
theorem bds3 (W : World) (b : Nat) (x0 x1 x2 y0 y1 y2 z0 z1 z2 : Int) (hb : b < W.heap.size) (h0 : W.cell? ⟨b, 0, none⟩ = some (.int .i64 x0)) (h1 : W.cell? ⟨b, 1, none⟩ = some (.int .i64 x1)) (h2 : W.cell? ⟨b, 2, none⟩ = some (.int .i64 x2))
    (h3 : W.cell? ⟨b, 3, none⟩ = some (.int .i64 y0)) (h4 : W.cell? ⟨b, 4, none⟩ = some (.int .i64 y1)) (h5 : W.cell? ⟨b, 5, none⟩ = some (.int .i64 y2))
    (h6 : W.cell? ⟨b, 6, none⟩ = some (.int .i64 z0)) (h7 : W.cell? ⟨b, 7, none⟩ = some (.int .i64 z1)) (h8 : W.cell? ⟨b, 8, none⟩ = some (.int .i64 z2)) :
    Bds W ⟨b, 0, none⟩ 3 (fun k => if k = 0 then (x0, x1, x2) else if k = 1 then (y0, y1, y2) else (z0, z1, z2)) := by
  refine ⟨hb, fun k hk => ?_⟩
  rcases (show k = 0 ∨ k = 1 ∨ k = 2 by omega) with rfl | rfl | rfl
  · exact ⟨h0, h1, h2⟩
  · exact ⟨h3, h4, h5⟩
  · exact ⟨h6, h7, h8⟩
/-- bounds of two numbers, of three, held by one call -/
theorem within2 (b cap : Nat) (x0 x1 x2 y0 y1 y2 : Int) (r : Bool) (W : World) (hb : b < W.heap.size) (h0 : W.cell? ⟨b, 0, none⟩ = some (.int .i64 x0)) (h1 : W.cell? ⟨b, 1, none⟩ = some (.int .i64 x1)) (h2 : W.cell? ⟨b, 2, none⟩ = some (.int .i64 x2))
    (h3 : W.cell? ⟨b, 3, none⟩ = some (.int .i64 y0)) (h4 : W.cell? ⟨b, 4, none⟩ = some (.int .i64 y1)) (h5 : W.cell? ⟨b, 5, none⟩ = some (.int .i64 y2)) (hr : r = decide ((x1 ≤ x0 ∧ x0 ≤ x2) ∧ y1 ≤ y0 ∧ y0 ≤ y2)) :
    Calls Try.prog 53 #[.slice (some ⟨b, 0, none⟩) 2 cap] W fun e w' => e = .returned (.bool r) ∧ Keep W w' := by
  refine within_core _ 2 cap _ r W (by omega) (hide (bds2 W b x0 x1 x2 y0 y1 y2 hb h0 h1 h2 h3 h4 h5)) ?_ ?_
  · intro k hk h
    rcases (show k = 0 ∨ k = 1 by omega) with rfl | rfl <;> simp at h <;> rw [hr] <;> simp <;> omega
  · intro h
    have q0 := h 0 (by omega)
    have q1 := h 1 (by omega)
    simp at q0 q1
    rw [hr]; simp; omega
theorem within3 (b cap : Nat) (x0 x1 x2 y0 y1 y2 z0 z1 z2 : Int) (r : Bool) (W : World) (hb : b < W.heap.size) (h0 : W.cell? ⟨b, 0, none⟩ = some (.int .i64 x0)) (h1 : W.cell? ⟨b, 1, none⟩ = some (.int .i64 x1)) (h2 : W.cell? ⟨b, 2, none⟩ = some (.int .i64 x2))
    (h3 : W.cell? ⟨b, 3, none⟩ = some (.int .i64 y0)) (h4 : W.cell? ⟨b, 4, none⟩ = some (.int .i64 y1)) (h5 : W.cell? ⟨b, 5, none⟩ = some (.int .i64 y2))
    (h6 : W.cell? ⟨b, 6, none⟩ = some (.int .i64 z0)) (h7 : W.cell? ⟨b, 7, none⟩ = some (.int .i64 z1)) (h8 : W.cell? ⟨b, 8, none⟩ = some (.int .i64 z2)) (hr : r = decide ((x1 ≤ x0 ∧ x0 ≤ x2) ∧ (y1 ≤ y0 ∧ y0 ≤ y2) ∧ z1 ≤ z0 ∧ z0 ≤ z2)) :
    Calls Try.prog 53 #[.slice (some ⟨b, 0, none⟩) 3 cap] W fun e w' => e = .returned (.bool r) ∧ Keep W w' := by
  refine within_core _ 3 cap _ r W (by omega) (hide (bds3 W b x0 x1 x2 y0 y1 y2 z0 z1 z2 hb h0 h1 h2 h3 h4 h5 h6 h7 h8)) ?_ ?_
  · intro k hk h
    rcases (show k = 0 ∨ k = 1 ∨ k = 2 by omega) with rfl | rfl | rfl <;> simp at h <;> rw [hr] <;> simp <;> omega
  · intro h
    have q0 := h 0 (by omega)
    have q1 := h 1 (by omega)
    have q2 := h 2 (by omega)
    simp at q0 q1 q2
    rw [hr]; simp; omega
set_option maxHeartbeats 1000000 in
theorem yellow_any (s g : Int) (w : World) :
    Calls Try.prog 26 #[.int .i64 s, .int .i64 g] w fun e w' => e = .returned (.tuple #[.int .i64 (yN s g), .int .i64 (yE s g)]) ∧ Keep w w' := by
  have W2 := hide within2
  have CU := hide ceil_up
  by_cases h : yK s g = true
  · have hyN : yN s g = up (10000 * s + 10 * (610000 + 1962 * g)) (610000 + 1962 * g) := by
      have hd : 1 ≤ s ∧ s ≤ 10000 ∧ -200 ≤ g ∧ g ≤ 200 := by simpa [yK] using h
      unfold yN; rw [if_pos h, up_add (by omega)]; omega
    have hyE : yE s g = 0 := by unfold yE; rw [if_pos h]
    rw [hyN, hyE]
    have hd : 1 ≤ s ∧ s ≤ 10000 ∧ -200 ≤ g ∧ g ≤ 200 := by simpa [yK] using h
    obtain ⟨d1, d2, d3, d4⟩ := hd
    clear hyN hyE h
    go_enter Try.func26, Try.ntmps26
    go_wp2_with fail
    (refine ((uq W2) _ _ s 1 10000 g (-200) 200 true _ (by simp [go_sem]) (by simp [go_sem]) (by simp [go_sem]) (by simp [go_sem]) (by simp [go_sem]) (by simp [go_sem]) (by simp [go_sem]) (by simp; omega)).mono ?_; rintro e w2 ⟨rfl, hk⟩)
    have m1 : wrap64 (1962 * g) = 1962 * g := wrap_in (by omega)
    have m2 : wrap64 (610000 + 1962 * g) = 610000 + 1962 * g := wrap_in (by omega)
    have m3 : wrap64 (10000 * s) = 10000 * s := wrap_in (by omega)
    have m4 : wrap64 (10 * (610000 + 1962 * g)) = 10 * (610000 + 1962 * g) := wrap_in (by omega)
    have m5 : wrap64 (10000 * s + 10 * (610000 + 1962 * g)) = 10000 * s + 10 * (610000 + 1962 * g) := wrap_in (by omega)
    go_wp2_with fail
    (refine ((uq CU) _ _ _ (by omega) (by omega) (by omega) (by omega)).mono ?_; rintro e w3 ⟨rfl, rfl⟩)
    go_wp2_with fail
    go_ret2
    exact ⟨rfl, Keep.trans ((Keep.refl w).alloc _) hk⟩
  · have hyN : yN s g = 0 := by unfold yN; rw [if_neg h]
    have hyE : yE s g = 1 := by unfold yE; rw [if_neg h]
    rw [hyN, hyE]
    have hd : ¬ (1 ≤ s ∧ s ≤ 10000 ∧ -200 ≤ g ∧ g ≤ 200) := by simpa [yK] using h
    have HD := hide hd
    clear hyN hyE h hd
    go_enter Try.func26, Try.ntmps26
    go_wp2_with fail
    (refine ((uq W2) _ _ s 1 10000 g (-200) 200 false _ (by simp [go_sem]) (by simp [go_sem]) (by simp [go_sem]) (by simp [go_sem]) (by simp [go_sem]) (by simp [go_sem]) (by simp [go_sem]) (by have := uq HD; simp; omega)).mono ?_; rintro e w2 ⟨rfl, hk⟩)
    go_wp2_with fail
    go_ret2
    exact ⟨rfl, Keep.trans ((Keep.refl w).alloc _) hk⟩
set_option maxHeartbeats 1000000 in
theorem red_any (a b s : Int) (w : World) :
    Calls Try.prog 27 #[.int .i64 a, .int .i64 b, .int .i64 s] w fun e w' => e = .returned (.tuple #[.int .i64 (rN a b s), .int .i64 (rE a b s)]) ∧ Keep w w' := by
  have W2 := hide within3
  have CU := hide ceil_up
  by_cases h : rK a b s = true
  · have hyN : rN a b s = up (10 * (a + b)) s := by unfold rN; rw [if_pos h]
    have hyE : rE a b s = 0 := by unfold rE; rw [if_pos h]
    rw [hyN, hyE]
    have hd : 0 ≤ a ∧ a ≤ 100000 ∧ 0 ≤ b ∧ b ≤ 100000 ∧ 1 ≤ s ∧ s ≤ 10000 := by simpa [rK] using h
    obtain ⟨d1, d2, d3, d4, d5, d6⟩ := hd
    clear hyN hyE h
    go_enter Try.func27, Try.ntmps27
    go_wp2_with fail
    (refine ((uq W2) _ _ a 0 100000 b 0 100000 s 1 10000 true _ (by simp [go_sem]) (by simp [go_sem]) (by simp [go_sem]) (by simp [go_sem]) (by simp [go_sem]) (by simp [go_sem]) (by simp [go_sem]) (by simp [go_sem]) (by simp [go_sem]) (by simp [go_sem]) (by simp; omega)).mono ?_; rintro e w2 ⟨rfl, hk⟩)
    have m1 : wrap64 (a + b) = a + b := wrap_in (by omega)
    have m2 : wrap64 (10 * (a + b)) = 10 * (a + b) := wrap_in (by omega)
    go_wp2_with fail
    (refine ((uq CU) _ _ _ (by omega) (by omega) (by omega) (by omega)).mono ?_; rintro e w3 ⟨rfl, rfl⟩)
    go_wp2_with fail
    go_ret2
    exact ⟨rfl, Keep.trans ((Keep.refl w).alloc _) hk⟩
  · have hyN : rN a b s = 0 := by unfold rN; rw [if_neg h]
    have hyE : rE a b s = 1 := by unfold rE; rw [if_neg h]
    rw [hyN, hyE]
    have hd : ¬ (0 ≤ a ∧ a ≤ 100000 ∧ 0 ≤ b ∧ b ≤ 100000 ∧ 1 ≤ s ∧ s ≤ 10000) := by simpa [rK] using h
    have HD := hide hd
    clear hyN hyE h hd
    go_enter Try.func27, Try.ntmps27
    go_wp2_with fail
    (refine ((uq W2) _ _ a 0 100000 b 0 100000 s 1 10000 false _ (by simp [go_sem]) (by simp [go_sem]) (by simp [go_sem]) (by simp [go_sem]) (by simp [go_sem]) (by simp [go_sem]) (by simp [go_sem]) (by simp [go_sem]) (by simp [go_sem]) (by simp [go_sem]) (by have := uq HD; simp; omega)).mono ?_; rintro e w2 ⟨rfl, hk⟩)
    go_wp2_with fail
    go_ret2
    exact ⟨rfl, Keep.trans ((Keep.refl w).alloc _) hk⟩
set_option maxHeartbeats 1000000 in
theorem flash_any (a s : Int) (w : World) :
    Calls Try.prog 50 #[.int .i64 a, .int .i64 s] w fun e w' => e = .returned (.tuple #[.int .i64 (fN a s), .int .i64 (fE a s)]) ∧ Keep w w' := by
  have W2 := hide within2
  have CU := hide ceil_up
  by_cases h : fK a s = true
  · have hyN : fN a s = up (10 * a) s := by unfold fN; rw [if_pos h]
    have hyE : fE a s = 0 := by unfold fE; rw [if_pos h]
    rw [hyN, hyE]
    have hd : 1 ≤ a ∧ a ≤ 100000 ∧ 1 ≤ s ∧ s ≤ 10000 := by simpa [fK] using h
    obtain ⟨d1, d2, d5, d6⟩ := hd
    clear hyN hyE h
    go_enter Try.func50, Try.ntmps50
    go_wp2_with fail
    (refine ((uq W2) _ _ a 1 100000 s 1 10000 true _ (by simp [go_sem]) (by simp [go_sem]) (by simp [go_sem]) (by simp [go_sem]) (by simp [go_sem]) (by simp [go_sem]) (by simp [go_sem]) (by simp; omega)).mono ?_; rintro e w2 ⟨rfl, hk⟩)
    have m2 : wrap64 (10 * a) = 10 * a := wrap_in (by omega)
    go_wp2_with fail
    (refine ((uq CU) _ _ _ (by omega) (by omega) (by omega) (by omega)).mono ?_; rintro e w3 ⟨rfl, rfl⟩)
    go_wp2_with fail
    go_ret2
    exact ⟨rfl, Keep.trans ((Keep.refl w).alloc _) hk⟩
  · have hyN : fN a s = 0 := by unfold fN; rw [if_neg h]
    have hyE : fE a s = 1 := by unfold fE; rw [if_neg h]
    rw [hyN, hyE]
    have hd : ¬ (1 ≤ a ∧ a ≤ 100000 ∧ 1 ≤ s ∧ s ≤ 10000) := by simpa [fK] using h
    have HD := hide hd
    clear hyN hyE h hd
    go_enter Try.func50, Try.ntmps50
    go_wp2_with fail
    (refine ((uq W2) _ _ a 1 100000 s 1 10000 false _ (by simp [go_sem]) (by simp [go_sem]) (by simp [go_sem]) (by simp [go_sem]) (by simp [go_sem]) (by simp [go_sem]) (by simp [go_sem]) (by have := uq HD; simp; omega)).mono ?_; rintro e w2 ⟨rfl, hk⟩)
    go_wp2_with fail
    go_ret2
    exact ⟨rfl, Keep.trans ((Keep.refl w).alloc _) hk⟩
end Go.Proofs.Ytjincjlalopbfaa

namespace Go.Proofs.Ytjincjlalopbfaa
open Go.RowKit
set_option linter.unusedVariables false
set_option maxRecDepth 10000
set_option maxHeartbeats 1000000 in
theorem cmp_core (n d n2 d2 x y x2 y2 v : Int) (w : World) (Cn : Int → Int → Int → Int → Prop) (K1 : Cn n d x y) (K2 : Cn n2 d2 x2 y2)
    (T1 : Hid (∀ (n d x y : Int), Cn n d x y → ∀ w, Calls Try.prog 48 #[.agg #[.int .i64 n, .int .i64 d]] w fun e w' => e = .returned (.agg #[.int .i64 x, .int .i64 y]) ∧ Keep w w'))
    (T2 : Hid (∀ w, Calls Try.prog 71 #[.int .i64 x, .int .i64 y2, .int .i64 x2, .int .i64 y] w fun e w' => e = .returned (.int .i64 v) ∧ Keep w w')) :
    Calls Try.prog 49 #[.agg #[.int .i64 n, .int .i64 d], .agg #[.int .i64 n2, .int .i64 d2]] w fun e w' => e = .returned (.int .i64 v) ∧ Keep w w' := by
  go_enter Try.func49, Try.ntmps49
  go_upto_region 1 with fail
  go_cut [] (fun wc => Keep ((w.alloc (.cells #[.int .i64 x, .int .i64 y] 23)).alloc (.cells #[.int .i64 x2, .int .i64 y2] 23)) wc)
  case first =>
    go_region_with (go_at_call 48; refine ((uq T1) _ _ _ _ (by assumption) _).mono ?_; rintro e w2 ⟨rfl, hk⟩; obtain ⟨o1, k1, rfl⟩ := hk.ext; clear hk)
    all_goals
      go_wp2_with fail
      go_meet
      exact by repeat (first | apply keep_ext | apply Keep.drew | exact Keep.refl _)
  case rest =>
    obtain ⟨o2, k2, rfl⟩ := hcut.ext
    clear hcut
    go_wp2_with fail
    (refine ((uq T2) _).mono ?_; rintro e w2 ⟨rfl, hk⟩; obtain ⟨o3, k3, rfl⟩ := hk.ext; clear hk)
    go_wp2_with fail
    go_ret
    exact ⟨rfl, by repeat (first | apply keep_ext | apply Keep.alloc | apply Keep.drew | (refine keep_set _ _ _ (by omega) ?_) | assumption | exact Keep.refl _)⟩
theorem fcmp_any (n d n2 d2 : Int) (w : World) (h1 : -9223372036854775808 ≤ n) (h2 : n ≤ 9223372036854775807) (h3 : -9223372036854775808 ≤ d) (h4 : d ≤ 9223372036854775807) (k1 : -9223372036854775808 ≤ n2) (k2 : n2 ≤ 9223372036854775807) (k3 : -9223372036854775808 ≤ d2) (k4 : d2 ≤ 9223372036854775807) :
    Calls Try.prog 49 #[.agg #[.int .i64 n, .int .i64 d], .agg #[.int .i64 n2, .int .i64 d2]] w fun e w' => e = .returned (.int .i64 (cm (cn n d * cd n2 d2) (cn n2 d2 * cd n d))) ∧ Keep w w' := by
  obtain ⟨r1, r2, r3, r4, r5⟩ := rt_counted n d h1 h2 h4
  obtain ⟨s1, s2, s3, s4, s5⟩ := rt_counted n2 d2 k1 k2 k4
  exact cmp_core n d n2 d2 _ _ _ _ _ w (fun n d x y => ∀ w, Calls Try.prog 48 #[.agg #[.int .i64 n, .int .i64 d]] w fun e w' => e = .returned (.agg #[.int .i64 x, .int .i64 y]) ∧ Keep w w')
    (fun w => counted_any n d w h1 h2 h3 h4) (fun w => counted_any n2 d2 w k1 k2 k3 k4) (hide fun n d x y h => h) (hide fun w => compare_any _ _ _ _ w r3 r4 (by omega) s5 s3 s4 (by omega) r5)

end Go.Proofs.Ytjincjlalopbfaa

namespace Go.Proofs.Ytjincjlalopbfaa
open Go.RowKit
attribute [local go_sem ↓] Go.wp_at_zero Go.wp_at_succ
set_option linter.unusedVariables false
set_option linter.unusedSimpArgs false
set_option maxRecDepth 10000
/-- the sum of two fractions that count as they count: its numbers and its error -/
def adN (t f : Int × Int) : Int := cn t.1 t.2 * cd f.1 f.2 + cn f.1 f.2 * cd t.1 t.2
def adD (t f : Int × Int) : Int := cd t.1 t.2 * cd f.1 f.2
def adX (t f : Int × Int) : Int := pN (rn (adN t f) (adD t f)) (rd (adN t f) (adD t f))
def adY (t f : Int × Int) : Int := pD (rn (adN t f) (adD t f)) (rd (adN t f) (adD t f))
def adE (t f : Int × Int) : Int := pE (rn (adN t f) (adD t f)) (rd (adN t f) (adD t f))
/-- the sum of all, from t on -/
def sm (t : Int × Int) : List (Int × Int) → Int × Int × Int
  | [] => (t.1, t.2, 0)
  | f :: r => if adE t f = 0 then sm (adX t f, adY t f) r else (0, 0, adE t f)
/-- the greatest one, from t on -/
def mx (t : Int × Int) : List (Int × Int) → Int × Int
  | [] => t
  | f :: r => if 0 < cm (cn f.1 f.2 * cd t.1 t.2) (cn t.1 t.2 * cd f.1 f.2) then mx (cn f.1 f.2, cd f.1 f.2) r else mx t r
theorem drop_atF {L : List (Int × Int)} {k : Nat} (h : k < L.length) : L.drop k = L.getD k (0, 0) :: L.drop (k + 1) := by
  rw [List.drop_eq_getElem_cons h, List.getD_eq_getElem?_getD, List.getElem?_eq_getElem h]
  rfl
theorem mx_yes {t : Int × Int} {L : List (Int × Int)} {k : Nat} (h : k < L.length) (he : 0 < cm (cn (L.getD k (0, 0)).1 (L.getD k (0, 0)).2 * cd t.1 t.2) (cn t.1 t.2 * cd (L.getD k (0, 0)).1 (L.getD k (0, 0)).2)) : mx t (L.drop k) = mx (cn (L.getD k (0, 0)).1 (L.getD k (0, 0)).2, cd (L.getD k (0, 0)).1 (L.getD k (0, 0)).2) (L.drop (k + 1)) := by
  rw [drop_atF h]
  show (if _ then _ else _) = _
  rw [if_pos he]
theorem mx_no {t : Int × Int} {L : List (Int × Int)} {k : Nat} (h : k < L.length) (he : ¬ 0 < cm (cn (L.getD k (0, 0)).1 (L.getD k (0, 0)).2 * cd t.1 t.2) (cn t.1 t.2 * cd (L.getD k (0, 0)).1 (L.getD k (0, 0)).2)) : mx t (L.drop k) = mx t (L.drop (k + 1)) := by
  rw [drop_atF h]
  show (if _ then _ else _) = _
  rw [if_neg he]
theorem mx_end {t : Int × Int} {L : List (Int × Int)} {k : Nat} (h : L.length ≤ k) : mx t (L.drop k) = t := by
  rw [List.drop_of_length_le h]
  rfl
/-- numbers of 64 bits -/
def In (x : Int) : Prop := -9223372036854775808 ≤ x ∧ x ≤ 9223372036854775807
/-- fractions that lie one behind another from an address on -/
def Fs (w : World) (ad : Addr) (L : List (Int × Int)) : Prop := ∀ k, k < L.length → ad.block < w.heap.size ∧ In (L.getD k (0, 0)).1 ∧ In (L.getD k (0, 0)).2
  ∧ w.cell? (ad.add (k * 2)) = some (.int .i64 (L.getD k (0, 0)).1) ∧ w.cell? ⟨(ad.add (k * 2)).block, (ad.add (k * 2)).off + 1, none⟩ = some (.int .i64 (L.getD k (0, 0)).2)
theorem add_blockF (ad : Addr) (n : Nat) : (ad.add n).block = ad.block := by unfold Addr.add; split <;> rfl
theorem Fs.keep {w w' : World} {ad : Addr} {L : List (Int × Int)} (h : Fs w ad L) (hk : Keep w w') : Fs w' ad L := by
  intro k hlt
  obtain ⟨h1, h2, h3, h4, h5⟩ := h k hlt
  have hs := Below.size hk
  refine ⟨by omega, h2, h3, ?_, ?_⟩
  · rw [Below.cell hk (by rw [add_blockF]; exact h1)]; exact h4
  · rw [Below.cell (p := ⟨(ad.add (k * 2)).block, (ad.add (k * 2)).off + 1, none⟩) hk (by show (ad.add (k * 2)).block < _; rw [add_blockF]; exact h1)]; exact h5
/-- a fraction that lies in a block of the call's own, and the result's block -/
def Ft (w wr : World) (B : Nat) (x y : Int) : Prop :=
  Keep w wr ∧ w.heap.size < wr.heap.size ∧ w.heap.size < B ∧ B < wr.heap.size
  ∧ wr.cell? ⟨B, 0, none⟩ = some (.int .i64 x) ∧ wr.cell? ⟨B, 1, none⟩ = some (.int .i64 y) ∧ wr.frozen? ⟨B, 0, none⟩ = false ∧ wr.frozen? ⟨B, 1, none⟩ = false
  ∧ wr.cell? ⟨w.heap.size, 0, none⟩ = some (.int .i64 0) ∧ wr.cell? ⟨w.heap.size, 1, none⟩ = some (.int .i64 0) ∧ wr.frozen? ⟨w.heap.size, 0, none⟩ = false ∧ wr.frozen? ⟨w.heap.size, 1, none⟩ = false
theorem keep_setB {a w : World} (B i : Nat) (v : Value) (hB : a.heap.size < B) (h : Keep a w) : Keep a (w.setCell ⟨B, i, none⟩ v) := Below.setCell h (Nat.le_of_lt hB) v
theorem keep_set0 {a w : World} (i : Nat) (v : Value) (h : Keep a w) : Keep a (w.setCell ⟨a.heap.size, i, none⟩ v) := Below.setCell h (Nat.le_refl _) v
end Go.Proofs.Ytjincjlalopbfaa
