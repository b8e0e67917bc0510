/- Layer 9's law of the table over letters. -/
import Derived.Test.YtnegcifbbbmlnaaGreatDoorDTr
import Derived.Test.YtnegcifbbbmlnaaGreatDoorLMath
import Derived.Deep.DrawnRows
import Derived.Deep.RegionHeld
import Derived.Test.YtnegcifbbbmlnaaGreatDoorDMath
import Derived.Test.YtnegcifbbbmlnaaGreatDoorExt
namespace Go.Proofs.YtnegcifbbbmlnaaGreatDoor
open Go.RowKit
attribute [local go_sem ↓] Go.wp_at_zero Go.wp_at_succ
set_option linter.unusedVariables false
set_option linter.unusedSimpArgs false
set_option maxRecDepth 10000
namespace W
theorem own_at {w : World} {B : Nat} {T : TypeId} {z n : Nat} {v : Value} {xs : List Value} (h : w.ownsRow B T z v n xs) (hn : 0 < n) : ∃ g cap, v = .slice (some ⟨g, 0, none⟩) n cap ∧ ∀ j, j < n * z → w.cell? ⟨g, j, none⟩ = xs[j]? := by
  have h' := h
  rcases h'.2 with ⟨_, h0⟩ | ⟨g, cap, cur, rfl, _⟩
  · omega
  · exact ⟨g, cap, rfl, fun j hj => h.cellAt j hj⟩
theorem own_len {w : World} {B : Nat} {T : TypeId} {z n : Nat} {v : Value} {xs : List Value} (h : w.ownsRow B T z v n xs) : ∃ a c, v = .slice a n c := by
  rcases h.2 with ⟨rfl, rfl⟩ | ⟨g, cap, cur, rfl, _⟩ <;> exact ⟨_, _, rfl⟩
theorem cp_len (X Y : Nat → Int) : ∀ n, (cp X Y n).length = n * 2
  | 0 => rfl
  | n + 1 => by rw [cp, List.length_append, cp_len X Y n]; simp; omega
theorem cp_at (X Y : Nat → Int) : ∀ n k, k < n → (cp X Y n)[k * 2]? = some (.int .i64 (X k)) ∧ (cp X Y n)[k * 2 + 1]? = some (.int .i64 (Y k))
  | 0, k, h => by omega
  | n + 1, k, h => by
    by_cases hk : k < n
    · have ih := cp_at X Y n k hk
      rw [cp, List.getElem?_append_left (by rw [cp_len]; omega), List.getElem?_append_left (by rw [cp_len]; omega)]
      exact ih
    · have e : k = n := by omega
      subst e
      rw [cp, List.getElem?_append_right (by rw [cp_len]; omega), List.getElem?_append_right (by rw [cp_len]; omega), cp_len, Nat.sub_self, show k * 2 + 1 - k * 2 = 1 by omega]
      exact ⟨rfl, rfl⟩
/-- a table's cells -/
def Tc (w : World) (v : Value) (n : Nat) (N : Nat → Nat) (X Y : Nat → Nat → Int) : Prop := ∃ a c, v = .slice a n c ∧ ∀ i, i < n → ∃ g ra rc, a = some ⟨g, 0, none⟩ ∧ w.cell? ⟨g, i, none⟩ = some (.slice ra (N i) rc) ∧ ∀ k, k < N i → ∃ h, ra = some ⟨h, 0, none⟩ ∧ w.cell? ⟨h, k * 2, none⟩ = some (.int .i64 (X i k)) ∧ w.cell? ⟨h, k * 2 + 1, none⟩ = some (.int .i64 (Y i k))
theorem Tc.nil (w : World) (N : Nat → Nat) (X Y : Nat → Nat → Int) : Tc w (.slice none 0 0) 0 N X Y := ⟨none, 0, rfl, fun i hi => by omega⟩
theorem clT {w w' : World} (k : Keep w w') {a : Addr} {v : Value} (h : w.cell? a = some v) : w'.cell? a = some v := by rw [Below.cell k (World.block_lt_of_cell? w a h)]; exact h
theorem Tc.keep {w w' : World} {v : Value} {n : Nat} {N : Nat → Nat} {X Y : Nat → Nat → Int} (h : Tc w v n N X Y) (k : Keep w w') : Tc w' v n N X Y := by
  obtain ⟨a, c, e, h⟩ := h
  refine ⟨a, c, e, fun i hi => ?_⟩
  obtain ⟨g, ra, rc, e1, e2, e3⟩ := h i hi
  refine ⟨g, ra, rc, e1, clT k e2, fun j hj => ?_⟩
  obtain ⟨b, f1, f2, f3⟩ := e3 j hj
  exact ⟨b, f1, clT k f2, clT k f3⟩
theorem Tb.tc {w : World} {v : Value} {n : Nat} {N : Nat → Nat} {X Y : Nat → Nat → Int} (h : Tb w v n N X Y) : Tc w v n N X Y := by
  obtain ⟨rows, h1, h2, h3⟩ := h
  obtain ⟨a, c, e⟩ := own_len h1
  refine ⟨a, c, e, fun i hi => ?_⟩
  obtain ⟨g, cap, e1, e2⟩ := own_at h1 (by omega)
  rw [e] at e1
  simp only [Value.slice.injEq] at e1
  obtain ⟨ra, rc, e3⟩ := own_len (h3 i hi)
  have e4 := e2 i (by omega)
  rw [List.getD_eq_getElem?_getD, List.getElem?_eq_getElem (by omega)] at e3
  rw [List.getElem?_eq_getElem (by omega)] at e4
  have e5 : w.cell? ⟨g, i, none⟩ = some (.slice ra (N i) rc) := by rw [e4]; exact congrArg some e3
  refine ⟨g, ra, rc, e1.1, e5, fun k hk => ?_⟩
  obtain ⟨b, cap2, f1, f2⟩ := own_at (h3 i hi) (by omega)
  rw [List.getD_eq_getElem?_getD, List.getElem?_eq_getElem (by omega)] at f1
  have f3 : (Value.slice ra (N i) rc) = .slice (some ⟨b, 0, none⟩) (N i) cap2 := e3.symm.trans f1
  simp only [Value.slice.injEq] at f3
  have c9 := cp_at (X i) (Y i) (N i) k hk
  exact ⟨b, f3.1, (f2 _ (by omega)).trans c9.1, (f2 _ (by omega)).trans c9.2⟩
theorem tq_tc {w w' : World} {n : Nat} {N : Nat → Nat} {X Y Z : Nat → Nat → Int} {e : Ending} (h : Tq n N X Y Z w e w') : ∃ v, e = .returned (.tuple #[v, .int .i64 (tz N Z n)]) ∧ Keep w w' ∧ Tc w' v (if tz N Z n = 0 then n else 0) N X Y := by
  obtain ⟨v, z, rfl, hk, rfl, h⟩ := h
  refine ⟨v, rfl, hk, ?_⟩
  rcases h with ⟨h1, rfl⟩ | ⟨h1, h2⟩
  · rw [if_neg h1]; exact Tc.nil _ _ _ _
  · rw [if_pos h1]; exact h2.tc
set_option maxHeartbeats 16000000 in
theorem dtable_core (a0 a1 a2 a3 a4 : Int) (aN : Option Addr) (nN cN : Nat) (aS : Option Addr) (nS cS : Nat) (a5 a6 : Int) (N : Nat → Nat) (X Y Z : Nat → Nat → Int) (P : Prop) (w : World) (hP : P → nN ≤ 15 ∧ ∀ k, k < nN → N k ≤ 50)
    (TF : Hid (∀ w', Keep w w' → Calls Tryz.prog 4 #[.agg #[.int .i64 a0, .int .i64 a1, .int .i64 a2, .int .i64 a3, .int .i64 a4, .slice aN nN cN, .slice aS nS cS, .int .i64 a5, .int .i64 a6]] w' fun e w'' => ∃ b, e = .returned (.bool b) ∧ Keep w' w'' ∧ (b = true → P)))
    (TT : Hid (P → ∀ w', Keep w w' → Calls Tryz.prog 5 #[.agg #[.int .i64 a0, .int .i64 a1, .int .i64 a2, .int .i64 a3, .int .i64 a4, .slice aN nN cN, .slice aS nS cS, .int .i64 a5, .int .i64 a6]] w' (Tq nN N X Y Z w')))
    (TR : Hid (P → ∀ w', Keep w w' → Calls Tryz.prog 6 #[.agg #[.int .i64 a0, .int .i64 a1, .int .i64 a2, .int .i64 a3, .int .i64 a4, .slice aN nN cN, .slice aS nS cS, .int .i64 a5, .int .i64 a6]] w' (Tq nN N X Y Z w')))
    (TA : Hid (∀ w', Keep w w' → Calls Tryz.prog 7 #[] w' fun e w'' => e = .returned (.bool true) ∧ Keep w' w'')) :
    Calls Tryz.prog 3 #[.agg #[.int .i64 a0, .int .i64 a1, .int .i64 a2, .int .i64 a3, .int .i64 a4, .slice aN nN cN, .slice aS nS cS, .int .i64 a5, .int .i64 a6]] w fun e w' => e = .returned (.bool true) ∧ Keep w w' := by
  have hnw := heap_alloc_new w (.cells #[.int .i64 a0, .int .i64 a1, .int .i64 a2, .int .i64 a3, .int .i64 a4, .slice aN nN cN, .slice aS nS cS, .int .i64 a5, .int .i64 a6] 27)
  have K1 := hide ((Keep.refl w).alloc (.cells #[.int .i64 a0, .int .i64 a1, .int .i64 a2, .int .i64 a3, .int .i64 a4, .slice aN nN cN, .slice aS nS cS, .int .i64 a5, .int .i64 a6] 27))
  go_enter Tryz.func3, Tryz.ntmps3
  go_upto_region 1 with fail
  generalize w.alloc (.cells #[.int .i64 a0, .int .i64 a1, .int .i64 a2, .int .i64 a3, .int .i64 a4, .slice aN nN cN, .slice aS nS cS, .int .i64 a5, .int .i64 a6] 27) = wb at hnw K1 ⊢
  obtain ⟨q, HQ⟩ : ∃ q, Hid (w.heap.size = q) := ⟨_, hide rfl⟩
  rw [uq HQ] at hnw ⊢
  have HX : Hid (∀ w' : World, Keep wb w' → w'.cell? ⟨q, 0, none⟩ = some (.int .i64 a0) ∧ w'.cell? ⟨q, 1, none⟩ = some (.int .i64 a1) ∧ w'.cell? ⟨q, 2, none⟩ = some (.int .i64 a2) ∧ w'.cell? ⟨q, 3, none⟩ = some (.int .i64 a3) ∧ w'.cell? ⟨q, 4, none⟩ = some (.int .i64 a4) ∧ w'.cell? ⟨q, 5, none⟩ = some (.slice aN nN cN) ∧ w'.cell? ⟨q, 6, none⟩ = some (.slice aS nS cS) ∧ w'.cell? ⟨q, 7, none⟩ = some (.int .i64 a5) ∧ w'.cell? ⟨q, 8, none⟩ = some (.int .i64 a6)) := hide (fun w' k9 => by
    have h1 := k9.block q (Array.getElem?_eq_some_iff.1 hnw).1
    rw [hnw] at h1
    refine ⟨?_, ?_, ?_, ?_, ?_, ?_, ?_, ?_, ?_⟩ <;> simp [World.cell?, h1])
  clear hnw
  obtain ⟨f0, f1, f2, f3, f4, f5, f6, f7, f8⟩ := (uq HX) wb (Keep.refl _)
  go_wp2_with fail
  clear f0 f1 f2 f3 f4 f5 f6 f7 f8
  (refine ((uq TF) _ (uq K1)).mono ?_; rintro e w1 ⟨b, rfl, hk1, hp1⟩; have HK1 := hide hk1; have HP1 := hide hp1; clear hk1 hp1)
  cases b
  · go_wp2_with fail
    go_ret
    exact ⟨rfl, (uq K1).trans (uq HK1)⟩
  have hp : P := by first | exact (uq HP1) rfl | exact (uq HP1) trivial
  have HB := hide (hP hp)
  have HT := hide ((uq TT) hp)
  have HTR := hide ((uq TR) hp)
  clear hp HP1
  obtain ⟨f0, f1, f2, f3, f4, f5, f6, f7, f8⟩ := (uq HX) w1 (uq HK1)
  go_wp2_with fail
  clear f0 f1 f2 f3 f4 f5 f6 f7 f8
  refine ((uq HT) _ ((uq K1).trans (uq HK1))).mono ?_
  intro e w2 ht
  obtain ⟨v, rfl, hk2, htc⟩ := tq_tc ht
  have HK2 := hide ((uq HK1).trans hk2)
  have HC := hide htc
  clear ht hk2 htc HK1
  obtain ⟨f0, f1, f2, f3, f4, f5, f6, f7, f8⟩ := (uq HX) w2 (uq HK2)
  go_wp2_with fail
  clear f0 f1 f2 f3 f4 f5 f6 f7 f8
  refine ((uq HTR) _ ((uq K1).trans (uq HK2))).mono ?_
  intro e w3 ht
  obtain ⟨v2, rfl, hk3, htc⟩ := tq_tc ht
  have HK3 := hide ((uq K1).trans ((uq HK2).trans hk3))
  have HC1 := hide ((uq HC).keep hk3)
  have HC2 := hide htc
  have HM : Hid ((if tz N Z nN = 0 then nN else 0) ≤ nN) := hide (by split <;> omega)
  clear ht hk3 htc HK2 HC HT HTR TT TR TF HX
  generalize (if tz N Z nN = 0 then nN else 0) = m at HC1 HC2 HM
  generalize tz N Z nN = z
  obtain ⟨a, c, e1, hc1⟩ := uq HC1
  obtain ⟨a2, c2, e2, hc2⟩ := uq HC2
  subst e1 e2
  clear hc1 hc2
  have hm : m ≤ 15 := by have := uq HM; have := (uq HB).1; omega
  have HN : Hid (∀ i, i < m → N i ≤ 50) := hide (fun i hi => (uq HB).2 i (by have := uq HM; omega))
  have hzz : (z != z) = false := by simp
  go_wp2_with fail
  go_loopw [7] (fun vi wr => ∃ i : Nat, i ≤ m ∧ vi = .int .i64 (i : Int) ∧ Hid (Keep w3 wr)) (fun vi _ => m - (intOf vi).toNat)
  case atStart => exact ⟨0, Nat.zero_le _, rfl, hide (Keep.refl _)⟩
  case round =>
    obtain ⟨i, hi, rfl, HK⟩ := hrel
    by_cases hlt : i < m
    · have li : (i : Int) < (m : Int) := by omega
      obtain ⟨_, _, e1, hc1⟩ := (uq HC1).keep (uq HK)
      obtain ⟨_, _, e2, hc2⟩ := (uq HC2).keep (uq HK)
      simp only [Value.slice.injEq] at e1 e2
      obtain ⟨rfl, _, rfl⟩ := e1
      obtain ⟨rfl, _, rfl⟩ := e2
      obtain ⟨g, ra, rc, rfl, x1, y1⟩ := hc1 i hlt
      obtain ⟨g2, ra2, rc2, rfl, x2, y2⟩ := hc2 i hlt
      have hn1 := (uq HN) i hlt
      generalize N i = n1 at *
      have HY1 := hide y1
      have HY2 := hide y2
      clear hc1 hc2 y1 y2
      have HS : Hid (∀ w', Keep wr w' → w'.cell? ⟨g, i, none⟩ = some (.slice ra n1 rc) ∧ w'.cell? ⟨g2, i, none⟩ = some (.slice ra2 n1 rc2)) := hide (fun w' k9 => ⟨clT k9 x1, clT k9 x2⟩)
      obtain ⟨wo, hwo⟩ : ∃ wo, wo = wr := ⟨_, rfl⟩
      subst hwo
      go_upto_region 10 with fail
      refine wp_region_held_drew (S := fun w' => w'.cell? ⟨g, i, none⟩ = some (.slice ra n1 rc) ∧ w'.cell? ⟨g2, i, none⟩ = some (.slice ra2 n1 rc2)) (by kernel_rfl) (by exact (uq HS) _ ((Keep.refl _).drew)) (fun hHeld => ?_)
      refine tkk 0 38 hHeld ?_; try simp only [Act.put, Ya, Yb, Yc]
      refine tkk 1 39 hHeld ?_; try simp only [Act.put, Ya, Yb, Yc]
      refine tkk 2 40 hHeld ?_; try simp only [Act.put, Ya, Yb, Yc]
      refine tkk 3 41 hHeld ?_; try simp only [Act.put, Ya, Yb, Yc]
      refine tkk 4 42 hHeld ?_; try simp only [Act.put, Ya, Yb, Yc]
      refine tkk 5 43 hHeld ?_; try simp only [Act.put, Ya, Yb, Yc]
      refine tkk 6 44 hHeld ?_; try simp only [Act.put, Ya, Yb, Yc]
      refine tkk 7 45 hHeld ?_; try simp only [Act.put, Ya, Yb, Yc]
      refine tkk 8 46 hHeld ?_; try simp only [Act.put, Ya, Yb, Yc]
      refine tkk 9 47 hHeld ?_; try simp only [Act.put, Ya, Yb, Yc]
      refine tkk 10 48 hHeld ?_; try simp only [Act.put, Ya, Yb, Yc]
      refine wpAnyH_done (by kernel_rfl) ?_ _
      clear hHeld
      clear x1 x2
      go_wp2_with fail
      go_loopw [8] (fun vk wr => ∃ k : Nat, k ≤ n1 ∧ vk = .int .i64 (k : Int) ∧ Hid (Keep wo wr)) (fun vk _ => n1 - (intOf vk).toNat)
      case atStart => exact ⟨0, Nat.zero_le _, rfl, hide (by repeat (first | (with_reducible exact Keep.refl _) | apply keep_ext | apply Keep.alloc | apply Keep.drew))⟩
      case round =>
        obtain ⟨k, hk, rfl, HKI⟩ := hrel
        obtain ⟨x1, x2⟩ := (uq HS) wr (uq HKI)
        by_cases hkl : k < n1
        · have lk : (k : Int) < (n1 : Int) := by omega
          obtain ⟨h, rfl, u1, u2⟩ := (uq HY1) k hkl
          obtain ⟨h2, rfl, u3, u4⟩ := (uq HY2) k hkl
          generalize X i k = xk at u1 u3
          generalize Y i k = yk at u2 u4
          have HS2 : Hid (∀ w', Keep wr w' → w'.cell? ⟨g, i, none⟩ = some (.slice (some ⟨h, 0, none⟩) n1 rc) ∧ w'.cell? ⟨g2, i, none⟩ = some (.slice (some ⟨h2, 0, none⟩) n1 rc2) ∧ w'.cell? ⟨h, k * 2, none⟩ = some (.int .i64 xk) ∧ w'.cell? ⟨h, k * 2 + 1, none⟩ = some (.int .i64 yk) ∧ w'.cell? ⟨h2, k * 2, none⟩ = some (.int .i64 xk) ∧ w'.cell? ⟨h2, k * 2 + 1, none⟩ = some (.int .i64 yk)) := hide (fun w' k9 => ⟨clT k9 x1, clT k9 x2, clT ((uq HKI).trans k9) u1, clT ((uq HKI).trans k9) u2, clT ((uq HKI).trans k9) u3, clT ((uq HKI).trans k9) u4⟩)
          clear u1 u2 u3 u4
          go_upto_region 15 with fail
          refine wp_region_held_drew (S := fun w' => w'.cell? ⟨g, i, none⟩ = some (.slice (some ⟨h, 0, none⟩) n1 rc) ∧ w'.cell? ⟨g2, i, none⟩ = some (.slice (some ⟨h2, 0, none⟩) n1 rc2) ∧ w'.cell? ⟨h, k * 2, none⟩ = some (.int .i64 xk) ∧ w'.cell? ⟨h, k * 2 + 1, none⟩ = some (.int .i64 yk) ∧ w'.cell? ⟨h2, k * 2, none⟩ = some (.int .i64 xk) ∧ w'.cell? ⟨h2, k * 2 + 1, none⟩ = some (.int .i64 yk)) (by kernel_rfl) (by exact (uq HS2) _ ((Keep.refl _).drew)) (fun hHeld => ?_)
          refine tkk 0 58 hHeld ?_; try simp only [Act.put, Ya, Yb, Yc]
          refine tkk 1 59 hHeld ?_; try simp only [Act.put, Ya, Yb, Yc]
          refine tkk 2 60 hHeld ?_; try simp only [Act.put, Ya, Yb, Yc]
          refine tkk 3 61 hHeld ?_; try simp only [Act.put, Ya, Yb, Yc]
          refine tkk 4 62 hHeld ?_; try simp only [Act.put, Ya, Yb, Yc]
          refine tkk 5 63 hHeld ?_; try simp only [Act.put, Ya, Yb, Yc]
          refine tkk 6 64 hHeld ?_; try simp only [Act.put, Ya, Yb, Yc]
          refine tkk 7 65 hHeld ?_; try simp only [Act.put, Ya, Yb, Yc]
          refine tkk 8 66 hHeld ?_; try simp only [Act.put, Ya, Yb, Yc]
          refine tkk 9 67 hHeld ?_; try simp only [Act.put, Ya, Yb, Yc]
          refine tkk 10 68 hHeld ?_; try simp only [Act.put, Ya, Yb, Yc]
          refine tkk 11 69 hHeld ?_; try simp only [Act.put, Ya, Yb, Yc]
          refine tkk 12 70 hHeld ?_; try simp only [Act.put, Ya, Yb, Yc]
          refine tkk 13 71 hHeld ?_; try simp only [Act.put, Ya, Yb, Yc]
          refine tkk 14 72 hHeld ?_; try simp only [Act.put, Ya, Yb, Yc]
          refine wpAnyH_done (by kernel_rfl) ?_ _
          clear hHeld
          go_wp2_with fail
          go_roundw
          case rel => exact ⟨k + 1, hkl, by go_num, hide (by have := uq HKI; repeat (first | exact this | apply Keep.alloc | apply Keep.drew))⟩
          case measure => simp [intOf]; omega
        · have lk : ¬ (k : Int) < (n1 : Int) := by omega
          go_wp2_with fail
          go_roundw
          case rel => exact ⟨i + 1, hlt, by go_num, hide ((uq HK).trans (uq HKI))⟩
          case measure => simp [intOf]; omega
    · have li : ¬ (i : Int) < (m : Int) := by omega
      go_wp2_with fail
      (refine ((uq TA) _ ((uq HK3).trans (uq HK))).mono ?_; rintro e w4 ⟨rfl, hk4⟩; have HK4 := hide hk4; clear hk4)
      go_wp2_with fail
      go_ret
      exact ⟨rfl, (uq HK3).trans ((uq HK).trans (uq HK4))⟩
end W
end Go.Proofs.YtnegcifbbbmlnaaGreatDoor

namespace Go.Proofs.YtnegcifbbbmlnaaGreatDoor
open Go.RowKit
attribute [local go_sem ↓] Go.wp_at_zero Go.wp_at_succ
set_option linter.unusedVariables false
set_option linter.unusedSimpArgs false
set_option maxRecDepth 10000
namespace W
set_option maxHeartbeats 4000000 in
theorem awake_core (w : World)
    (T1 : Hid (∀ w, Calls Tryz.prog 12 #[.agg #[.string ⟨#[]⟩, .int .i64 400, .int .i64 1800, .int .i64 21, .int .i64 20, .int .i64 0, .int .i64 0, .int .i64 0, .int .i64 0, .int .i64 0, .int .i64 0], .agg #[.int .i64 9, .int .i64 10]] w fun e w' => e = .returned (.tuple #[.agg #[.int .i64 1400, .int .i64 3], .int .i64 0]) ∧ Keep w w'))
    (T2 : Hid (∀ w, Calls Tryz.prog 13 #[.agg #[.string ⟨#[]⟩, .int .i64 400, .int .i64 1800, .int .i64 21, .int .i64 20, .int .i64 0, .int .i64 0, .int .i64 0, .int .i64 0, .int .i64 0, .int .i64 0], .agg #[.int .i64 9, .int .i64 10]] w fun e w' => e = .returned (.tuple #[.agg #[.int .i64 7, .int .i64 27], .int .i64 0]) ∧ Keep w w'))
    (T3 : Hid (∀ w', Keep w w' → Calls Tryz.prog 14 #[.agg #[.int .i64 7, .int .i64 27], .int .i64 3] w' fun e w'' => e = .returned (.tuple #[.string ⟨#[48, 46, 50, 53, 57]⟩, .int .i64 0]) ∧ Keep w' w'')) :
    Calls Tryz.prog 7 #[] w fun e w' => e = .returned (.bool true) ∧ Keep w w' := by
  go_enter Tryz.func7, Tryz.ntmps7
  go_wp2_with fail
  (refine ((uq T1) _).mono ?_; rintro e w2 ⟨rfl, hk⟩; obtain ⟨o1, k1, rfl⟩ := hk.ext; clear hk)
  go_wp2_with fail
  (refine ((uq T2) _).mono ?_; rintro e w2 ⟨rfl, hk⟩; obtain ⟨o2, k2, rfl⟩ := hk.ext; clear hk)
  go_wp2_with fail
  (refine ((uq T3) _ (by repeat (first | (with_reducible exact Keep.refl _) | apply keep_ext | apply Keep.alloc | apply Keep.drew))).mono ?_; rintro e w2 ⟨rfl, hk⟩; obtain ⟨o3, k3, rfl⟩ := hk.ext; clear hk)
  go_wp2_with fail
  go_ret
  exact ⟨rfl, by repeat (first | (with_reducible exact Keep.refl _) | apply keep_ext | apply Keep.alloc | apply Keep.drew)⟩
end W
end Go.Proofs.YtnegcifbbbmlnaaGreatDoor
