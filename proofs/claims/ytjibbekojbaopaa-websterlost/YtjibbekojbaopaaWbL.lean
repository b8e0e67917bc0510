/- The chapter's examples. -/
import Derived.Test.YtjibbekojbaopaaWbA
import Derived.Test.YtjibbekojbaopaaWbC
import Derived.Test.YtjibbekojbaopaaWbS
import Derived.Test.YtjibbekojbaopaaLMath
import Derived.Deep.DrawnRows
import Derived.Deep.RegionHeld
namespace Go.Proofs.Ytjibbekojbaopaa
open Go.ChangeShapes Go.WideShapes Go.ChangeAt Go.RowKit
attribute [local go_sem ↓] Go.wp_at_zero Go.wp_at_succ
set_option linter.unusedVariables false
set_option linter.unusedSimpArgs false
set_option maxRecDepth 10000
namespace Wb
open W
set_option maxHeartbeats 1000000 in
theorem awake_core (w : World) (T1 : Hid (∀ w, Calls Try.prog 8 #[.int .i64 120, .agg #[.int .i64 1, .int .i64 2]] w fun e w' => e = .returned (.tuple #[.int .i64 460, .bool true, .int .i64 0]) ∧ Keep w w')) (T2 : Hid (∀ w, Calls Try.prog 11 #[.agg #[.int .i64 300, .int .i64 900, .int .i64 70, .int .i64 0, .int .i64 0, .slice none 0 0, .slice none 0 0, .int .i64 0, .int .i64 0], .int .i64 600] w fun e w' => e = .returned (.tuple #[.int .i64 650, .bool true]) ∧ Keep w w')) (T3 : Hid (∀ w, Calls Try.prog 11 #[.agg #[.int .i64 300, .int .i64 900, .int .i64 70, .int .i64 0, .int .i64 0, .slice none 0 0, .slice none 0 0, .int .i64 0, .int .i64 0], .int .i64 870] w fun e w' => e = .returned (.tuple #[.int .i64 860, .bool false]) ∧ Keep w w')) (T4 : Hid (∀ w, Calls Try.prog 13 #[.agg #[.int .i64 300, .int .i64 900, .int .i64 70, .int .i64 0, .int .i64 0, .slice none 0 0, .slice none 0 0, .int .i64 0, .int .i64 0]] w fun e w' => e = .returned (.int .i64 9) ∧ Keep w w')) : Calls Try.prog 10 #[] w fun e w' => e = .returned (.bool true) ∧ Keep w w' := by
  go_enter Try.func10, Try.ntmps10
  go_wp2_with fail
  (refine ((uq T1) _).mono ?_; rintro e w1 ⟨rfl, hk⟩; obtain ⟨o1, k1, rfl⟩ := hk.ext; clear hk)
  go_wp2_with fail
  (refine ((uq T2) _).mono ?_; rintro e w2 ⟨rfl, hk⟩; obtain ⟨o2, k2, rfl⟩ := hk.ext; clear hk)
  go_wp2_with fail
  (refine ((uq T3) _).mono ?_; rintro e w3 ⟨rfl, hk⟩; obtain ⟨o3, k3, rfl⟩ := hk.ext; clear hk)
  go_wp2_with fail
  (refine ((uq T4) _).mono ?_; rintro e w4 ⟨rfl, hk⟩; obtain ⟨o4, k4, rfl⟩ := hk.ext; clear hk)
  go_wp2_with fail
  go_ret
  exact ⟨rfl, by repeat (first | apply keep_ext | apply Keep.alloc | apply Keep.drew | (refine keep_set _ _ _ (by omega) ?_) | assumption | exact Keep.refl _)⟩
theorem ex_cyc : cyC 120 1 2 = 460 ∧ cyB 120 1 2 = true ∧ cyE 120 1 2 = 0 := by decide +kernel
theorem ex_alw : alw 300 900 70 600 = (650, true) ∧ alw 300 900 70 870 = (860, false) ∧ cnt 300 900 70 = 9 := by decide +kernel
theorem awake_any (w : World) : Calls Try.prog 10 #[] w fun e w' => e = .returned (.bool true) ∧ Keep w w' := by
  refine awake_core w (hide fun w => ?_) (hide fun w => ?_) (hide fun w => ?_) (hide fun w => ?_)
  · have h := cycle_any 120 1 2 w (by omega) (by omega) (by omega) (by omega)
    rw [ex_cyc.1, ex_cyc.2.1, ex_cyc.2.2] at h
    exact h
  · have h := allowed_any 300 900 70 0 0 none 0 0 none 0 0 0 0 600 w (by omega)
    rw [ex_alw.1] at h
    exact h
  · have h := allowed_any 300 900 70 0 0 none 0 0 none 0 0 0 0 870 w (by omega)
    rw [ex_alw.2.1] at h
    exact h
  · have h := wcount_any 300 900 70 0 0 none 0 0 none 0 0 0 0 w (by omega)
    rw [ex_alw.2.2] at h
    exact h
end Wb
end Go.Proofs.Ytjibbekojbaopaa

namespace Go.Proofs.Ytjibbekojbaopaa
open Go.ChangeShapes Go.WideShapes Go.ChangeAt Go.RowKit
attribute [local go_sem ↓] Go.wp_at_zero Go.wp_at_succ
set_option linter.unusedVariables false
set_option linter.unusedSimpArgs false
set_option maxRecDepth 10000
namespace Wb
open W
/-- one place more -/
def stp (N : Nat) (Y R : Nat → Int) (v p : Int) : Int := if 0 ≤ p ∧ p < (N : Int) then wrap64 (v + wrap64 (Y p.toNat + R p.toNat)) else v
def los (N : Nat) (Y R Pl : Nat → Int) : Nat → Int
  | 0 => 0
  | k + 1 => stp N Y R (los N Y R Pl k) (Pl k)
theorem stp_yes {N : Nat} {Y R : Nat → Int} {v : Int} {m : Nat} (h : m < N) : stp N Y R v (m : Int) = wrap64 (v + wrap64 (Y m + R m)) := by
  unfold stp
  rw [if_pos (by omega)]
  simp
theorem stp_no {N : Nat} {Y R : Nat → Int} {v p : Int} (h : ¬ (0 ≤ p ∧ p < (N : Int))) : stp N Y R v p = v := by unfold stp; rw [if_neg h]
/-- the box of the sum -/
structure Bo (w : World) (bb : Nat) (v : Int) : Prop where
  c : w.cell? ⟨bb, 0, none⟩ = some (.int .i64 v)
  f : w.frozen? ⟨bb, 0, none⟩ = false
set_option maxHeartbeats 1000000 in
theorem lost1_any (s : ByteArray) (g y r p q : Int) (xa : Option Addr) (xn xc : Nat) (v : Int) (bb : Nat) (w : World) (HB : Hid (Bo w bb v)) :
    Calls Try.prog 34 #[.agg #[.string s, .int .i64 g, .int .i64 y, .int .i64 r, .int .i64 p, .int .i64 q, .slice xa xn xc], .pointer (some ⟨bb, 0, none⟩)] w fun e w' => e = .returned (.tuple #[]) ∧ Hid (Bo w' bb (wrap64 (v + wrap64 (y + r))) ∧ Ch bb bb w w') := by
  have h1 := (uq HB).c
  have f1 := (uq HB).f
  have l1 := World.block_lt_of_cell? w _ h1
  simp only at l1
  have n1 : ¬ bb = w.heap.size := by omega
  go_enter Try.func34, Try.ntmps34
  go_wp2_with fail
  go_end0
  refine ⟨rfl, hide ⟨⟨?_, ?_⟩, ?_⟩⟩
  · simp [go_sem, h1, n1, l1]
  · simp [go_sem, f1, n1, l1]
  · exact (Ch.set w _ (.inl rfl)).trans (Ch.keep ((Keep.refl _).alloc _))
set_option maxHeartbeats 4000000 in
theorem asked_core (la : Option Addr) (ln lc : Nat) (pa : Option Addr) (pn pc : Nat) (Y R Pl : Nat → Int) (bb : Nat) (w w1 : World) (hn : pn ≤ 9223372036854775807) (hl : ln ≤ 9223372036854775807) (HB : Hid (Bo w1 bb 0)) (HW : Hid (w.heap.size ≤ bb)) (HK : Hid (Keep w w1))
    (HP : Hid (∀ k, k < pn → ∃ ad, pa = some ad ∧ ad.block < w.heap.size ∧ w.cell? (ad.add k) = some (.int .i64 (Pl k)))) (HN : Hid (∀ k, k < ln → NeedAt w la k (Y k) (R k))) :
    Calls Try.prog 33 #[.slice la ln lc, .slice pa pn pc, .func (.func 34) #[] #[.pointer (some ⟨bb, 0, none⟩)]] w1 fun e w' => e = .returned (.tuple #[]) ∧ Hid (Bo w' bb (los ln Y R Pl pn) ∧ Keep w w') := by
  have T1 := hide lost1_any
  go_enter Try.func33, Try.ntmps33
  go_wp2_with fail
  go_loopw [10] (fun vi wr => ∃ k : Nat, k ≤ pn ∧ vi = .int .i64 (k : Int) ∧ Hid (Bo wr bb (los ln Y R Pl k)) ∧ Hid (Keep w wr)) (fun vi _ => pn - (intOf vi).toNat)
  case atStart => exact ⟨0, Nat.zero_le _, rfl, HB, HK⟩
  case round =>
    obtain ⟨k, hk, rfl, BO, KW⟩ := hrel
    by_cases hlt : k < pn
    · have li : (k : Int) < (pn : Int) := by omega
      obtain ⟨ad, rfl, hb, e0⟩ := (uq HP) k hlt
      have y0 := Keep.cl (uq KW) e0
      clear e0
      by_cases hp : 0 ≤ Pl k ∧ Pl k < (ln : Int)
      · obtain ⟨m, hm⟩ : ∃ m : Nat, Pl k = (m : Int) := ⟨(Pl k).toNat, by omega⟩
        have HS : Hid (los ln Y R Pl (k + 1) = wrap64 (los ln Y R Pl k + wrap64 (Y m + R m))) := hide (by show stp _ _ _ _ (Pl k) = _; rw [hm]; exact stp_yes (by omega))
        rw [hm] at y0 hp
        have lm : (m : Int) < (ln : Int) := hp.2
        obtain ⟨ld, s, g, p, q, xa, xn, xc, rfl, hb2, c0, c1, c2, c3, c4, c5, c6⟩ := ((uq HN) m (by omega)).keep (uq KW)
        clear hp hm
        go_wp2_with fail
        (refine ((uq T1) s g (Y m) (R m) p q xa xn xc _ bb _ BO).mono ?_; rintro e w2 ⟨rfl, hk9⟩)
        have K2 : Hid (Keep w w2) := hide ((uq hk9).2.below (uq KW) (uq HW) (uq HW))
        have B2 := hide (uq hk9).1
        rw [← uq HS] at B2
        clear hk9 y0 c0 c1 c2 c3 c4 c5 c6 BO
        go_wp2_with fail
        go_roundw
        case rel => exact ⟨k + 1, hlt, by go_num, B2, K2⟩
        case measure => simp [intOf]; omega
      · have HS : Hid (los ln Y R Pl (k + 1) = los ln Y R Pl k) := hide (stp_no hp)
        have B2 := BO
        rw [← uq HS] at B2
        clear BO
        generalize Pl k = pl at y0 hp
        by_cases h0 : 0 ≤ pl
        · have h2 : ¬ pl < (ln : Int) := fun h => hp ⟨h0, h⟩
          clear hp
          go_wp2_with fail
          go_roundw
          case rel => exact ⟨k + 1, hlt, by go_num, B2, KW⟩
          case measure => simp [intOf]; omega
        · clear hp
          have hd : decide (0 ≤ pl) = false := decide_eq_false h0
          go_wp2_with fail
          go_roundw
          case rel => exact ⟨k + 1, hlt, by go_num, B2, KW⟩
          case measure => simp [intOf]; omega
    · have li : ¬ (k : Int) < (pn : Int) := by omega
      obtain rfl : k = pn := by omega
      go_wp2_with fail
      go_end0
      exact ⟨rfl, hide ⟨uq BO, uq KW⟩⟩
set_option maxHeartbeats 1000000 in
theorem lost_core (la : Option Addr) (ln lc : Nat) (pa : Option Addr) (pn pc : Nat) (Y R Pl : Nat → Int) (w : World) (hn : pn ≤ 9223372036854775807) (hl : ln ≤ 9223372036854775807)
    (HP : Hid (∀ k, k < pn → ∃ ad, pa = some ad ∧ ad.block < w.heap.size ∧ w.cell? (ad.add k) = some (.int .i64 (Pl k)))) (HN : Hid (∀ k, k < ln → NeedAt w la k (Y k) (R k))) :
    Calls Try.prog 15 #[.slice la ln lc, .slice pa pn pc] w fun e w' => e = .returned (.int .i64 (los ln Y R Pl pn)) ∧ Keep w w' := by
  have T := hide (fun w1 h1 h2 => asked_core la ln lc pa pn pc Y R Pl w.heap.size w w1 hn hl h1 (hide (Nat.le_refl _)) h2 HP HN)
  obtain ⟨L, hL⟩ : ∃ L, los ln Y R Pl pn = L := ⟨_, rfl⟩
  rw [hL] at T ⊢
  clear hL
  go_enter Try.func15, Try.ntmps15
  go_wp2_with fail
  (refine ((uq T) _ (hide ⟨by simp [go_sem], by simp [go_sem]⟩) (hide (by repeat (first | apply Keep.alloc | exact Keep.refl _)))).mono ?_; rintro e w2 ⟨rfl, hk9⟩)
  have c := (uq hk9).1.c
  go_wp2_with fail
  go_ret
  exact ⟨rfl, (uq hk9).2⟩
set_option maxHeartbeats 4000000 in
theorem rlost_core (la : Option Addr) (ln lc : Nat) (pa : Option Addr) (pn pc : Nat) (Y R Pl : Nat → Int) (w : World) (hn : pn ≤ 9223372036854775807) (hl : ln ≤ 9223372036854775807)
    (HP : Hid (∀ k, k < pn → ∃ ad, pa = some ad ∧ ad.block < w.heap.size ∧ w.cell? (ad.add k) = some (.int .i64 (Pl k)))) (HN : Hid (∀ k, k < ln → NeedAt w la k (Y k) (R k))) :
    Calls Try.prog 16 #[.slice la ln lc, .slice pa pn pc] w fun e w' => e = .returned (.int .i64 (los ln Y R Pl pn)) ∧ Keep w w' := by
  go_enter Try.func16, Try.ntmps16
  go_wp2_with fail
  go_loopw [5, 6] (fun vn vi wr => ∃ k : Nat, k ≤ pn ∧ vi = .int .i64 (k : Int) ∧ vn = .int .i64 (los ln Y R Pl k) ∧ Hid (Keep w wr)) (fun _ vi _ => pn - (intOf vi).toNat)
  case atStart => exact ⟨0, Nat.zero_le _, rfl, rfl, hide (Keep.refl _)⟩
  case round =>
    obtain ⟨k, hk, rfl, rfl, KW⟩ := hrel
    by_cases hlt : k < pn
    · have li : (k : Int) < (pn : Int) := by omega
      obtain ⟨ad, rfl, hb, e0⟩ := (uq HP) k hlt
      have y0 := Keep.cl (uq KW) e0
      clear e0
      by_cases hp : 0 ≤ Pl k ∧ Pl k < (ln : Int)
      · obtain ⟨m, hm⟩ : ∃ m : Nat, Pl k = (m : Int) := ⟨(Pl k).toNat, by omega⟩
        have HS : Hid (los ln Y R Pl (k + 1) = wrap64 (los ln Y R Pl k + wrap64 (Y m + R m))) := hide (by show stp _ _ _ _ (Pl k) = _; rw [hm]; exact stp_yes (by omega))
        rw [hm] at y0 hp
        have lm : (m : Int) < (ln : Int) := hp.2
        obtain ⟨ld, s, g, p, q, xa, xn, xc, rfl, hb2, c0, c1, c2, c3, c4, c5, c6⟩ := ((uq HN) m (by omega)).keep (uq KW)
        clear hp hm c0 c1 c4 c5 c6
        generalize Y m = y at c2 HS
        generalize R m = r at c3 HS
        generalize los ln Y R Pl k = v at HS ⊢
        go_upto_region 6 with fail
        refine wp_region_held_drew (S := fun w' => w'.cell? (ad.add k) = some (.int .i64 (m : Int)) ∧ w'.cell? ⟨(ld.add (m * 7)).block, (ld.add (m * 7)).off + 2, none⟩ = some (.int .i64 y) ∧ w'.cell? ⟨(ld.add (m * 7)).block, (ld.add (m * 7)).off + 3, none⟩ = some (.int .i64 r)) (by kernel_rfl) (by exact ⟨y0, c2, c3⟩) (fun hHeld => ?_)
        refine tkk 0 27 hHeld ?_; try simp only [Act.put, Ya, Yb, Yc]
        refine tkk 1 28 hHeld ?_; try simp only [Act.put, Ya, Yb, Yc]
        refine tkk 2 29 hHeld ?_; try simp only [Act.put, Ya, Yb, Yc]
        refine tkk 3 30 hHeld ?_; try simp only [Act.put, Ya, Yb, Yc]
        refine tkk 4 31 hHeld ?_; try simp only [Act.put, Ya, Yb, Yc]
        refine tkk 5 32 hHeld ?_; try simp only [Act.put, Ya, Yb, Yc]
        refine tkk 6 33 hHeld ?_; try simp only [Act.put, Ya, Yb, Yc]
        refine tkk 7 34 hHeld ?_; try simp only [Act.put, Ya, Yb, Yc]
        refine tkk 8 35 hHeld ?_; try simp only [Act.put, Ya, Yb, Yc]
        refine tkk 9 36 hHeld ?_; try simp only [Act.put, Ya, Yb, Yc]
        refine tkk 10 37 hHeld ?_; try simp only [Act.put, Ya, Yb, Yc]
        refine tkk 11 38 hHeld ?_; try simp only [Act.put, Ya, Yb, Yc]
        refine tkk 12 39 hHeld ?_; try simp only [Act.put, Ya, Yb, Yc]
        refine tkk 13 40 hHeld ?_; try simp only [Act.put, Ya, Yb, Yc]
        refine tkk 14 41 hHeld ?_; try simp only [Act.put, Ya, Yb, Yc]
        refine tkk 15 42 hHeld ?_; try simp only [Act.put, Ya, Yb, Yc]
        refine tkk 16 43 hHeld ?_; try simp only [Act.put, Ya, Yb, Yc]
        refine tkk 17 44 hHeld ?_; try simp only [Act.put, Ya, Yb, Yc]
        refine tkk 18 45 hHeld ?_; try simp only [Act.put, Ya, Yb, Yc]
        refine tkk 19 5 hHeld ?_; try simp only [Act.put, Ya, Yb, Yc]
        refine wpAnyH_done (by kernel_rfl) ?_ _
        clear hHeld
        go_wp2_with fail
        go_roundw
        case rel => exact ⟨k + 1, hlt, by go_num, by rw [uq HS]; simp only [IntKind.wrap_i64, wrap64], hide (by repeat (first | exact uq KW | apply Keep.drew))⟩
        case measure => simp [intOf]; omega
      · have HS : Hid (los ln Y R Pl (k + 1) = los ln Y R Pl k) := hide (stp_no hp)
        generalize Pl k = pl at y0 hp
        by_cases h0 : 0 ≤ pl
        · have h2 : ¬ pl < (ln : Int) := fun h => hp ⟨h0, h⟩
          clear hp
          go_wp2_with fail
          go_roundw
          case rel => exact ⟨k + 1, hlt, by go_num, by rw [uq HS], KW⟩
          case measure => simp [intOf]; omega
        · clear hp
          have hd : decide (0 ≤ pl) = false := decide_eq_false h0
          go_wp2_with fail
          go_roundw
          case rel => exact ⟨k + 1, hlt, by go_num, by rw [uq HS], KW⟩
          case measure => simp [intOf]; omega
    · have li : ¬ (k : Int) < (pn : Int) := by omega
      obtain rfl : k = pn := by omega
      go_wp2_with fail
      go_ret
      exact ⟨rfl, uq KW⟩
end Wb
end Go.Proofs.Ytjibbekojbaopaa
