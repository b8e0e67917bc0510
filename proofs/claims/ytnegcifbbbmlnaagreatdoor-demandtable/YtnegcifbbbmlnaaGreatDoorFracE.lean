/- The document's answer for fractions: how they are to one another, rounded, and as text. -/
import Derived.Test.YtnegcifbbbmlnaaGreatDoorRefG
import Derived.Test.YtnegcifbbbmlnaaGreatDoorRefC
import Derived.Test.YtnegcifbbbmlnaaGreatDoorWholeG
import Derived.Test.YtnegcifbbbmlnaaGreatDoorWholeQ
import Derived.Lib.ItoaNum
import Derived.Laws.IdiomStrings
import Derived.Test.YtnegcifbbbmlnaaGreatDoorLMath
import Derived.Test.YtnegcifbbbmlnaaGreatDoorDMath
import Derived.Deep.DrawnRows
import Derived.Deep.RegionHeld
import Derived.Test.YtnegcifbbbmlnaaGreatDoorFracV
namespace Go.Proofs.YtnegcifbbbmlnaaGreatDoor
open Go.RowKit
attribute [local go_sem ↓] Go.wp_at_zero Go.wp_at_succ
set_option linter.unusedVariables false
set_option linter.unusedSimpArgs false
set_option maxRecDepth 10000
theorem bytes_eq {s : ByteArray} {l : List UInt8} (h : s.data.toList = l) : s = ⟨l.toArray⟩ := by
  obtain ⟨a⟩ := s
  simp at h
  rw [← h]
theorem bytes_app (a b : ByteArray) : (a ++ b).data.toList = a.data.toList ++ b.data.toList := by simp
theorem itoa_size (n : Int) : Lib.itoa n = if n < 0 then 45 :: Lib.decDigits n.natAbs else Lib.decDigits n.natAbs := by
  unfold Lib.itoa
  by_cases h : n < 0
  · rw [if_pos h, if_pos h]
  · rw [if_neg h, if_neg h, show n.toNat = n.natAbs by omega]
theorem itoa_len (n : Int) (h1 : -9223372036854775808 ≤ n) (h2 : n ≤ 9223372036854775807) : (⟨(Lib.itoa n).toArray⟩ : ByteArray).size ≤ 30 := by
  have e : (⟨(Lib.itoa n).toArray⟩ : ByteArray).size = (Lib.itoa n).length := by simp [ByteArray.size]
  rw [e, itoa_size]
  have h : Lib.nDigits n.natAbs ≤ 20 := by
    rcases Nat.lt_or_ge 20 (Lib.nDigits n.natAbs) with h | h
    · exfalso
      have key : ∀ (k u : Nat), k + 1 ≤ Lib.nDigits u → 10 ^ k ≤ u ∨ k = 0 := by
        intro k
        induction k with
        | zero => intro u _; exact .inr rfl
        | succ k ih =>
          intro u hu
          left
          by_cases hs : u < 10
          · rw [Lib.nDigits_small hs] at hu; omega
          · rw [Lib.nDigits_big hs] at hu
            rcases ih (u / 10) (by omega) with h | h
            · rw [Nat.pow_succ]; omega
            · subst h; simp; omega
      rcases key 20 n.natAbs (by omega) with h | h
      · have : (10 : Nat) ^ 20 = 100000000000000000000 := by decide
        omega
      · omega
    · exact h
  split <;> simp [Lib.decDigits_length] <;> omega
end Go.Proofs.YtnegcifbbbmlnaaGreatDoor

namespace Go.Proofs.YtnegcifbbbmlnaaGreatDoor
open Go.RowKit
attribute [local go_sem ↓] Go.wp_at_zero Go.wp_at_succ
set_option linter.unusedVariables false
set_option linter.unusedSimpArgs false
set_option maxRecDepth 10000
namespace W
/-- 10 to the places -/
def ten (p : Nat) : Int := 10 ^ p
theorem ten_succ (p : Nat) : ten (p + 1) = ten p * 10 := by unfold ten; rw [Int.pow_succ]
theorem ten_bd {p : Nat} (h : p ≤ 9) : 1 ≤ ten p ∧ ten p ≤ 1000000000 := by
  have : p = 0 ∨ p = 1 ∨ p = 2 ∨ p = 3 ∨ p = 4 ∨ p = 5 ∨ p = 6 ∨ p = 7 ∨ p = 8 ∨ p = 9 := by omega
  rcases this with rfl | rfl | rfl | rfl | rfl | rfl | rfl | rfl | rfl | rfl <;> decide
set_option maxHeartbeats 800000 in
theorem power_any (p : Nat) (w : World) (h : p ≤ 9) : Calls Tryz.prog 23 #[.int .i64 (p : Int)] w fun e w' => e = .returned (.int .i64 (ten p)) ∧ w' = w := by
  go_enter Tryz.func23, Tryz.ntmps23
  go_wp2_with fail
  go_loopw [3, 5] (fun u i wr => ∃ k : Nat, k ≤ p ∧ u = .int .i64 (ten k) ∧ i = .int .i64 (k : Int) ∧ wr = w) (fun _ i _ => p - (intOf i).toNat)
  case atStart => exact ⟨0, by omega, rfl, rfl, rfl⟩
  case round =>
    obtain ⟨k, hk, rfl, rfl, rfl⟩ := hrel
    by_cases hlt : k < p
    · have li : (k : Int) < (p : Int) := by omega
      have hb := ten_bd (p := k) (by omega)
      have hm : wrap64 (ten k * 10) = ten (k + 1) := by rw [ten_succ]; exact wrap_in (by omega)
      go_wp2_with fail
      go_roundw
      case rel => exact ⟨k + 1, hlt, rfl, by go_num, trivial⟩
      case measure => simp [intOf]; omega
    · have : k = p := by omega
      subst this
      go_wp2_with fail
      go_ret
      exact ⟨rfl, rfl⟩
/-- a text with so many places behind a point -/
def pnt (D : ByteArray) (p : Nat) : ByteArray := (D.extract 0 (D.size - p) ++ ⟨#[46]⟩) ++ D.extract (D.size - p) D.size
def zer (k : Nat) : ByteArray := ⟨(List.replicate k 48).toArray⟩
set_option maxHeartbeats 4000000 in
theorem repz1 (w : World) : Calls Tryz.prog 46 #[.string ⟨#[48]⟩, .int .i64 1] w fun e w' => e = .returned (.string (zer 1)) ∧ Keep w w' := by
  go_enter Tryz.func46, Tryz.ntmps46
  go_wp2
  go_ret
  exact ⟨rfl, Keep.refl _⟩
set_option maxHeartbeats 4000000 in
theorem pre0 (S : ByteArray) (w : World) (b : Bool) (h1 : ¬ (S.size : Int) < 1) (h2 : ((S.extract 0 1).toList == [48]) = b) : Calls Tryz.prog 70 #[.string S, .string ⟨#[48]⟩] w fun e w' => e = .returned (.bool b) ∧ w' = w := by
  go_enter Tryz.func70, Tryz.ntmps70
  go_wp2
  go_ret
  exact ⟨rfl, rfl⟩
set_option maxHeartbeats 4000000 in
theorem mulz2 (w : World) : Calls Tryz.prog 69 #[.int .u64 1, .int .u64 2] w fun e w' => e = .returned (.tuple #[.int .u64 0, .int .u64 2]) ∧ w' = w := by
  go_enter Tryz.func69, Tryz.ntmps69
  go_wp2
  go_ret2
  exact ⟨by kernel_rfl, rfl⟩
set_option maxHeartbeats 8000000 in
theorem repz2 (w : World) : Calls Tryz.prog 46 #[.string ⟨#[48]⟩, .int .i64 2] w fun e w' => e = .returned (.string (zer 2)) ∧ Keep w w' := by
  have T1 := hide (mulz2 w)
  go_enter Tryz.func46, Tryz.ntmps46
  go_wp2_with fail
  (refine (uq T1).mono ?_; rintro e w ⟨rfl, rfl⟩)
  go_wp2_with fail
  (refine (pre0 _ _ false (by decide) (by kernel_rfl)).mono ?_; rintro e w ⟨rfl, rfl⟩)
  go_wp2_with fail
  (refine (pre0 _ _ false (by decide) (by kernel_rfl)).mono ?_; rintro e w ⟨rfl, rfl⟩)
  go_wp2_with fail
  (refine (pre0 _ _ true (by decide) (by kernel_rfl)).mono ?_; rintro e w ⟨rfl, rfl⟩)
  go_wp2_with fail
  go_ret
  exact ⟨by kernel_rfl, Keep.refl _⟩
set_option maxHeartbeats 4000000 in
theorem mulz3 (w : World) : Calls Tryz.prog 69 #[.int .u64 1, .int .u64 3] w fun e w' => e = .returned (.tuple #[.int .u64 0, .int .u64 3]) ∧ w' = w := by
  go_enter Tryz.func69, Tryz.ntmps69
  go_wp2
  go_ret2
  exact ⟨by kernel_rfl, rfl⟩
set_option maxHeartbeats 8000000 in
theorem repz3 (w : World) : Calls Tryz.prog 46 #[.string ⟨#[48]⟩, .int .i64 3] w fun e w' => e = .returned (.string (zer 3)) ∧ Keep w w' := by
  have T1 := hide (mulz3 w)
  go_enter Tryz.func46, Tryz.ntmps46
  go_wp2_with fail
  (refine (uq T1).mono ?_; rintro e w ⟨rfl, rfl⟩)
  go_wp2_with fail
  (refine (pre0 _ _ false (by decide) (by kernel_rfl)).mono ?_; rintro e w ⟨rfl, rfl⟩)
  go_wp2_with fail
  (refine (pre0 _ _ false (by decide) (by kernel_rfl)).mono ?_; rintro e w ⟨rfl, rfl⟩)
  go_wp2_with fail
  (refine (pre0 _ _ true (by decide) (by kernel_rfl)).mono ?_; rintro e w ⟨rfl, rfl⟩)
  go_wp2_with fail
  go_ret
  exact ⟨by kernel_rfl, Keep.refl _⟩
set_option maxHeartbeats 4000000 in
theorem mulz4 (w : World) : Calls Tryz.prog 69 #[.int .u64 1, .int .u64 4] w fun e w' => e = .returned (.tuple #[.int .u64 0, .int .u64 4]) ∧ w' = w := by
  go_enter Tryz.func69, Tryz.ntmps69
  go_wp2
  go_ret2
  exact ⟨by kernel_rfl, rfl⟩
set_option maxHeartbeats 8000000 in
theorem repz4 (w : World) : Calls Tryz.prog 46 #[.string ⟨#[48]⟩, .int .i64 4] w fun e w' => e = .returned (.string (zer 4)) ∧ Keep w w' := by
  have T1 := hide (mulz4 w)
  go_enter Tryz.func46, Tryz.ntmps46
  go_wp2_with fail
  (refine (uq T1).mono ?_; rintro e w ⟨rfl, rfl⟩)
  go_wp2_with fail
  (refine (pre0 _ _ false (by decide) (by kernel_rfl)).mono ?_; rintro e w ⟨rfl, rfl⟩)
  go_wp2_with fail
  (refine (pre0 _ _ false (by decide) (by kernel_rfl)).mono ?_; rintro e w ⟨rfl, rfl⟩)
  go_wp2_with fail
  (refine (pre0 _ _ true (by decide) (by kernel_rfl)).mono ?_; rintro e w ⟨rfl, rfl⟩)
  go_wp2_with fail
  go_ret
  exact ⟨by kernel_rfl, Keep.refl _⟩
set_option maxHeartbeats 4000000 in
theorem mulz5 (w : World) : Calls Tryz.prog 69 #[.int .u64 1, .int .u64 5] w fun e w' => e = .returned (.tuple #[.int .u64 0, .int .u64 5]) ∧ w' = w := by
  go_enter Tryz.func69, Tryz.ntmps69
  go_wp2
  go_ret2
  exact ⟨by kernel_rfl, rfl⟩
set_option maxHeartbeats 8000000 in
theorem repz5 (w : World) : Calls Tryz.prog 46 #[.string ⟨#[48]⟩, .int .i64 5] w fun e w' => e = .returned (.string (zer 5)) ∧ Keep w w' := by
  have T1 := hide (mulz5 w)
  go_enter Tryz.func46, Tryz.ntmps46
  go_wp2_with fail
  (refine (uq T1).mono ?_; rintro e w ⟨rfl, rfl⟩)
  go_wp2_with fail
  (refine (pre0 _ _ false (by decide) (by kernel_rfl)).mono ?_; rintro e w ⟨rfl, rfl⟩)
  go_wp2_with fail
  (refine (pre0 _ _ false (by decide) (by kernel_rfl)).mono ?_; rintro e w ⟨rfl, rfl⟩)
  go_wp2_with fail
  (refine (pre0 _ _ true (by decide) (by kernel_rfl)).mono ?_; rintro e w ⟨rfl, rfl⟩)
  go_wp2_with fail
  go_ret
  exact ⟨by kernel_rfl, Keep.refl _⟩
set_option maxHeartbeats 4000000 in
theorem mulz6 (w : World) : Calls Tryz.prog 69 #[.int .u64 1, .int .u64 6] w fun e w' => e = .returned (.tuple #[.int .u64 0, .int .u64 6]) ∧ w' = w := by
  go_enter Tryz.func69, Tryz.ntmps69
  go_wp2
  go_ret2
  exact ⟨by kernel_rfl, rfl⟩
set_option maxHeartbeats 8000000 in
theorem repz6 (w : World) : Calls Tryz.prog 46 #[.string ⟨#[48]⟩, .int .i64 6] w fun e w' => e = .returned (.string (zer 6)) ∧ Keep w w' := by
  have T1 := hide (mulz6 w)
  go_enter Tryz.func46, Tryz.ntmps46
  go_wp2_with fail
  (refine (uq T1).mono ?_; rintro e w ⟨rfl, rfl⟩)
  go_wp2_with fail
  (refine (pre0 _ _ false (by decide) (by kernel_rfl)).mono ?_; rintro e w ⟨rfl, rfl⟩)
  go_wp2_with fail
  (refine (pre0 _ _ false (by decide) (by kernel_rfl)).mono ?_; rintro e w ⟨rfl, rfl⟩)
  go_wp2_with fail
  (refine (pre0 _ _ true (by decide) (by kernel_rfl)).mono ?_; rintro e w ⟨rfl, rfl⟩)
  go_wp2_with fail
  go_ret
  exact ⟨by kernel_rfl, Keep.refl _⟩
set_option maxHeartbeats 4000000 in
theorem mulz7 (w : World) : Calls Tryz.prog 69 #[.int .u64 1, .int .u64 7] w fun e w' => e = .returned (.tuple #[.int .u64 0, .int .u64 7]) ∧ w' = w := by
  go_enter Tryz.func69, Tryz.ntmps69
  go_wp2
  go_ret2
  exact ⟨by kernel_rfl, rfl⟩
set_option maxHeartbeats 8000000 in
theorem repz7 (w : World) : Calls Tryz.prog 46 #[.string ⟨#[48]⟩, .int .i64 7] w fun e w' => e = .returned (.string (zer 7)) ∧ Keep w w' := by
  have T1 := hide (mulz7 w)
  go_enter Tryz.func46, Tryz.ntmps46
  go_wp2_with fail
  (refine (uq T1).mono ?_; rintro e w ⟨rfl, rfl⟩)
  go_wp2_with fail
  (refine (pre0 _ _ false (by decide) (by kernel_rfl)).mono ?_; rintro e w ⟨rfl, rfl⟩)
  go_wp2_with fail
  (refine (pre0 _ _ false (by decide) (by kernel_rfl)).mono ?_; rintro e w ⟨rfl, rfl⟩)
  go_wp2_with fail
  (refine (pre0 _ _ true (by decide) (by kernel_rfl)).mono ?_; rintro e w ⟨rfl, rfl⟩)
  go_wp2_with fail
  go_ret
  exact ⟨by kernel_rfl, Keep.refl _⟩
set_option maxHeartbeats 4000000 in
theorem mulz8 (w : World) : Calls Tryz.prog 69 #[.int .u64 1, .int .u64 8] w fun e w' => e = .returned (.tuple #[.int .u64 0, .int .u64 8]) ∧ w' = w := by
  go_enter Tryz.func69, Tryz.ntmps69
  go_wp2
  go_ret2
  exact ⟨by kernel_rfl, rfl⟩
set_option maxHeartbeats 8000000 in
theorem repz8 (w : World) : Calls Tryz.prog 46 #[.string ⟨#[48]⟩, .int .i64 8] w fun e w' => e = .returned (.string (zer 8)) ∧ Keep w w' := by
  have T1 := hide (mulz8 w)
  go_enter Tryz.func46, Tryz.ntmps46
  go_wp2_with fail
  (refine (uq T1).mono ?_; rintro e w ⟨rfl, rfl⟩)
  go_wp2_with fail
  (refine (pre0 _ _ false (by decide) (by kernel_rfl)).mono ?_; rintro e w ⟨rfl, rfl⟩)
  go_wp2_with fail
  (refine (pre0 _ _ false (by decide) (by kernel_rfl)).mono ?_; rintro e w ⟨rfl, rfl⟩)
  go_wp2_with fail
  (refine (pre0 _ _ true (by decide) (by kernel_rfl)).mono ?_; rintro e w ⟨rfl, rfl⟩)
  go_wp2_with fail
  go_ret
  exact ⟨by kernel_rfl, Keep.refl _⟩
set_option maxHeartbeats 4000000 in
theorem mulz9 (w : World) : Calls Tryz.prog 69 #[.int .u64 1, .int .u64 9] w fun e w' => e = .returned (.tuple #[.int .u64 0, .int .u64 9]) ∧ w' = w := by
  go_enter Tryz.func69, Tryz.ntmps69
  go_wp2
  go_ret2
  exact ⟨by kernel_rfl, rfl⟩
set_option maxHeartbeats 8000000 in
theorem repz9 (w : World) : Calls Tryz.prog 46 #[.string ⟨#[48]⟩, .int .i64 9] w fun e w' => e = .returned (.string (zer 9)) ∧ Keep w w' := by
  have T1 := hide (mulz9 w)
  go_enter Tryz.func46, Tryz.ntmps46
  go_wp2_with fail
  (refine (uq T1).mono ?_; rintro e w ⟨rfl, rfl⟩)
  go_wp2_with fail
  (refine (pre0 _ _ false (by decide) (by kernel_rfl)).mono ?_; rintro e w ⟨rfl, rfl⟩)
  go_wp2_with fail
  (refine (pre0 _ _ false (by decide) (by kernel_rfl)).mono ?_; rintro e w ⟨rfl, rfl⟩)
  go_wp2_with fail
  (refine (pre0 _ _ true (by decide) (by kernel_rfl)).mono ?_; rintro e w ⟨rfl, rfl⟩)
  go_wp2_with fail
  go_ret
  exact ⟨by kernel_rfl, Keep.refl _⟩
theorem rep_any (k : Nat) (h1 : 1 ≤ k) (h2 : k ≤ 9) (w : World) : Calls Tryz.prog 46 #[.string ⟨#[48]⟩, .int .i64 (k : Int)] w fun e w' => e = .returned (.string (zer k)) ∧ Keep w w' := by
  have : k = 1 ∨ k = 2 ∨ k = 3 ∨ k = 4 ∨ k = 5 ∨ k = 6 ∨ k = 7 ∨ k = 8 ∨ k = 9 := by omega
  rcases this with rfl | rfl | rfl | rfl | rfl | rfl | rfl | rfl | rfl
  · exact repz1 w
  · exact repz2 w
  · exact repz3 w
  · exact repz4 w
  · exact repz5 w
  · exact repz6 w
  · exact repz7 w
  · exact repz8 w
  · exact repz9 w
theorem zer_size (k : Nat) : (zer k).size = k := by
  show (List.replicate k (48 : UInt8)).toArray.size = k
  simp
theorem ext_size (D : ByteArray) (a b : Nat) (h : b ≤ D.size) : (D.extract a b).size = b - a := by
  rw [ByteArray.size_extract]; omega
set_option maxHeartbeats 4000000 in
theorem pointed_zero (n : Int) (S : ByteArray) (w : World) (T : Hid (Calls Tryz.prog 45 #[.int .i64 n, .int .i64 10] w fun e w' => e = .returned (.string S) ∧ Keep w w')) :
    Calls Tryz.prog 24 #[.int .i64 n, .int .i64 0] w fun e w' => e = .returned (.string S) ∧ Keep w w' := by
  go_enter Tryz.func24, Tryz.ntmps24
  go_wp2_with fail
  (refine (uq T).mono ?_; rintro e w2 ⟨rfl, hk⟩; obtain ⟨o1, k1, rfl⟩ := hk.ext; clear hk)
  go_wp2_with fail
  go_ret
  exact ⟨rfl, by repeat (first | apply keep_ext | apply Keep.alloc | apply Keep.drew | exact Keep.refl _)⟩
set_option maxHeartbeats 4000000 in
theorem pointed_long (n P P1 sh : Int) (q : Nat) (S A B : ByteArray) (w : World) (hp : (P == 0) = false) (e1 : wrap64 (P + 1) = P1) (e2 : wrap64 (P1 - (S.size : Int)) = sh) (hs : ¬ 0 < sh) (e3 : wrap64 ((S.size : Int) - P) = (q : Int)) (e4 : ¬ 9223372036854775807 < A.size + 1) (e5 : ¬ 9223372036854775807 < A.size + 1 + B.size) (e6 : q ≤ S.size) (hA : S.extract 0 q = A) (hB : S.extract q S.size = B)
    (T : Hid (Calls Tryz.prog 45 #[.int .i64 n, .int .i64 10] w fun e w' => e = .returned (.string S) ∧ Keep w w')) :
    Calls Tryz.prog 24 #[.int .i64 n, .int .i64 P] w fun e w' => e = .returned (.string ((A ++ ⟨#[46]⟩) ++ B)) ∧ Keep w w' := by
  go_enter Tryz.func24, Tryz.ntmps24
  go_wp2_with fail
  (refine (uq T).mono ?_; rintro e w2 ⟨rfl, hk⟩; obtain ⟨o1, k1, rfl⟩ := hk.ext; clear hk)
  go_wp2_with fail
  refine wp_region_held_drew (S := (fun w' => True)) (by kernel_rfl) (by trivial) (fun hHeld => ?_)
  refine tkk 0 28 hHeld ?_; try simp only [Act.put, Ya, Yb, Yc]
  refine tkk 1 29 hHeld ?_; try simp only [Act.put, Ya, Yb, Yc]
  refine tkk 2 30 hHeld ?_; try simp only [Act.put, Ya, Yb, Yc]
  refine tkk 3 31 hHeld ?_; try simp only [Act.put, Ya, Yb, Yc]
  refine tkk 4 32 hHeld ?_; try simp only [Act.put, Ya, Yb, Yc]
  refine tkk 5 33 hHeld ?_; try simp only [Act.put, Ya, Yb, Yc]
  refine tkk 6 34 hHeld ?_; try simp only [Act.put, Ya, Yb, Yc]
  refine tkk 7 35 hHeld ?_; try simp only [Act.put, Ya, Yb, Yc]
  refine tkk 8 4 hHeld ?_; try simp only [Act.put, Ya, Yb, Yc]
  refine wpAnyH_done (by kernel_rfl) ?_ _
  clear hHeld
  go_wp2_with fail
  go_ret
  exact ⟨rfl, by repeat (first | apply keep_ext | apply Keep.alloc | apply Keep.drew | exact Keep.refl _)⟩
set_option maxHeartbeats 4000000 in
theorem pointed_short (n P P1 sh : Int) (q : Nat) (S Z D A B : ByteArray) (w : World) (hp : (P == 0) = false) (e1 : wrap64 (P + 1) = P1) (e2 : wrap64 (P1 - (S.size : Int)) = sh) (hs : 0 < sh) (hD : Z ++ S = D) (ez : ¬ 9223372036854775807 < Z.size + S.size) (e3 : wrap64 ((D.size : Int) - P) = (q : Int)) (e4 : ¬ 9223372036854775807 < A.size + 1) (e5 : ¬ 9223372036854775807 < A.size + 1 + B.size) (e6 : q ≤ D.size) (hA : D.extract 0 q = A) (hB : D.extract q D.size = B)
    (T : Hid (Calls Tryz.prog 45 #[.int .i64 n, .int .i64 10] w fun e w' => e = .returned (.string S) ∧ Keep w w'))
    (R : Hid (∀ w, Calls Tryz.prog 46 #[.string ⟨#[48]⟩, .int .i64 sh] w fun e w' => e = .returned (.string Z) ∧ Keep w w')) :
    Calls Tryz.prog 24 #[.int .i64 n, .int .i64 P] w fun e w' => e = .returned (.string ((A ++ ⟨#[46]⟩) ++ B)) ∧ Keep w w' := by
  go_enter Tryz.func24, Tryz.ntmps24
  go_wp2_with fail
  (refine (uq T).mono ?_; rintro e w2 ⟨rfl, hk⟩; obtain ⟨o1, k1, rfl⟩ := hk.ext; clear hk)
  go_wp2_with fail
  (refine ((uq R) _).mono ?_; rintro e w2 ⟨rfl, hk⟩; obtain ⟨o2, k2, rfl⟩ := hk.ext; clear hk)
  go_wp2_with fail
  refine wp_region_held_drew (S := (fun w' => True)) (by kernel_rfl) (by trivial) (fun hHeld => ?_)
  refine tkk 0 28 hHeld ?_; try simp only [Act.put, Ya, Yb, Yc]
  refine tkk 1 29 hHeld ?_; try simp only [Act.put, Ya, Yb, Yc]
  refine tkk 2 30 hHeld ?_; try simp only [Act.put, Ya, Yb, Yc]
  refine tkk 3 31 hHeld ?_; try simp only [Act.put, Ya, Yb, Yc]
  refine tkk 4 32 hHeld ?_; try simp only [Act.put, Ya, Yb, Yc]
  refine tkk 5 33 hHeld ?_; try simp only [Act.put, Ya, Yb, Yc]
  refine tkk 6 34 hHeld ?_; try simp only [Act.put, Ya, Yb, Yc]
  refine tkk 7 35 hHeld ?_; try simp only [Act.put, Ya, Yb, Yc]
  refine tkk 8 4 hHeld ?_; try simp only [Act.put, Ya, Yb, Yc]
  refine wpAnyH_done (by kernel_rfl) ?_ _
  clear hHeld
  go_wp2_with fail
  go_ret
  exact ⟨rfl, by repeat (first | apply keep_ext | apply Keep.alloc | apply Keep.drew | exact Keep.refl _)⟩
end W
end Go.Proofs.YtnegcifbbbmlnaaGreatDoor

namespace Go.Proofs.YtnegcifbbbmlnaaGreatDoor
open Go.RowKit
set_option linter.unusedVariables false
set_option maxRecDepth 10000
set_option maxHeartbeats 400000 in
theorem ffloor_core (n d x y v e0 : Int) (w : World) (T1 : Hid (∀ w, Calls Tryz.prog 56 #[.agg #[.int .i64 n, .int .i64 d]] w fun e w' => e = .returned (.agg #[.int .i64 x, .int .i64 y]) ∧ Keep w w'))
    (T2 : Hid (∀ w, Calls Tryz.prog 64 #[.int .i64 x, .int .i64 y] w fun e w' => e = .returned (.tuple #[.int .i64 v, .int .i64 e0]) ∧ w' = w)) :
    Calls Tryz.prog 41 #[.agg #[.int .i64 n, .int .i64 d]] w fun e w' => e = .returned (.int .i64 v) ∧ Keep w w' := by
  go_enter Tryz.func41, Tryz.ntmps41
  go_wp2_with fail
  (refine ((uq T1) _).mono ?_; rintro e w2 ⟨rfl, hk⟩; obtain ⟨o1, k1, rfl⟩ := hk.ext; clear hk)
  go_wp2_with fail
  refine ((uq T2) _).mono ?_
  rintro e w2 ⟨rfl, rfl⟩
  go_wp2_with fail
  go_ret
  exact ⟨rfl, by repeat (first | apply keep_ext | apply Keep.alloc | apply Keep.drew | (refine keep_set _ _ _ (by omega) ?_) | assumption | exact Keep.refl _)⟩
theorem ffloor_any (n d : Int) (w : World) (h1 : -9223372036854775808 ≤ n) (h2 : n ≤ 9223372036854775807) (h3 : -9223372036854775808 ≤ d) (h4 : d ≤ 9223372036854775807) :
    Calls Tryz.prog 41 #[.agg #[.int .i64 n, .int .i64 d]] w fun e w' => e = .returned (.int .i64 (flA (cn n d) (cd n d))) ∧ Keep w w' := by
  obtain ⟨r1, r2, r3, r4, r5⟩ := rt_counted n d h1 h2 h4
  exact ffloor_core n d _ _ _ _ w (hide fun w => counted_any n d w h1 h2 h3 h4) (hide fun w => floor_any _ _ w r3 r4 (by omega) r5)

end Go.Proofs.YtnegcifbbbmlnaaGreatDoor
