/- Package demand: powers of ten; digits with a point. -/
import Derived.Test.YtnegcifbbbmlnaaDoorRefO
import Derived.Test.YtnegcifbbbmlnaaDoorDMath
import Derived.Deep.DrawnRows
import Derived.Deep.RegionHeld
namespace Go.Proofs.YtnegcifbbbmlnaaDoor
open Go.RowKit
attribute [local go_sem ↓] Go.wp_at_zero Go.wp_at_succ
set_option linter.unusedVariables false
set_option linter.unusedSimpArgs false
set_option maxRecDepth 10000
namespace W
/-- 10 to the places -/
def ten (p : Nat) : Int := 10 ^ p
theorem ten_succ (p : Nat) : ten (p + 1) = ten p * 10 := by unfold ten; rw [Int.pow_succ]
theorem ten_bd {p : Nat} (h : p ≤ 9) : 1 ≤ ten p ∧ ten p ≤ 1000000000 := by
  have : p = 0 ∨ p = 1 ∨ p = 2 ∨ p = 3 ∨ p = 4 ∨ p = 5 ∨ p = 6 ∨ p = 7 ∨ p = 8 ∨ p = 9 := by omega
  rcases this with rfl | rfl | rfl | rfl | rfl | rfl | rfl | rfl | rfl | rfl <;> decide
set_option maxHeartbeats 800000 in
theorem power_any (p : Nat) (w : World) (h : p ≤ 9) : Calls Tryd.prog 25 #[.int .i64 (p : Int)] w fun e w' => e = .returned (.int .i64 (ten p)) ∧ w' = w := by
  go_enter Tryd.func25, Tryd.ntmps25
  go_wp2_with fail
  go_loopw [3, 5] (fun u i wr => ∃ k : Nat, k ≤ p ∧ u = .int .i64 (ten k) ∧ i = .int .i64 (k : Int) ∧ wr = w) (fun _ i _ => p - (intOf i).toNat)
  case atStart => exact ⟨0, by omega, rfl, rfl, rfl⟩
  case round =>
    obtain ⟨k, hk, rfl, rfl, rfl⟩ := hrel
    by_cases hlt : k < p
    · have li : (k : Int) < (p : Int) := by omega
      have hb := ten_bd (p := k) (by omega)
      have hm : wrap64 (ten k * 10) = ten (k + 1) := by rw [ten_succ]; exact wrap_in (by omega)
      go_wp2_with fail
      go_roundw
      case rel => exact ⟨k + 1, hlt, rfl, by go_num, trivial⟩
      case measure => simp [intOf]; omega
    · have : k = p := by omega
      subst this
      go_wp2_with fail
      go_ret
      exact ⟨rfl, rfl⟩
/-- a text with so many places behind a point -/
def pnt (D : ByteArray) (p : Nat) : ByteArray := (D.extract 0 (D.size - p) ++ ⟨#[46]⟩) ++ D.extract (D.size - p) D.size
/-- digits with noughts ahead, so that there are more than so many -/
def pad (l : List UInt8) (p : Nat) : ByteArray := ⟨(List.replicate (p + 1 - l.length) 48 ++ l).toArray⟩
def zer (k : Nat) : ByteArray := ⟨(List.replicate k 48).toArray⟩
set_option maxHeartbeats 4000000 in
theorem repz1 (w : World) : Calls Tryd.prog 57 #[.string ⟨#[48]⟩, .int .i64 1] w fun e w' => e = .returned (.string (zer 1)) ∧ Keep w w' := by
  go_enter Tryd.func57, Tryd.ntmps57
  go_wp2
  go_ret
  exact ⟨rfl, Keep.refl _⟩
set_option maxHeartbeats 4000000 in
theorem pre0 (S : ByteArray) (w : World) (b : Bool) (h1 : ¬ (S.size : Int) < 1) (h2 : ((S.extract 0 1).toList == [48]) = b) : Calls Tryd.prog 78 #[.string S, .string ⟨#[48]⟩] w fun e w' => e = .returned (.bool b) ∧ w' = w := by
  go_enter Tryd.func78, Tryd.ntmps78
  go_wp2
  go_ret
  exact ⟨rfl, rfl⟩
set_option maxHeartbeats 4000000 in
theorem mulz2 (w : World) : Calls Tryd.prog 77 #[.int .u64 1, .int .u64 2] w fun e w' => e = .returned (.tuple #[.int .u64 0, .int .u64 2]) ∧ w' = w := by
  go_enter Tryd.func77, Tryd.ntmps77
  go_wp2
  go_ret2
  exact ⟨by kernel_rfl, rfl⟩
set_option maxHeartbeats 8000000 in
theorem repz2 (w : World) : Calls Tryd.prog 57 #[.string ⟨#[48]⟩, .int .i64 2] w fun e w' => e = .returned (.string (zer 2)) ∧ Keep w w' := by
  have T1 := hide (mulz2 w)
  go_enter Tryd.func57, Tryd.ntmps57
  go_wp2_with fail
  (refine (unhide T1).mono ?_; rintro e w ⟨rfl, rfl⟩)
  go_wp2_with fail
  (refine (pre0 _ _ false (by decide) (by kernel_rfl)).mono ?_; rintro e w ⟨rfl, rfl⟩)
  go_wp2_with fail
  (refine (pre0 _ _ false (by decide) (by kernel_rfl)).mono ?_; rintro e w ⟨rfl, rfl⟩)
  go_wp2_with fail
  (refine (pre0 _ _ true (by decide) (by kernel_rfl)).mono ?_; rintro e w ⟨rfl, rfl⟩)
  go_wp2_with fail
  go_ret
  exact ⟨by kernel_rfl, Keep.refl _⟩
set_option maxHeartbeats 4000000 in
theorem mulz3 (w : World) : Calls Tryd.prog 77 #[.int .u64 1, .int .u64 3] w fun e w' => e = .returned (.tuple #[.int .u64 0, .int .u64 3]) ∧ w' = w := by
  go_enter Tryd.func77, Tryd.ntmps77
  go_wp2
  go_ret2
  exact ⟨by kernel_rfl, rfl⟩
set_option maxHeartbeats 8000000 in
theorem repz3 (w : World) : Calls Tryd.prog 57 #[.string ⟨#[48]⟩, .int .i64 3] w fun e w' => e = .returned (.string (zer 3)) ∧ Keep w w' := by
  have T1 := hide (mulz3 w)
  go_enter Tryd.func57, Tryd.ntmps57
  go_wp2_with fail
  (refine (unhide T1).mono ?_; rintro e w ⟨rfl, rfl⟩)
  go_wp2_with fail
  (refine (pre0 _ _ false (by decide) (by kernel_rfl)).mono ?_; rintro e w ⟨rfl, rfl⟩)
  go_wp2_with fail
  (refine (pre0 _ _ false (by decide) (by kernel_rfl)).mono ?_; rintro e w ⟨rfl, rfl⟩)
  go_wp2_with fail
  (refine (pre0 _ _ true (by decide) (by kernel_rfl)).mono ?_; rintro e w ⟨rfl, rfl⟩)
  go_wp2_with fail
  go_ret
  exact ⟨by kernel_rfl, Keep.refl _⟩
set_option maxHeartbeats 4000000 in
theorem mulz4 (w : World) : Calls Tryd.prog 77 #[.int .u64 1, .int .u64 4] w fun e w' => e = .returned (.tuple #[.int .u64 0, .int .u64 4]) ∧ w' = w := by
  go_enter Tryd.func77, Tryd.ntmps77
  go_wp2
  go_ret2
  exact ⟨by kernel_rfl, rfl⟩
set_option maxHeartbeats 8000000 in
theorem repz4 (w : World) : Calls Tryd.prog 57 #[.string ⟨#[48]⟩, .int .i64 4] w fun e w' => e = .returned (.string (zer 4)) ∧ Keep w w' := by
  have T1 := hide (mulz4 w)
  go_enter Tryd.func57, Tryd.ntmps57
  go_wp2_with fail
  (refine (unhide T1).mono ?_; rintro e w ⟨rfl, rfl⟩)
  go_wp2_with fail
  (refine (pre0 _ _ false (by decide) (by kernel_rfl)).mono ?_; rintro e w ⟨rfl, rfl⟩)
  go_wp2_with fail
  (refine (pre0 _ _ false (by decide) (by kernel_rfl)).mono ?_; rintro e w ⟨rfl, rfl⟩)
  go_wp2_with fail
  (refine (pre0 _ _ true (by decide) (by kernel_rfl)).mono ?_; rintro e w ⟨rfl, rfl⟩)
  go_wp2_with fail
  go_ret
  exact ⟨by kernel_rfl, Keep.refl _⟩
set_option maxHeartbeats 4000000 in
theorem mulz5 (w : World) : Calls Tryd.prog 77 #[.int .u64 1, .int .u64 5] w fun e w' => e = .returned (.tuple #[.int .u64 0, .int .u64 5]) ∧ w' = w := by
  go_enter Tryd.func77, Tryd.ntmps77
  go_wp2
  go_ret2
  exact ⟨by kernel_rfl, rfl⟩
set_option maxHeartbeats 8000000 in
theorem repz5 (w : World) : Calls Tryd.prog 57 #[.string ⟨#[48]⟩, .int .i64 5] w fun e w' => e = .returned (.string (zer 5)) ∧ Keep w w' := by
  have T1 := hide (mulz5 w)
  go_enter Tryd.func57, Tryd.ntmps57
  go_wp2_with fail
  (refine (unhide T1).mono ?_; rintro e w ⟨rfl, rfl⟩)
  go_wp2_with fail
  (refine (pre0 _ _ false (by decide) (by kernel_rfl)).mono ?_; rintro e w ⟨rfl, rfl⟩)
  go_wp2_with fail
  (refine (pre0 _ _ false (by decide) (by kernel_rfl)).mono ?_; rintro e w ⟨rfl, rfl⟩)
  go_wp2_with fail
  (refine (pre0 _ _ true (by decide) (by kernel_rfl)).mono ?_; rintro e w ⟨rfl, rfl⟩)
  go_wp2_with fail
  go_ret
  exact ⟨by kernel_rfl, Keep.refl _⟩
set_option maxHeartbeats 4000000 in
theorem mulz6 (w : World) : Calls Tryd.prog 77 #[.int .u64 1, .int .u64 6] w fun e w' => e = .returned (.tuple #[.int .u64 0, .int .u64 6]) ∧ w' = w := by
  go_enter Tryd.func77, Tryd.ntmps77
  go_wp2
  go_ret2
  exact ⟨by kernel_rfl, rfl⟩
set_option maxHeartbeats 8000000 in
theorem repz6 (w : World) : Calls Tryd.prog 57 #[.string ⟨#[48]⟩, .int .i64 6] w fun e w' => e = .returned (.string (zer 6)) ∧ Keep w w' := by
  have T1 := hide (mulz6 w)
  go_enter Tryd.func57, Tryd.ntmps57
  go_wp2_with fail
  (refine (unhide T1).mono ?_; rintro e w ⟨rfl, rfl⟩)
  go_wp2_with fail
  (refine (pre0 _ _ false (by decide) (by kernel_rfl)).mono ?_; rintro e w ⟨rfl, rfl⟩)
  go_wp2_with fail
  (refine (pre0 _ _ false (by decide) (by kernel_rfl)).mono ?_; rintro e w ⟨rfl, rfl⟩)
  go_wp2_with fail
  (refine (pre0 _ _ true (by decide) (by kernel_rfl)).mono ?_; rintro e w ⟨rfl, rfl⟩)
  go_wp2_with fail
  go_ret
  exact ⟨by kernel_rfl, Keep.refl _⟩
set_option maxHeartbeats 4000000 in
theorem mulz7 (w : World) : Calls Tryd.prog 77 #[.int .u64 1, .int .u64 7] w fun e w' => e = .returned (.tuple #[.int .u64 0, .int .u64 7]) ∧ w' = w := by
  go_enter Tryd.func77, Tryd.ntmps77
  go_wp2
  go_ret2
  exact ⟨by kernel_rfl, rfl⟩
set_option maxHeartbeats 8000000 in
theorem repz7 (w : World) : Calls Tryd.prog 57 #[.string ⟨#[48]⟩, .int .i64 7] w fun e w' => e = .returned (.string (zer 7)) ∧ Keep w w' := by
  have T1 := hide (mulz7 w)
  go_enter Tryd.func57, Tryd.ntmps57
  go_wp2_with fail
  (refine (unhide T1).mono ?_; rintro e w ⟨rfl, rfl⟩)
  go_wp2_with fail
  (refine (pre0 _ _ false (by decide) (by kernel_rfl)).mono ?_; rintro e w ⟨rfl, rfl⟩)
  go_wp2_with fail
  (refine (pre0 _ _ false (by decide) (by kernel_rfl)).mono ?_; rintro e w ⟨rfl, rfl⟩)
  go_wp2_with fail
  (refine (pre0 _ _ true (by decide) (by kernel_rfl)).mono ?_; rintro e w ⟨rfl, rfl⟩)
  go_wp2_with fail
  go_ret
  exact ⟨by kernel_rfl, Keep.refl _⟩
set_option maxHeartbeats 4000000 in
theorem mulz8 (w : World) : Calls Tryd.prog 77 #[.int .u64 1, .int .u64 8] w fun e w' => e = .returned (.tuple #[.int .u64 0, .int .u64 8]) ∧ w' = w := by
  go_enter Tryd.func77, Tryd.ntmps77
  go_wp2
  go_ret2
  exact ⟨by kernel_rfl, rfl⟩
set_option maxHeartbeats 8000000 in
theorem repz8 (w : World) : Calls Tryd.prog 57 #[.string ⟨#[48]⟩, .int .i64 8] w fun e w' => e = .returned (.string (zer 8)) ∧ Keep w w' := by
  have T1 := hide (mulz8 w)
  go_enter Tryd.func57, Tryd.ntmps57
  go_wp2_with fail
  (refine (unhide T1).mono ?_; rintro e w ⟨rfl, rfl⟩)
  go_wp2_with fail
  (refine (pre0 _ _ false (by decide) (by kernel_rfl)).mono ?_; rintro e w ⟨rfl, rfl⟩)
  go_wp2_with fail
  (refine (pre0 _ _ false (by decide) (by kernel_rfl)).mono ?_; rintro e w ⟨rfl, rfl⟩)
  go_wp2_with fail
  (refine (pre0 _ _ true (by decide) (by kernel_rfl)).mono ?_; rintro e w ⟨rfl, rfl⟩)
  go_wp2_with fail
  go_ret
  exact ⟨by kernel_rfl, Keep.refl _⟩
set_option maxHeartbeats 4000000 in
theorem mulz9 (w : World) : Calls Tryd.prog 77 #[.int .u64 1, .int .u64 9] w fun e w' => e = .returned (.tuple #[.int .u64 0, .int .u64 9]) ∧ w' = w := by
  go_enter Tryd.func77, Tryd.ntmps77
  go_wp2
  go_ret2
  exact ⟨by kernel_rfl, rfl⟩
set_option maxHeartbeats 8000000 in
theorem repz9 (w : World) : Calls Tryd.prog 57 #[.string ⟨#[48]⟩, .int .i64 9] w fun e w' => e = .returned (.string (zer 9)) ∧ Keep w w' := by
  have T1 := hide (mulz9 w)
  go_enter Tryd.func57, Tryd.ntmps57
  go_wp2_with fail
  (refine (unhide T1).mono ?_; rintro e w ⟨rfl, rfl⟩)
  go_wp2_with fail
  (refine (pre0 _ _ false (by decide) (by kernel_rfl)).mono ?_; rintro e w ⟨rfl, rfl⟩)
  go_wp2_with fail
  (refine (pre0 _ _ false (by decide) (by kernel_rfl)).mono ?_; rintro e w ⟨rfl, rfl⟩)
  go_wp2_with fail
  (refine (pre0 _ _ true (by decide) (by kernel_rfl)).mono ?_; rintro e w ⟨rfl, rfl⟩)
  go_wp2_with fail
  go_ret
  exact ⟨by kernel_rfl, Keep.refl _⟩
theorem rep_any (k : Nat) (h1 : 1 ≤ k) (h2 : k ≤ 9) (w : World) : Calls Tryd.prog 57 #[.string ⟨#[48]⟩, .int .i64 (k : Int)] w fun e w' => e = .returned (.string (zer k)) ∧ Keep w w' := by
  have : k = 1 ∨ k = 2 ∨ k = 3 ∨ k = 4 ∨ k = 5 ∨ k = 6 ∨ k = 7 ∨ k = 8 ∨ k = 9 := by omega
  rcases this with rfl | rfl | rfl | rfl | rfl | rfl | rfl | rfl | rfl
  · exact repz1 w
  · exact repz2 w
  · exact repz3 w
  · exact repz4 w
  · exact repz5 w
  · exact repz6 w
  · exact repz7 w
  · exact repz8 w
  · exact repz9 w
theorem zer_size (k : Nat) : (zer k).size = k := by
  show (List.replicate k (48 : UInt8)).toArray.size = k
  simp
theorem ext_size (D : ByteArray) (a b : Nat) (h : b ≤ D.size) : (D.extract a b).size = b - a := by
  rw [ByteArray.size_extract]; omega
set_option maxHeartbeats 4000000 in
theorem pointed_zero (n : Int) (S : ByteArray) (w : World) (T : Hid (Calls Tryd.prog 56 #[.int .i64 n, .int .i64 10] w fun e w' => e = .returned (.string S) ∧ Keep w w')) :
    Calls Tryd.prog 26 #[.int .i64 n, .int .i64 0] w fun e w' => e = .returned (.string S) ∧ Keep w w' := by
  go_enter Tryd.func26, Tryd.ntmps26
  go_wp2_with fail
  (refine (unhide T).mono ?_; rintro e w2 ⟨rfl, hk⟩; obtain ⟨o1, k1, rfl⟩ := hk.ext; clear hk)
  go_wp2_with fail
  go_ret
  exact ⟨rfl, by repeat (first | apply keep_ext | apply Keep.alloc | apply Keep.drew | exact Keep.refl _)⟩
set_option maxHeartbeats 4000000 in
theorem pointed_long (n P P1 sh : Int) (q : Nat) (S A B : ByteArray) (w : World) (hp : (P == 0) = false) (e1 : wrap64 (P + 1) = P1) (e2 : wrap64 (P1 - (S.size : Int)) = sh) (hs : ¬ 0 < sh) (e3 : wrap64 ((S.size : Int) - P) = (q : Int)) (e4 : ¬ 9223372036854775807 < A.size + 1) (e5 : ¬ 9223372036854775807 < A.size + 1 + B.size) (e6 : q ≤ S.size) (hA : S.extract 0 q = A) (hB : S.extract q S.size = B)
    (T : Hid (Calls Tryd.prog 56 #[.int .i64 n, .int .i64 10] w fun e w' => e = .returned (.string S) ∧ Keep w w')) :
    Calls Tryd.prog 26 #[.int .i64 n, .int .i64 P] w fun e w' => e = .returned (.string ((A ++ ⟨#[46]⟩) ++ B)) ∧ Keep w w' := by
  go_enter Tryd.func26, Tryd.ntmps26
  go_wp2_with fail
  (refine (unhide T).mono ?_; rintro e w2 ⟨rfl, hk⟩; obtain ⟨o1, k1, rfl⟩ := hk.ext; clear hk)
  go_wp2_with fail
  refine wp_region_held_drew (S := (fun w' => True)) (by kernel_rfl) (by trivial) (fun hHeld => ?_)
  refine wpAnyH_take (i := 0) (v := ?_) rfl (by kernel_rfl) (by kernel_rfl) (by kernel_rfl) (fun _ _ _ h => h) (Or.inl ⟨by rfl, ?_⟩) hHeld ?_
  rotate_left
  · intro w hSw
    try dsimp only at hSw
    go_simp
    try with_reducible rfl
  show wpAnyH _ _ _ _ _ _ _ (Act.put _ (some 28) _) _
  try simp only [Act.put, List.setIfInBounds_toArray, List.set_cons_zero, List.set_cons_succ]
  refine wpAnyH_take (i := 1) (v := ?_) rfl (by kernel_rfl) (by kernel_rfl) (by kernel_rfl) (fun _ _ _ h => h) (Or.inl ⟨by rfl, ?_⟩) hHeld ?_
  rotate_left
  · intro w hSw
    try dsimp only at hSw
    go_simp
    try with_reducible rfl
  show wpAnyH _ _ _ _ _ _ _ (Act.put _ (some 29) _) _
  try simp only [Act.put, List.setIfInBounds_toArray, List.set_cons_zero, List.set_cons_succ]
  refine wpAnyH_take (i := 2) (v := ?_) rfl (by kernel_rfl) (by kernel_rfl) (by kernel_rfl) (fun _ _ _ h => h) (Or.inl ⟨by rfl, ?_⟩) hHeld ?_
  rotate_left
  · intro w hSw
    try dsimp only at hSw
    go_simp
    try with_reducible rfl
  show wpAnyH _ _ _ _ _ _ _ (Act.put _ (some 30) _) _
  try simp only [Act.put, List.setIfInBounds_toArray, List.set_cons_zero, List.set_cons_succ]
  refine wpAnyH_take (i := 3) (v := ?_) rfl (by kernel_rfl) (by kernel_rfl) (by kernel_rfl) (fun _ _ _ h => h) (Or.inl ⟨by rfl, ?_⟩) hHeld ?_
  rotate_left
  · intro w hSw
    try dsimp only at hSw
    go_simp
    try with_reducible rfl
  show wpAnyH _ _ _ _ _ _ _ (Act.put _ (some 31) _) _
  try simp only [Act.put, List.setIfInBounds_toArray, List.set_cons_zero, List.set_cons_succ]
  refine wpAnyH_take (i := 4) (v := ?_) rfl (by kernel_rfl) (by kernel_rfl) (by kernel_rfl) (fun _ _ _ h => h) (Or.inl ⟨by rfl, ?_⟩) hHeld ?_
  rotate_left
  · intro w hSw
    try dsimp only at hSw
    go_simp
    try with_reducible rfl
  show wpAnyH _ _ _ _ _ _ _ (Act.put _ (some 32) _) _
  try simp only [Act.put, List.setIfInBounds_toArray, List.set_cons_zero, List.set_cons_succ]
  refine wpAnyH_take (i := 5) (v := ?_) rfl (by kernel_rfl) (by kernel_rfl) (by kernel_rfl) (fun _ _ _ h => h) (Or.inl ⟨by rfl, ?_⟩) hHeld ?_
  rotate_left
  · intro w hSw
    try dsimp only at hSw
    go_simp
    try with_reducible rfl
  show wpAnyH _ _ _ _ _ _ _ (Act.put _ (some 33) _) _
  try simp only [Act.put, List.setIfInBounds_toArray, List.set_cons_zero, List.set_cons_succ]
  refine wpAnyH_take (i := 6) (v := ?_) rfl (by kernel_rfl) (by kernel_rfl) (by kernel_rfl) (fun _ _ _ h => h) (Or.inl ⟨by rfl, ?_⟩) hHeld ?_
  rotate_left
  · intro w hSw
    try dsimp only at hSw
    go_simp
    try with_reducible rfl
  show wpAnyH _ _ _ _ _ _ _ (Act.put _ (some 34) _) _
  try simp only [Act.put, List.setIfInBounds_toArray, List.set_cons_zero, List.set_cons_succ]
  refine wpAnyH_take (i := 7) (v := ?_) rfl (by kernel_rfl) (by kernel_rfl) (by kernel_rfl) (fun _ _ _ h => h) (Or.inl ⟨by rfl, ?_⟩) hHeld ?_
  rotate_left
  · intro w hSw
    try dsimp only at hSw
    go_simp
    try with_reducible rfl
  show wpAnyH _ _ _ _ _ _ _ (Act.put _ (some 35) _) _
  try simp only [Act.put, List.setIfInBounds_toArray, List.set_cons_zero, List.set_cons_succ]
  refine wpAnyH_take (i := 8) (v := ?_) rfl (by kernel_rfl) (by kernel_rfl) (by kernel_rfl) (fun _ _ _ h => h) (Or.inl ⟨by rfl, ?_⟩) hHeld ?_
  rotate_left
  · intro w hSw
    try dsimp only at hSw
    go_simp
    try with_reducible rfl
  show wpAnyH _ _ _ _ _ _ _ (Act.put _ (some 4) _) _
  try simp only [Act.put, List.setIfInBounds_toArray, List.set_cons_zero, List.set_cons_succ]
  refine wpAnyH_done (by kernel_rfl) ?_ _
  clear hHeld
  go_wp2_with fail
  go_ret
  exact ⟨rfl, by repeat (first | apply keep_ext | apply Keep.alloc | apply Keep.drew | exact Keep.refl _)⟩
set_option maxHeartbeats 4000000 in
theorem pointed_short (n P P1 sh : Int) (q : Nat) (S Z D A B : ByteArray) (w : World) (hp : (P == 0) = false) (e1 : wrap64 (P + 1) = P1) (e2 : wrap64 (P1 - (S.size : Int)) = sh) (hs : 0 < sh) (hD : Z ++ S = D) (ez : ¬ 9223372036854775807 < Z.size + S.size) (e3 : wrap64 ((D.size : Int) - P) = (q : Int)) (e4 : ¬ 9223372036854775807 < A.size + 1) (e5 : ¬ 9223372036854775807 < A.size + 1 + B.size) (e6 : q ≤ D.size) (hA : D.extract 0 q = A) (hB : D.extract q D.size = B)
    (T : Hid (Calls Tryd.prog 56 #[.int .i64 n, .int .i64 10] w fun e w' => e = .returned (.string S) ∧ Keep w w'))
    (R : Hid (∀ w, Calls Tryd.prog 57 #[.string ⟨#[48]⟩, .int .i64 sh] w fun e w' => e = .returned (.string Z) ∧ Keep w w')) :
    Calls Tryd.prog 26 #[.int .i64 n, .int .i64 P] w fun e w' => e = .returned (.string ((A ++ ⟨#[46]⟩) ++ B)) ∧ Keep w w' := by
  go_enter Tryd.func26, Tryd.ntmps26
  go_wp2_with fail
  (refine (unhide T).mono ?_; rintro e w2 ⟨rfl, hk⟩; obtain ⟨o1, k1, rfl⟩ := hk.ext; clear hk)
  go_wp2_with fail
  (refine ((unhide R) _).mono ?_; rintro e w2 ⟨rfl, hk⟩; obtain ⟨o2, k2, rfl⟩ := hk.ext; clear hk)
  go_wp2_with fail
  refine wp_region_held_drew (S := (fun w' => True)) (by kernel_rfl) (by trivial) (fun hHeld => ?_)
  refine wpAnyH_take (i := 0) (v := ?_) rfl (by kernel_rfl) (by kernel_rfl) (by kernel_rfl) (fun _ _ _ h => h) (Or.inl ⟨by rfl, ?_⟩) hHeld ?_
  rotate_left
  · intro w hSw
    try dsimp only at hSw
    go_simp
    try with_reducible rfl
  show wpAnyH _ _ _ _ _ _ _ (Act.put _ (some 28) _) _
  try simp only [Act.put, List.setIfInBounds_toArray, List.set_cons_zero, List.set_cons_succ]
  refine wpAnyH_take (i := 1) (v := ?_) rfl (by kernel_rfl) (by kernel_rfl) (by kernel_rfl) (fun _ _ _ h => h) (Or.inl ⟨by rfl, ?_⟩) hHeld ?_
  rotate_left
  · intro w hSw
    try dsimp only at hSw
    go_simp
    try with_reducible rfl
  show wpAnyH _ _ _ _ _ _ _ (Act.put _ (some 29) _) _
  try simp only [Act.put, List.setIfInBounds_toArray, List.set_cons_zero, List.set_cons_succ]
  refine wpAnyH_take (i := 2) (v := ?_) rfl (by kernel_rfl) (by kernel_rfl) (by kernel_rfl) (fun _ _ _ h => h) (Or.inl ⟨by rfl, ?_⟩) hHeld ?_
  rotate_left
  · intro w hSw
    try dsimp only at hSw
    go_simp
    try with_reducible rfl
  show wpAnyH _ _ _ _ _ _ _ (Act.put _ (some 30) _) _
  try simp only [Act.put, List.setIfInBounds_toArray, List.set_cons_zero, List.set_cons_succ]
  refine wpAnyH_take (i := 3) (v := ?_) rfl (by kernel_rfl) (by kernel_rfl) (by kernel_rfl) (fun _ _ _ h => h) (Or.inl ⟨by rfl, ?_⟩) hHeld ?_
  rotate_left
  · intro w hSw
    try dsimp only at hSw
    go_simp
    try with_reducible rfl
  show wpAnyH _ _ _ _ _ _ _ (Act.put _ (some 31) _) _
  try simp only [Act.put, List.setIfInBounds_toArray, List.set_cons_zero, List.set_cons_succ]
  refine wpAnyH_take (i := 4) (v := ?_) rfl (by kernel_rfl) (by kernel_rfl) (by kernel_rfl) (fun _ _ _ h => h) (Or.inl ⟨by rfl, ?_⟩) hHeld ?_
  rotate_left
  · intro w hSw
    try dsimp only at hSw
    go_simp
    try with_reducible rfl
  show wpAnyH _ _ _ _ _ _ _ (Act.put _ (some 32) _) _
  try simp only [Act.put, List.setIfInBounds_toArray, List.set_cons_zero, List.set_cons_succ]
  refine wpAnyH_take (i := 5) (v := ?_) rfl (by kernel_rfl) (by kernel_rfl) (by kernel_rfl) (fun _ _ _ h => h) (Or.inl ⟨by rfl, ?_⟩) hHeld ?_
  rotate_left
  · intro w hSw
    try dsimp only at hSw
    go_simp
    try with_reducible rfl
  show wpAnyH _ _ _ _ _ _ _ (Act.put _ (some 33) _) _
  try simp only [Act.put, List.setIfInBounds_toArray, List.set_cons_zero, List.set_cons_succ]
  refine wpAnyH_take (i := 6) (v := ?_) rfl (by kernel_rfl) (by kernel_rfl) (by kernel_rfl) (fun _ _ _ h => h) (Or.inl ⟨by rfl, ?_⟩) hHeld ?_
  rotate_left
  · intro w hSw
    try dsimp only at hSw
    go_simp
    try with_reducible rfl
  show wpAnyH _ _ _ _ _ _ _ (Act.put _ (some 34) _) _
  try simp only [Act.put, List.setIfInBounds_toArray, List.set_cons_zero, List.set_cons_succ]
  refine wpAnyH_take (i := 7) (v := ?_) rfl (by kernel_rfl) (by kernel_rfl) (by kernel_rfl) (fun _ _ _ h => h) (Or.inl ⟨by rfl, ?_⟩) hHeld ?_
  rotate_left
  · intro w hSw
    try dsimp only at hSw
    go_simp
    try with_reducible rfl
  show wpAnyH _ _ _ _ _ _ _ (Act.put _ (some 35) _) _
  try simp only [Act.put, List.setIfInBounds_toArray, List.set_cons_zero, List.set_cons_succ]
  refine wpAnyH_take (i := 8) (v := ?_) rfl (by kernel_rfl) (by kernel_rfl) (by kernel_rfl) (fun _ _ _ h => h) (Or.inl ⟨by rfl, ?_⟩) hHeld ?_
  rotate_left
  · intro w hSw
    try dsimp only at hSw
    go_simp
    try with_reducible rfl
  show wpAnyH _ _ _ _ _ _ _ (Act.put _ (some 4) _) _
  try simp only [Act.put, List.setIfInBounds_toArray, List.set_cons_zero, List.set_cons_succ]
  refine wpAnyH_done (by kernel_rfl) ?_ _
  clear hHeld
  go_wp2_with fail
  go_ret
  exact ⟨rfl, by repeat (first | apply keep_ext | apply Keep.alloc | apply Keep.drew | exact Keep.refl _)⟩
end W
end Go.Proofs.YtnegcifbbbmlnaaDoor
