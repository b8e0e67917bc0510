/- The cycle that the formula asks for: package webster's, the document's. -/
import Derived.Test.YtjibbekojbaopaaFracE
import Derived.Test.YtjibbekojbaopaaFracV
import Derived.Test.YtjibbekojbaopaaRefP
import Derived.Test.YtjibbekojbaopaaRefO
import Derived.Test.YtjibbekojbaopaaWbM
import Derived.Test.YtjibbekojbaopaaExt
import Derived.Deep.RegionHeld3
namespace Go.Proofs.Ytjibbekojbaopaa
open Go.RowKit
set_option linter.unusedVariables false
set_option linter.unusedSimpArgs false
set_option maxRecDepth 10000
namespace Wb
open W
set_option maxHeartbeats 1000000 in
theorem cycle_bad (lost n d : Int) (w : World) (h : lost < 0 ∨ (¬ lost < 0 ∧ 600000 < lost) ∨ (¬ lost < 0 ∧ ¬ 600000 < lost ∧ n < 0)) : Calls Try.prog 8 #[.int .i64 lost, .agg #[.int .i64 n, .int .i64 d]] w fun e w' => e = .returned (.tuple #[.int .i64 0, .bool false, .int .i64 1]) ∧ Keep w w' := by
  rcases h with h1 | ⟨h1, h2⟩ | ⟨h1, h2, h3⟩
  · go_enter Try.func8, Try.ntmps8
    go_wp2_with fail
    exact bodyPost_ret (v := .tuple #[.int .i64 0, .bool false, .int .i64 1]) (by simp [results, Try.results8, go_sem]) rfl ⟨rfl, by repeat (first | apply keep_ext | apply Keep.alloc | apply Keep.drew | (refine keep_set _ _ _ (by omega) ?_) | assumption | exact Keep.refl _)⟩
  · go_enter Try.func8, Try.ntmps8
    go_wp2_with fail
    exact bodyPost_ret (v := .tuple #[.int .i64 0, .bool false, .int .i64 1]) (by simp [results, Try.results8, go_sem]) rfl ⟨rfl, by repeat (first | apply keep_ext | apply Keep.alloc | apply Keep.drew | (refine keep_set _ _ _ (by omega) ?_) | assumption | exact Keep.refl _)⟩
  · go_enter Try.func8, Try.ntmps8
    go_wp2_with fail
    exact bodyPost_ret (v := .tuple #[.int .i64 0, .bool false, .int .i64 1]) (by simp [results, Try.results8, go_sem]) rfl ⟨rfl, by repeat (first | apply keep_ext | apply Keep.alloc | apply Keep.drew | (refine keep_set _ _ _ (by omega) ?_) | assumption | exact Keep.refl _)⟩
set_option maxHeartbeats 1000000 in
theorem cycle_bad2 (lost n d : Int) (w : World) (h1 : ¬ lost < 0) (h2 : ¬ 600000 < lost) (h3 : ¬ n < 0) (T1 : Hid (∀ w, Calls Try.prog 21 #[.agg #[.int .i64 n, .int .i64 d]] w fun e w' => e = .returned (.bool false) ∧ Keep w w')) : Calls Try.prog 8 #[.int .i64 lost, .agg #[.int .i64 n, .int .i64 d]] w fun e w' => e = .returned (.tuple #[.int .i64 0, .bool false, .int .i64 1]) ∧ Keep w w' := by
  go_enter Try.func8, Try.ntmps8
  go_wp2_with fail
  (refine ((uq T1) _).mono ?_; rintro e w1 ⟨rfl, hk⟩; obtain ⟨o1, k1, rfl⟩ := hk.ext; clear hk)
  go_wp2_with fail
  exact bodyPost_ret (v := .tuple #[.int .i64 0, .bool false, .int .i64 1]) (by simp [results, Try.results8, go_sem]) rfl ⟨rfl, by repeat (first | apply keep_ext | apply Keep.alloc | apply Keep.drew | (refine keep_set _ _ _ (by omega) ?_) | assumption | exact Keep.refl _)⟩
set_option maxHeartbeats 1000000 in
theorem cycle_ge (lost n d v : Int) (w : World) (h1 : ¬ lost < 0) (h2 : ¬ 600000 < lost) (h3 : ¬ n < 0) (hv : 0 ≤ v) (T1 : Hid (∀ w, Calls Try.prog 21 #[.agg #[.int .i64 n, .int .i64 d]] w fun e w' => e = .returned (.bool true) ∧ Keep w w')) (T2 : Hid (∀ w, Calls Try.prog 22 #[.agg #[.int .i64 n, .int .i64 d], .agg #[.int .i64 1, .int .i64 1]] w fun e w' => e = .returned (.int .i64 v) ∧ Keep w w')) : Calls Try.prog 8 #[.int .i64 lost, .agg #[.int .i64 n, .int .i64 d]] w fun e w' => e = .returned (.tuple #[.int .i64 0, .bool false, .int .i64 0]) ∧ Keep w w' := by
  go_enter Try.func8, Try.ntmps8
  go_wp2_with fail
  (refine ((uq T1) _).mono ?_; rintro e w1 ⟨rfl, hk⟩; obtain ⟨o1, k1, rfl⟩ := hk.ext; clear hk)
  go_wp2_with fail
  (refine ((uq T2) _).mono ?_; rintro e w2 ⟨rfl, hk⟩; obtain ⟨o2, k2, rfl⟩ := hk.ext; clear hk)
  go_wp2_with fail
  exact bodyPost_ret (v := .tuple #[.int .i64 0, .bool false, .int .i64 0]) (by simp [results, Try.results8, go_sem]) rfl ⟨rfl, by repeat (first | apply keep_ext | apply Keep.alloc | apply Keep.drew | (refine keep_set _ _ _ (by omega) ?_) | assumption | exact Keep.refl _)⟩
set_option maxHeartbeats 1000000 in
theorem cycle_err (lost n d v l1 l2 l3 p1 p2 p3 c1 c2 c3 : Int) (w : World) (h1 : ¬ lost < 0) (h2 : ¬ 600000 < lost) (h3 : ¬ n < 0) (hv : ¬ 0 ≤ v) (he : ¬ c3 = 0) (T1 : Hid (∀ w, Calls Try.prog 21 #[.agg #[.int .i64 n, .int .i64 d]] w fun e w' => e = .returned (.bool true) ∧ Keep w w')) (T2 : Hid (∀ w, Calls Try.prog 22 #[.agg #[.int .i64 n, .int .i64 d], .agg #[.int .i64 1, .int .i64 1]] w fun e w' => e = .returned (.int .i64 v) ∧ Keep w w'))
    (T3 : Hid (∀ w, Calls Try.prog 23 #[.agg #[.int .i64 1, .int .i64 1], .agg #[.int .i64 n, .int .i64 d]] w fun e w' => e = .returned (.tuple #[.agg #[.int .i64 l1, .int .i64 l2], .int .i64 l3]) ∧ Keep w w'))
    (T4 : Hid (∀ w, Calls Try.prog 24 #[.int .i64 (3 * lost + 100), .int .i64 2] w fun e w' => e = .returned (.tuple #[.agg #[.int .i64 p1, .int .i64 p2], .int .i64 p3]) ∧ Keep w w'))
    (T5 : Hid (∀ w, Calls Try.prog 25 #[.agg #[.int .i64 p1, .int .i64 p2], .agg #[.int .i64 l1, .int .i64 l2]] w fun e w' => e = .returned (.tuple #[.agg #[.int .i64 c1, .int .i64 c2], .int .i64 c3]) ∧ Keep w w')) : Calls Try.prog 8 #[.int .i64 lost, .agg #[.int .i64 n, .int .i64 d]] w fun e w' => e = .returned (.tuple #[.int .i64 0, .bool false, .int .i64 c3]) ∧ Keep w w' := by
  go_enter Try.func8, Try.ntmps8
  go_wp2_with fail
  (refine ((uq T1) _).mono ?_; rintro e w1 ⟨rfl, hk⟩; obtain ⟨o1, k1, rfl⟩ := hk.ext; clear hk)
  go_wp2_with fail
  (refine ((uq T2) _).mono ?_; rintro e w2 ⟨rfl, hk⟩; obtain ⟨o2, k2, rfl⟩ := hk.ext; clear hk)
  go_wp2_with fail
  (refine ((uq T3) _).mono ?_; rintro e w3 ⟨rfl, hk⟩; obtain ⟨o3, k3, rfl⟩ := hk.ext; clear hk)
  go_wp2_with fail
  (refine ((uq T4) _).mono ?_; rintro e w4 ⟨rfl, hk⟩; obtain ⟨o4, k4, rfl⟩ := hk.ext; clear hk)
  go_wp2_with fail
  (refine ((uq T5) _).mono ?_; rintro e w5 ⟨rfl, hk⟩; obtain ⟨o5, k5, rfl⟩ := hk.ext; clear hk)
  go_wp2_with fail
  exact bodyPost_ret (v := .tuple #[.int .i64 0, .bool false, .int .i64 c3]) (by simp [results, Try.results8, go_sem]) rfl ⟨rfl, by repeat (first | apply keep_ext | apply Keep.alloc | apply Keep.drew | (refine keep_set _ _ _ (by omega) ?_) | assumption | exact Keep.refl _)⟩
set_option maxHeartbeats 1000000 in
theorem cycle_ok (lost n d v l1 l2 l3 p1 p2 p3 c1 c2 c3 x : Int) (w : World) (h1 : ¬ lost < 0) (h2 : ¬ 600000 < lost) (h3 : ¬ n < 0) (hv : ¬ 0 ≤ v) (he : c3 = 0) (T1 : Hid (∀ w, Calls Try.prog 21 #[.agg #[.int .i64 n, .int .i64 d]] w fun e w' => e = .returned (.bool true) ∧ Keep w w')) (T2 : Hid (∀ w, Calls Try.prog 22 #[.agg #[.int .i64 n, .int .i64 d], .agg #[.int .i64 1, .int .i64 1]] w fun e w' => e = .returned (.int .i64 v) ∧ Keep w w'))
    (T3 : Hid (∀ w, Calls Try.prog 23 #[.agg #[.int .i64 1, .int .i64 1], .agg #[.int .i64 n, .int .i64 d]] w fun e w' => e = .returned (.tuple #[.agg #[.int .i64 l1, .int .i64 l2], .int .i64 l3]) ∧ Keep w w'))
    (T4 : Hid (∀ w, Calls Try.prog 24 #[.int .i64 (3 * lost + 100), .int .i64 2] w fun e w' => e = .returned (.tuple #[.agg #[.int .i64 p1, .int .i64 p2], .int .i64 p3]) ∧ Keep w w'))
    (T5 : Hid (∀ w, Calls Try.prog 25 #[.agg #[.int .i64 p1, .int .i64 p2], .agg #[.int .i64 l1, .int .i64 l2]] w fun e w' => e = .returned (.tuple #[.agg #[.int .i64 c1, .int .i64 c2], .int .i64 c3]) ∧ Keep w w')) (T6 : Hid (∀ w, Calls Try.prog 26 #[.agg #[.int .i64 c1, .int .i64 c2]] w fun e w' => e = .returned (.int .i64 x) ∧ Keep w w')) : Calls Try.prog 8 #[.int .i64 lost, .agg #[.int .i64 n, .int .i64 d]] w fun e w' => e = .returned (.tuple #[.int .i64 x, .bool true, .int .i64 0]) ∧ Keep w w' := by
  subst he
  go_enter Try.func8, Try.ntmps8
  go_wp2_with fail
  (refine ((uq T1) _).mono ?_; rintro e w1 ⟨rfl, hk⟩; obtain ⟨o1, k1, rfl⟩ := hk.ext; clear hk)
  go_wp2_with fail
  (refine ((uq T2) _).mono ?_; rintro e w2 ⟨rfl, hk⟩; obtain ⟨o2, k2, rfl⟩ := hk.ext; clear hk)
  go_wp2_with fail
  (refine ((uq T3) _).mono ?_; rintro e w3 ⟨rfl, hk⟩; obtain ⟨o3, k3, rfl⟩ := hk.ext; clear hk)
  go_wp2_with fail
  (refine ((uq T4) _).mono ?_; rintro e w4 ⟨rfl, hk⟩; obtain ⟨o4, k4, rfl⟩ := hk.ext; clear hk)
  go_wp2_with fail
  (refine ((uq T5) _).mono ?_; rintro e w5 ⟨rfl, hk⟩; obtain ⟨o5, k5, rfl⟩ := hk.ext; clear hk)
  go_wp2_with fail
  (refine ((uq T6) _).mono ?_; rintro e w6 ⟨rfl, hk⟩; obtain ⟨o6, k6, rfl⟩ := hk.ext; clear hk)
  go_wp2_with fail
  exact bodyPost_ret (v := .tuple #[.int .i64 x, .bool true, .int .i64 0]) (by simp [results, Try.results8, go_sem]) rfl ⟨rfl, by repeat (first | apply keep_ext | apply Keep.alloc | apply Keep.drew | (refine keep_set _ _ _ (by omega) ?_) | assumption | exact Keep.refl _)⟩
set_option maxHeartbeats 1000000 in
theorem rcycle_bad (lost n d : Int) (w : World) (h : lost < 0 ∨ (¬ lost < 0 ∧ 600000 < lost)) : Calls Try.prog 9 #[.int .i64 lost, .agg #[.int .i64 n, .int .i64 d]] w fun e w' => e = .returned (.tuple #[.int .i64 0, .bool false, .int .i64 1]) ∧ Keep w w' := by
  rcases h with h1 | ⟨h1, h2⟩
  · go_enter Try.func9, Try.ntmps9
    go_wp2_with fail
    exact bodyPost_ret (v := .tuple #[.int .i64 0, .bool false, .int .i64 1]) (by simp [results, Try.results9, go_sem]) rfl ⟨rfl, by repeat (first | apply keep_ext | apply Keep.alloc | apply Keep.drew | (refine keep_set _ _ _ (by omega) ?_) | assumption | exact Keep.refl _)⟩
  · go_enter Try.func9, Try.ntmps9
    go_wp2_with fail
    exact bodyPost_ret (v := .tuple #[.int .i64 0, .bool false, .int .i64 1]) (by simp [results, Try.results9, go_sem]) rfl ⟨rfl, by repeat (first | apply keep_ext | apply Keep.alloc | apply Keep.drew | (refine keep_set _ _ _ (by omega) ?_) | assumption | exact Keep.refl _)⟩
set_option maxHeartbeats 1000000 in
theorem rcycle_bad2 (lost n d : Int) (b : Bool) (w : World) (h1 : ¬ lost < 0) (h2 : ¬ 600000 < lost) (h3 : b = false ∨ (b = true ∧ n < 0)) (T1 : Hid (∀ w, Calls Try.prog 27 #[.agg #[.int .i64 n, .int .i64 d]] w fun e w' => e = .returned (.bool b) ∧ Keep w w')) : Calls Try.prog 9 #[.int .i64 lost, .agg #[.int .i64 n, .int .i64 d]] w fun e w' => e = .returned (.tuple #[.int .i64 0, .bool false, .int .i64 1]) ∧ Keep w w' := by
  rcases h3 with rfl | ⟨rfl, h3⟩
  · go_enter Try.func9, Try.ntmps9
    go_wp2_with fail
    (refine ((uq T1) _).mono ?_; rintro e w1 ⟨rfl, hk⟩; obtain ⟨o1, k1, rfl⟩ := hk.ext; clear hk)
    go_wp2_with fail
    exact bodyPost_ret (v := .tuple #[.int .i64 0, .bool false, .int .i64 1]) (by simp [results, Try.results9, go_sem]) rfl ⟨rfl, by repeat (first | apply keep_ext | apply Keep.alloc | apply Keep.drew | (refine keep_set _ _ _ (by omega) ?_) | assumption | exact Keep.refl _)⟩
  · go_enter Try.func9, Try.ntmps9
    go_wp2_with fail
    (refine ((uq T1) _).mono ?_; rintro e w1 ⟨rfl, hk⟩; obtain ⟨o1, k1, rfl⟩ := hk.ext; clear hk)
    go_wp2_with fail
    exact bodyPost_ret (v := .tuple #[.int .i64 0, .bool false, .int .i64 1]) (by simp [results, Try.results9, go_sem]) rfl ⟨rfl, by repeat (first | apply keep_ext | apply Keep.alloc | apply Keep.drew | (refine keep_set _ _ _ (by omega) ?_) | assumption | exact Keep.refl _)⟩
set_option maxHeartbeats 1000000 in
theorem rcycle_ge (lost n d v : Int) (w : World) (h1 : ¬ lost < 0) (h2 : ¬ 600000 < lost) (h3 : ¬ n < 0) (hv : 0 ≤ v) (T1 : Hid (∀ w, Calls Try.prog 27 #[.agg #[.int .i64 n, .int .i64 d]] w fun e w' => e = .returned (.bool true) ∧ Keep w w')) (T2 : Hid (∀ w, Calls Try.prog 19 #[.agg #[.int .i64 n, .int .i64 d], .agg #[.int .i64 1, .int .i64 1]] w fun e w' => e = .returned (.int .i64 v) ∧ Keep w w')) : Calls Try.prog 9 #[.int .i64 lost, .agg #[.int .i64 n, .int .i64 d]] w fun e w' => e = .returned (.tuple #[.int .i64 0, .bool false, .int .i64 0]) ∧ Keep w w' := by
  go_enter Try.func9, Try.ntmps9
  go_wp2_with fail
  (refine ((uq T1) _).mono ?_; rintro e w1 ⟨rfl, hk⟩; obtain ⟨o1, k1, rfl⟩ := hk.ext; clear hk)
  go_wp2_with fail
  (refine ((uq T2) _).mono ?_; rintro e w2 ⟨rfl, hk⟩; obtain ⟨o2, k2, rfl⟩ := hk.ext; clear hk)
  go_wp2_with fail
  exact bodyPost_ret (v := .tuple #[.int .i64 0, .bool false, .int .i64 0]) (by simp [results, Try.results9, go_sem]) rfl ⟨rfl, by repeat (first | apply keep_ext | apply Keep.alloc | apply Keep.drew | (refine keep_set _ _ _ (by omega) ?_) | assumption | exact Keep.refl _)⟩
set_option maxHeartbeats 1000000 in
theorem rcycle_err (lost n d v l1 l2 l3 p1 p2 p3 c1 c2 c3 : Int) (w : World) (h1 : ¬ lost < 0) (h2 : ¬ 600000 < lost) (h3 : ¬ n < 0) (hv : ¬ 0 ≤ v) (hl : l3 = 0) (he : ¬ c3 = 0) (T1 : Hid (∀ w, Calls Try.prog 27 #[.agg #[.int .i64 n, .int .i64 d]] w fun e w' => e = .returned (.bool true) ∧ Keep w w')) (T2 : Hid (∀ w, Calls Try.prog 19 #[.agg #[.int .i64 n, .int .i64 d], .agg #[.int .i64 1, .int .i64 1]] w fun e w' => e = .returned (.int .i64 v) ∧ Keep w w'))
    (T3 : Hid (∀ w, Calls Try.prog 28 #[.agg #[.int .i64 1, .int .i64 1], .agg #[.int .i64 n, .int .i64 d]] w fun e w' => e = .returned (.tuple #[.agg #[.int .i64 l1, .int .i64 l2], .int .i64 l3]) ∧ Keep w w'))
    (T4 : Hid (∀ w, Calls Try.prog 17 #[.int .i64 (3 * lost + 100), .int .i64 2] w fun e w' => e = .returned (.tuple #[.agg #[.int .i64 p1, .int .i64 p2], .int .i64 p3]) ∧ Keep w w'))
    (T5 : Hid (∀ w, Calls Try.prog 29 #[.agg #[.int .i64 p1, .int .i64 p2], .agg #[.int .i64 l1, .int .i64 l2]] w fun e w' => e = .returned (.tuple #[.agg #[.int .i64 c1, .int .i64 c2], .int .i64 c3]) ∧ Keep w w')) : Calls Try.prog 9 #[.int .i64 lost, .agg #[.int .i64 n, .int .i64 d]] w fun e w' => e = .returned (.tuple #[.int .i64 0, .bool false, .int .i64 c3]) ∧ Keep w w' := by
  subst hl
  go_enter Try.func9, Try.ntmps9
  go_wp2_with fail
  (refine ((uq T1) _).mono ?_; rintro e w1 ⟨rfl, hk⟩; obtain ⟨o1, k1, rfl⟩ := hk.ext; clear hk)
  go_wp2_with fail
  (refine ((uq T2) _).mono ?_; rintro e w2 ⟨rfl, hk⟩; obtain ⟨o2, k2, rfl⟩ := hk.ext; clear hk)
  go_wp2_with fail
  (refine ((uq T4) _).mono ?_; rintro e w3 ⟨rfl, hk⟩; obtain ⟨o3, k3, rfl⟩ := hk.ext; clear hk)
  go_wp2_with fail
  (refine ((uq T3) _).mono ?_; rintro e w4 ⟨rfl, hk⟩; obtain ⟨o4, k4, rfl⟩ := hk.ext; clear hk)
  go_wp2_with fail
  (refine ((uq T5) _).mono ?_; rintro e w5 ⟨rfl, hk⟩; obtain ⟨o5, k5, rfl⟩ := hk.ext; clear hk)
  go_wp2_with fail
  exact bodyPost_ret (v := .tuple #[.int .i64 0, .bool false, .int .i64 c3]) (by simp [results, Try.results9, go_sem]) rfl ⟨rfl, by repeat (first | apply keep_ext | apply Keep.alloc | apply Keep.drew | (refine keep_set _ _ _ (by omega) ?_) | assumption | exact Keep.refl _)⟩
set_option maxHeartbeats 1000000 in
theorem rcycle_ok (lost n d v l1 l2 l3 p1 p2 p3 c1 c2 c3 x : Int) (w : World) (h1 : ¬ lost < 0) (h2 : ¬ 600000 < lost) (h3 : ¬ n < 0) (hv : ¬ 0 ≤ v) (hl : l3 = 0) (he : c3 = 0) (T1 : Hid (∀ w, Calls Try.prog 27 #[.agg #[.int .i64 n, .int .i64 d]] w fun e w' => e = .returned (.bool true) ∧ Keep w w')) (T2 : Hid (∀ w, Calls Try.prog 19 #[.agg #[.int .i64 n, .int .i64 d], .agg #[.int .i64 1, .int .i64 1]] w fun e w' => e = .returned (.int .i64 v) ∧ Keep w w'))
    (T3 : Hid (∀ w, Calls Try.prog 28 #[.agg #[.int .i64 1, .int .i64 1], .agg #[.int .i64 n, .int .i64 d]] w fun e w' => e = .returned (.tuple #[.agg #[.int .i64 l1, .int .i64 l2], .int .i64 l3]) ∧ Keep w w'))
    (T4 : Hid (∀ w, Calls Try.prog 17 #[.int .i64 (3 * lost + 100), .int .i64 2] w fun e w' => e = .returned (.tuple #[.agg #[.int .i64 p1, .int .i64 p2], .int .i64 p3]) ∧ Keep w w'))
    (T5 : Hid (∀ w, Calls Try.prog 29 #[.agg #[.int .i64 p1, .int .i64 p2], .agg #[.int .i64 l1, .int .i64 l2]] w fun e w' => e = .returned (.tuple #[.agg #[.int .i64 c1, .int .i64 c2], .int .i64 c3]) ∧ Keep w w')) (T6 : Hid (∀ w, Calls Try.prog 30 #[.agg #[.int .i64 c1, .int .i64 c2]] w fun e w' => e = .returned (.int .i64 x) ∧ Keep w w')) : Calls Try.prog 9 #[.int .i64 lost, .agg #[.int .i64 n, .int .i64 d]] w fun e w' => e = .returned (.tuple #[.int .i64 x, .bool true, .int .i64 0]) ∧ Keep w w' := by
  subst hl
  subst he
  go_enter Try.func9, Try.ntmps9
  go_wp2_with fail
  (refine ((uq T1) _).mono ?_; rintro e w1 ⟨rfl, hk⟩; obtain ⟨o1, k1, rfl⟩ := hk.ext; clear hk)
  go_wp2_with fail
  (refine ((uq T2) _).mono ?_; rintro e w2 ⟨rfl, hk⟩; obtain ⟨o2, k2, rfl⟩ := hk.ext; clear hk)
  go_wp2_with fail
  (refine ((uq T4) _).mono ?_; rintro e w3 ⟨rfl, hk⟩; obtain ⟨o3, k3, rfl⟩ := hk.ext; clear hk)
  go_wp2_with fail
  (refine ((uq T3) _).mono ?_; rintro e w4 ⟨rfl, hk⟩; obtain ⟨o4, k4, rfl⟩ := hk.ext; clear hk)
  go_wp2_with fail
  (refine ((uq T5) _).mono ?_; rintro e w5 ⟨rfl, hk⟩; obtain ⟨o5, k5, rfl⟩ := hk.ext; clear hk)
  go_wp2_with fail
  (refine ((uq T6) _).mono ?_; rintro e w6 ⟨rfl, hk⟩; obtain ⟨o6, k6, rfl⟩ := hk.ext; clear hk)
  go_wp2_with fail
  exact bodyPost_ret (v := .tuple #[.int .i64 x, .bool true, .int .i64 0]) (by simp [results, Try.results9, go_sem]) rfl ⟨rfl, by repeat (first | apply keep_ext | apply Keep.alloc | apply Keep.drew | (refine keep_set _ _ _ (by omega) ?_) | assumption | exact Keep.refl _)⟩
theorem cm_ge {x y : Int} : 0 ≤ cm x y ↔ y ≤ x := by
  unfold cm
  by_cases h : x = y
  · simp [h]
  · by_cases h2 : x < y
    · simp [h, h2]
    · simp [h, h2]; omega
theorem rt_Rt {n d : Int} (h : rt n d = true) (h1 : -9223372036854775808 ≤ n) (h2 : n ≤ 9223372036854775807) (h4 : d ≤ 9223372036854775807) : Rt n d := by
  simp only [rt, decide_eq_true_eq] at h
  exact ⟨h.1, h.2, h1, h2, h4⟩
theorem dv_low {lost n d : Int} (hr : Rt n d) (h0 : 0 ≤ n) (hl : n < d) :
    ¬ cn (subF 1 1 n d).1 (subF 1 1 n d).2.1 = 0 ∧ dvC lost n d = low (cn (ofF (3 * lost + 100) 2).1 (ofF (3 * lost + 100) 2).2.1 * sgn (decide (cn (subF 1 1 n d).1 (subF 1 1 n d).2.1 < 0)) (cd (subF 1 1 n d).1 (subF 1 1 n d).2.1)) (cd (ofF (3 * lost + 100) 2).1 (ofF (3 * lost + 100) 2).2.1 * ((cn (subF 1 1 n d).1 (subF 1 1 n d).2.1).natAbs : Int)) := by
  have h : ¬ cn (subF 1 1 n d).1 (subF 1 1 n d).2.1 = 0 := by
    rw [sub_left hr h0 hl]
    simp only []
    rw [(left_rt hr h0 hl).cn]
    omega
  refine ⟨h, ?_⟩
  unfold dvC divF
  rw [if_neg h]
set_option maxHeartbeats 1000000 in
theorem cycle_any (lost n d : Int) (w : World) (h1 : -9223372036854775808 ≤ n) (h2 : n ≤ 9223372036854775807) (h3 : -9223372036854775808 ≤ d) (h4 : d ≤ 9223372036854775807) : Calls Try.prog 8 #[.int .i64 lost, .agg #[.int .i64 n, .int .i64 d]] w fun e w' => e = .returned (.tuple #[.int .i64 (cyC lost n d), .bool (cyB lost n d), .int .i64 (cyE lost n d)]) ∧ Keep w w' := by
  by_cases h : okY lost n d
  · have h' := h
    obtain ⟨l0, l1, n0, hr⟩ := h'
    have R := rt_Rt hr h1 h2 h4
    have F1 := fun w => right_any n d w h1 h2 h3 h4
    rw [hr] at F1
    have F2 := fun w => fcmp_any n d 1 1 w h1 h2 h3 h4 (by omega) (by omega) (by omega) (by omega)
    rw [R.cn, R.cd, rt11.cn, rt11.cd, Int.mul_one, Int.one_mul] at F2
    by_cases hl : n < d
    · have F3 : ∀ w, Calls Try.prog 23 #[.agg #[.int .i64 1, .int .i64 1], .agg #[.int .i64 n, .int .i64 d]] w fun e w' => e = .returned (.tuple #[.agg #[.int .i64 (subF 1 1 n d).1, .int .i64 (subF 1 1 n d).2.1], .int .i64 (subF 1 1 n d).2.2]) ∧ Keep w w' := fun w => fsub_any 1 1 n d w (by omega) (by omega) (by omega) (by omega) h1 h2 h3 h4
      have F4 : ∀ w, Calls Try.prog 24 #[.int .i64 (3 * lost + 100), .int .i64 2] w fun e w' => e = .returned (.tuple #[.agg #[.int .i64 (ofF (3 * lost + 100) 2).1, .int .i64 (ofF (3 * lost + 100) 2).2.1], .int .i64 (ofF (3 * lost + 100) 2).2.2]) ∧ Keep w w' := fun w => by
        have := fof_any (3 * lost + 100) 2 w (by omega) (by omega) (by omega) (by omega) (by omega)
        unfold ofF
        rw [if_neg (by omega)]
        exact this
      obtain ⟨w0, wr, wv⟩ := of_two (N := 3 * lost + 100) (by omega) (by omega)
      obtain ⟨dz, dv⟩ := dv_low (lost := lost) R n0 hl
      have lr := left_rt R n0 hl
      have es := sub_left R n0 hl
      have F5 : ∀ w, Calls Try.prog 25 #[.agg #[.int .i64 (ofF (3 * lost + 100) 2).1, .int .i64 (ofF (3 * lost + 100) 2).2.1], .agg #[.int .i64 (subF 1 1 n d).1, .int .i64 (subF 1 1 n d).2.1]] w fun e w' => e = .returned (.tuple #[.agg #[.int .i64 (dvC lost n d).1, .int .i64 (dvC lost n d).2.1], .int .i64 (dvC lost n d).2.2]) ∧ Keep w w' := fun w => by
        rw [dv]
        exact fdiv_any _ _ _ _ w wr.2.2.1 wr.2.2.2.1 (by have := wr.1; omega) wr.2.2.2.2 (by rw [es]; exact lr.2.2.1) (by rw [es]; exact lr.2.2.2.1) (by rw [es]; show -9223372036854775808 ≤ d; omega) (by rw [es]; exact h4) dz
      have hcm : ¬ 0 ≤ cm n d := by rw [cm_ge]; omega
      by_cases he : (dvC lost n d).2.2 = 0
      · obtain ⟨vr, _⟩ := dv_val h R hl he
        have F6 := fun w => fceil_any (dvC lost n d).1 (dvC lost n d).2.1 w vr.2.2.1 vr.2.2.2.1 (by have := vr.1; omega) vr.2.2.2.2
        rw [show cyC lost n d = ceA (cn (dvC lost n d).1 (dvC lost n d).2.1) (cd (dvC lost n d).1 (dvC lost n d).2.1) by unfold cyC; rw [if_pos ⟨h, hl, he⟩], show cyB lost n d = true by unfold cyB; exact decide_eq_true ⟨h, hl, he⟩, show cyE lost n d = 0 by unfold cyE; rw [if_pos h, if_pos hl, he]]
        exact cycle_ok lost n d _ _ _ _ _ _ _ _ _ _ _ w (by omega) (by omega) (by omega) hcm he (hide F1) (hide F2) (hide F3) (hide F4) (hide F5) (hide F6)
      · rw [show cyC lost n d = 0 by unfold cyC; rw [if_neg (fun c => he c.2.2)], show cyB lost n d = false by unfold cyB; exact decide_eq_false (fun c => he c.2.2), show cyE lost n d = (dvC lost n d).2.2 by unfold cyE; rw [if_pos h, if_pos hl]]
        exact cycle_err lost n d _ _ _ _ _ _ _ _ _ _ w (by omega) (by omega) (by omega) hcm he (hide F1) (hide F2) (hide F3) (hide F4) (hide F5)
    · rw [show cyC lost n d = 0 by unfold cyC; rw [if_neg (fun c => hl c.2.1)], show cyB lost n d = false by unfold cyB; exact decide_eq_false (fun c => hl c.2.1), show cyE lost n d = 0 by unfold cyE; rw [if_pos h, if_neg hl]]
      exact cycle_ge lost n d _ w (by omega) (by omega) (by omega) (cm_ge.2 (by omega)) (hide F1) (hide F2)
  · rw [show cyC lost n d = 0 by unfold cyC; rw [if_neg (fun c => h c.1)], show cyB lost n d = false by unfold cyB; exact decide_eq_false (fun c => h c.1), show cyE lost n d = 1 by unfold cyE; rw [if_neg h]]
    by_cases c : lost < 0 ∨ (¬ lost < 0 ∧ 600000 < lost) ∨ (¬ lost < 0 ∧ ¬ 600000 < lost ∧ n < 0)
    · exact cycle_bad lost n d w c
    · have e : rt n d = false := by
        cases hb : rt n d
        · rfl
        · exact absurd ⟨by omega, by omega, by omega, hb⟩ h
      have F := fun w => right_any n d w h1 h2 h3 h4
      rw [e] at F
      exact cycle_bad2 lost n d w (by omega) (by omega) (by omega) (hide F)
set_option maxHeartbeats 1000000 in
theorem rcycle_any (lost n d : Int) (w : World) (h1 : -9223372036854775808 ≤ n) (h2 : n ≤ 9223372036854775807) (h3 : -9223372036854775808 ≤ d) (h4 : d ≤ 9223372036854775807) : Calls Try.prog 9 #[.int .i64 lost, .agg #[.int .i64 n, .int .i64 d]] w fun e w' => e = .returned (.tuple #[.int .i64 (cyC lost n d), .bool (cyB lost n d), .int .i64 (cyE lost n d)]) ∧ Keep w w' := by
  by_cases h : okY lost n d
  · have h' := h
    obtain ⟨l0, l1, n0, hr⟩ := h'
    have R := rt_Rt hr h1 h2 h4
    have F1 := fun w => r2right_any n d w h1 h2 h3 h4
    rw [hr] at F1
    have F2 := fun w => rfcmp_any n d 1 1 w h1 h2 h3 h4 (by omega) (by omega) (by omega) (by omega)
    rw [R.cn, R.cd, rt11.cn, rt11.cd, Int.mul_one, Int.one_mul] at F2
    by_cases hl : n < d
    · have F3 : ∀ w, Calls Try.prog 28 #[.agg #[.int .i64 1, .int .i64 1], .agg #[.int .i64 n, .int .i64 d]] w fun e w' => e = .returned (.tuple #[.agg #[.int .i64 (subF 1 1 n d).1, .int .i64 (subF 1 1 n d).2.1], .int .i64 (subF 1 1 n d).2.2]) ∧ Keep w w' := fun w => rfsub_any 1 1 n d w (by omega) (by omega) (by omega) (by omega) h1 h2 h3 h4
      have F4 : ∀ w, Calls Try.prog 17 #[.int .i64 (3 * lost + 100), .int .i64 2] w fun e w' => e = .returned (.tuple #[.agg #[.int .i64 (ofF (3 * lost + 100) 2).1, .int .i64 (ofF (3 * lost + 100) 2).2.1], .int .i64 (ofF (3 * lost + 100) 2).2.2]) ∧ Keep w w' := fun w => by
        have := r2of_any (3 * lost + 100) 2 w (by omega) (by omega) (by omega) (by omega) (by omega)
        unfold ofF
        rw [if_neg (by omega)]
        exact this
      obtain ⟨w0, wr, wv⟩ := of_two (N := 3 * lost + 100) (by omega) (by omega)
      obtain ⟨dz, dv⟩ := dv_low (lost := lost) R n0 hl
      have lr := left_rt R n0 hl
      have es := sub_left R n0 hl
      have F5 : ∀ w, Calls Try.prog 29 #[.agg #[.int .i64 (ofF (3 * lost + 100) 2).1, .int .i64 (ofF (3 * lost + 100) 2).2.1], .agg #[.int .i64 (subF 1 1 n d).1, .int .i64 (subF 1 1 n d).2.1]] w fun e w' => e = .returned (.tuple #[.agg #[.int .i64 (dvC lost n d).1, .int .i64 (dvC lost n d).2.1], .int .i64 (dvC lost n d).2.2]) ∧ Keep w w' := fun w => by
        rw [dv]
        exact rfdiv_any _ _ _ _ w wr.2.2.1 wr.2.2.2.1 (by have := wr.1; omega) wr.2.2.2.2 (by rw [es]; exact lr.2.2.1) (by rw [es]; exact lr.2.2.2.1) (by rw [es]; show -9223372036854775808 ≤ d; omega) (by rw [es]; exact h4) dz
      have hcm : ¬ 0 ≤ cm n d := by rw [cm_ge]; omega
      by_cases he : (dvC lost n d).2.2 = 0
      · obtain ⟨vr, _⟩ := dv_val h R hl he
        have F6 := fun w => rfceil_any (dvC lost n d).1 (dvC lost n d).2.1 w vr.2.2.1 vr.2.2.2.1 (by have := vr.1; omega) vr.2.2.2.2
        rw [show cyC lost n d = ceA (cn (dvC lost n d).1 (dvC lost n d).2.1) (cd (dvC lost n d).1 (dvC lost n d).2.1) by unfold cyC; rw [if_pos ⟨h, hl, he⟩], show cyB lost n d = true by unfold cyB; exact decide_eq_true ⟨h, hl, he⟩, show cyE lost n d = 0 by unfold cyE; rw [if_pos h, if_pos hl, he]]
        exact rcycle_ok lost n d _ _ _ _ _ _ _ _ _ _ _ w (by omega) (by omega) (by omega) hcm (sub_err R n0 hl) he (hide F1) (hide F2) (hide F3) (hide F4) (hide F5) (hide F6)
      · rw [show cyC lost n d = 0 by unfold cyC; rw [if_neg (fun c => he c.2.2)], show cyB lost n d = false by unfold cyB; exact decide_eq_false (fun c => he c.2.2), show cyE lost n d = (dvC lost n d).2.2 by unfold cyE; rw [if_pos h, if_pos hl]]
        exact rcycle_err lost n d _ _ _ _ _ _ _ _ _ _ w (by omega) (by omega) (by omega) hcm (sub_err R n0 hl) he (hide F1) (hide F2) (hide F3) (hide F4) (hide F5)
    · rw [show cyC lost n d = 0 by unfold cyC; rw [if_neg (fun c => hl c.2.1)], show cyB lost n d = false by unfold cyB; exact decide_eq_false (fun c => hl c.2.1), show cyE lost n d = 0 by unfold cyE; rw [if_pos h, if_neg hl]]
      exact rcycle_ge lost n d _ w (by omega) (by omega) (by omega) (cm_ge.2 (by omega)) (hide F1) (hide F2)
  · rw [show cyC lost n d = 0 by unfold cyC; rw [if_neg (fun c => h c.1)], show cyB lost n d = false by unfold cyB; exact decide_eq_false (fun c => h c.1), show cyE lost n d = 1 by unfold cyE; rw [if_neg h]]
    by_cases c : lost < 0 ∨ (¬ lost < 0 ∧ 600000 < lost)
    · exact rcycle_bad lost n d w c
    · have F := fun w => r2right_any n d w h1 h2 h3 h4
      refine rcycle_bad2 lost n d (rt n d) w (by omega) (by omega) ?_ (hide F)
      cases hb : rt n d
      · exact .inl rfl
      · exact .inr ⟨rfl, by
          by_cases h0 : n < 0
          · exact h0
          · exact absurd ⟨by omega, by omega, by omega, hb⟩ h⟩
end Wb
end Go.Proofs.Ytjibbekojbaopaa
