/- Package frac: Right, what a fraction counts as, its parts with the sign aside. -/
import Derived.Test.YtjibbekojbaopaaFNum
import Derived.Test.YtjibbekojbaopaaWholeG
import Derived.Test.YtjibbekojbaopaaExt
import Derived.WalkKit
import Derived.ProofKit
import Derived.Deep.RegionHeld3
namespace Go.Proofs.Ytjibbekojbaopaa
open Go.RowKit
set_option linter.unusedVariables false

set_option maxHeartbeats 400000 in
theorem right_low (n d : Int) (w : World) (h : d < 1) :
    Calls Try.prog 21 #[.agg #[.int .i64 n, .int .i64 d]] w fun e w' => e = .returned (.bool false) ∧ Keep w w' := by
  go_enter Try.func21, Try.ntmps21
  go_wp2_with fail
  go_ret
  exact ⟨rfl, by repeat (first | apply keep_ext | apply Keep.alloc | apply Keep.drew | exact Keep.refl _)⟩
set_option maxHeartbeats 400000 in
theorem right_core (n d G : Int) (b : Bool) (w : World) (h : ¬ d < 1) (hb : (G == 1) = b) (T : Hid (∀ w, Calls Try.prog 44 #[.int .i64 n, .int .i64 d] w fun e w' => e = .returned (.tuple #[.int .i64 G, .int .i64 0]) ∧ Keep w w')) :
    Calls Try.prog 21 #[.agg #[.int .i64 n, .int .i64 d]] w fun e w' => e = .returned (.bool b) ∧ Keep w w' := by
  go_enter Try.func21, Try.ntmps21
  go_wp2_with fail
  refine (uq T _).mono ?_
  rintro e w1 ⟨rfl, hk⟩
  obtain ⟨o1, k1, rfl⟩ := hk.ext
  clear hk
  go_wp2_with fail
  go_ret
  exact ⟨rfl, by repeat (first | apply keep_ext | apply Keep.alloc | apply Keep.drew | exact Keep.refl _)⟩
theorem gcd_le_right {n d : Int} (h : 1 ≤ d) : (Int.gcd n d : Int) ≤ d ∧ 1 ≤ (Int.gcd n d : Int) := by
  have h1 : Int.gcd n d ≤ d.natAbs := Nat.le_of_dvd (by omega) (Nat.gcd_dvd_right _ _)
  have h2 : 0 < Int.gcd n d := Int.gcd_pos_of_ne_zero_right _ (by omega)
  omega
theorem right_any (n d : Int) (w : World) (h1 : -9223372036854775808 ≤ n) (h2 : n ≤ 9223372036854775807) (h3 : -9223372036854775808 ≤ d) (h4 : d ≤ 9223372036854775807) :
    Calls Try.prog 21 #[.agg #[.int .i64 n, .int .i64 d]] w fun e w' => e = .returned (.bool (rt n d)) ∧ Keep w w' := by
  by_cases hd : d < 1
  · have e : rt n d = false := by simp [rt]; omega
    rw [e]
    exact right_low n d w hd
  · have g := gcd_le_right (n := n) (d := d) (by omega)
    have e : (((Int.gcd n d : Nat) : Int) == 1) = rt n d := by
      by_cases hg : Int.gcd n d = 1
      · simp [rt, hg]; omega
      · have : rt n d = false := by simp [rt, hg]
        rw [this]
        simp; omega
    refine right_core n d (Int.gcd n d : Int) _ w hd e (hide fun w => ?_)
    have k := gcd_any n d w h1 h2 h3 h4
    rw [ans_yes (by omega) (by omega), err_yes (by omega) (by omega)] at k
    exact k
set_option maxHeartbeats 400000 in
theorem counted_yes (n d : Int) (w : World) (T : Hid (∀ w, Calls Try.prog 21 #[.agg #[.int .i64 n, .int .i64 d]] w fun e w' => e = .returned (.bool true) ∧ Keep w w')) :
    Calls Try.prog 45 #[.agg #[.int .i64 n, .int .i64 d]] w fun e w' => e = .returned (.agg #[.int .i64 n, .int .i64 d]) ∧ Keep w w' := by
  go_enter Try.func45, Try.ntmps45
  go_wp2_with fail
  refine (uq T _).mono ?_
  rintro e w1 ⟨rfl, hk⟩
  obtain ⟨o1, k1, rfl⟩ := hk.ext
  clear hk
  go_wp2_with fail
  exact bodyPost_ret (v := .agg #[.int .i64 n, .int .i64 d]) (by simp [results, Try.results45, go_sem]) rfl ⟨rfl, by repeat (first | apply keep_ext | apply Keep.alloc | apply Keep.drew | exact Keep.refl _)⟩
set_option maxHeartbeats 400000 in
theorem nought_any (w : World) : Calls Try.prog 65 #[] w fun e w' => e = .returned (.agg #[.int .i64 0, .int .i64 1]) ∧ Keep w w' := by
  go_enter Try.func65, Try.ntmps65
  go_wp2_with fail
  exact bodyPost_ret (v := .agg #[.int .i64 0, .int .i64 1]) (by simp [results, Try.results65, go_sem]) rfl ⟨rfl, by repeat (first | apply keep_ext | apply Keep.alloc | apply Keep.drew | exact Keep.refl _)⟩
set_option maxHeartbeats 400000 in
theorem counted_no (n d : Int) (w : World) (T : Hid (∀ w, Calls Try.prog 21 #[.agg #[.int .i64 n, .int .i64 d]] w fun e w' => e = .returned (.bool false) ∧ Keep w w')) :
    Calls Try.prog 45 #[.agg #[.int .i64 n, .int .i64 d]] w fun e w' => e = .returned (.agg #[.int .i64 0, .int .i64 1]) ∧ Keep w w' := by
  go_enter Try.func45, Try.ntmps45
  go_wp2_with fail
  refine (uq T _).mono ?_
  rintro e w1 ⟨rfl, hk⟩
  obtain ⟨o1, k1, rfl⟩ := hk.ext
  clear hk
  go_wp2_with fail
  refine (nought_any _).mono ?_
  rintro e w2 ⟨rfl, hk⟩
  obtain ⟨o2, k2, rfl⟩ := hk.ext
  clear hk
  go_wp2_with fail
  exact bodyPost_ret (v := .agg #[.int .i64 0, .int .i64 1]) (by simp [results, Try.results45, go_sem]) rfl ⟨rfl, by repeat (first | apply keep_ext | apply Keep.alloc | apply Keep.drew | exact Keep.refl _)⟩
theorem counted_any (n d : Int) (w : World) (h1 : -9223372036854775808 ≤ n) (h2 : n ≤ 9223372036854775807) (h3 : -9223372036854775808 ≤ d) (h4 : d ≤ 9223372036854775807) :
    Calls Try.prog 45 #[.agg #[.int .i64 n, .int .i64 d]] w fun e w' => e = .returned (.agg #[.int .i64 (cn n d), .int .i64 (cd n d)]) ∧ Keep w w' := by
  have T : Hid (∀ w, _) := fun w => right_any n d w h1 h2 h3 h4
  unfold cn cd
  by_cases h : rt n d = true
  · rw [h] at T
    simp only [h, if_true]
    exact counted_yes n d w T
  · have h' : rt n d = false := by simpa using h
    rw [h'] at T
    simp only [h', if_false, Bool.false_eq_true]
    exact counted_no n d w T

/-! ### sizes -/
set_option maxHeartbeats 400000 in
theorem fsize_any (a : Int) (w : World) (h1 : -9223372036854775808 ≤ a) (h2 : a ≤ 9223372036854775807) :
    Calls Try.prog 69 #[.int .i64 a] w fun e w' => e = .returned (.int .u64 (a.natAbs : Int)) ∧ w' = w := by
  by_cases h : a < 0
  · go_enter Try.func69, Try.ntmps69
    go_wp2
    go_ret
    refine ⟨one_ret ?_, rfl⟩
    rw [IntKind.wrap_u64, IntKind.wrap_u64]; omega
  · go_enter Try.func69, Try.ntmps69
    go_wp2
    go_ret
    refine ⟨one_ret ?_, rfl⟩
    first | (rw [IntKind.wrap_u64]; omega) | omega
set_option maxHeartbeats 400000 in
theorem take_core (n d x y z : Int) (b : Bool) (w : World) (hb : decide (x < 0) = b) (hy : IntKind.u64.wrap y = y) (T : Hid (∀ w, Calls Try.prog 45 #[.agg #[.int .i64 n, .int .i64 d]] w fun e w' => e = .returned (.agg #[.int .i64 x, .int .i64 y]) ∧ Keep w w'))
    (S : Hid (∀ w, Calls Try.prog 69 #[.int .i64 x] w fun e w' => e = .returned (.int .u64 z) ∧ w' = w)) :
    Calls Try.prog 49 #[.agg #[.int .i64 n, .int .i64 d]] w fun e w' => e = .returned (.agg #[.bool b, .int .u64 z, .int .u64 y]) ∧ Keep w w' := by
  go_enter Try.func49, Try.ntmps49
  go_wp2_with fail
  refine (uq T _).mono ?_
  rintro e w1 ⟨rfl, hk⟩
  obtain ⟨o1, k1, rfl⟩ := hk.ext
  clear hk
  go_wp2_with fail
  go_region_held3 (fun w' => w'.cell? ⟨w.heap.size, 0, none⟩ = some (.int .i64 x) ∧ w'.cell? ⟨w.heap.size, 1, none⟩ = some (.int .i64 y)) (simp [go_sem]) (first | (go_at_call 69; refine ((uq S) _).mono ?_; rintro e w2 ⟨rfl, rfl⟩))
  all_goals go_wp2_with fail
  exact bodyPost_ret (v := .agg #[.bool b, .int .u64 z, .int .u64 y]) (by simp [results, Try.results49, go_sem]) rfl ⟨rfl, by repeat (first | apply keep_ext | apply Keep.alloc | apply Keep.drew | exact Keep.refl _)⟩
theorem take_any (n d : Int) (w : World) (h1 : -9223372036854775808 ≤ n) (h2 : n ≤ 9223372036854775807) (h3 : -9223372036854775808 ≤ d) (h4 : d ≤ 9223372036854775807) :
    Calls Try.prog 49 #[.agg #[.int .i64 n, .int .i64 d]] w fun e w' => e = .returned (.agg #[.bool (decide (cn n d < 0)), .int .u64 ((cn n d).natAbs : Int), .int .u64 (cd n d)]) ∧ Keep w w' := by
  obtain ⟨r1, r2, r3, r4, r5⟩ := rt_counted n d h1 h2 h4
  exact take_core n d _ _ _ _ w rfl (by rw [IntKind.wrap_u64]; omega) (hide fun w => counted_any n d w h1 h2 h3 h4) (hide fun w => fsize_any _ w r3 r4)

/-! ### the three ways of a fraction's parts -/
set_option maxHeartbeats 400000 in
theorem fopposite_any (b : Bool) (n d : Int) (w : World) : Calls Try.prog 48 #[.agg #[.bool b, .int .u64 n, .int .u64 d]] w fun e w' => e = .returned (.agg #[.bool !b, .int .u64 n, .int .u64 d]) ∧ Keep w w' := by
  go_enter Try.func48, Try.ntmps48
  go_wp2_with fail
  exact bodyPost_ret (v := .agg #[.bool !b, .int .u64 n, .int .u64 d]) (by simp [results, Try.results48, go_sem]) rfl ⟨rfl, by repeat (first | apply keep_ext | apply Keep.alloc | apply Keep.drew | exact Keep.refl _)⟩
set_option maxHeartbeats 400000 in
theorem turned_any (b : Bool) (n d : Int) (w : World) : Calls Try.prog 51 #[.agg #[.bool b, .int .u64 n, .int .u64 d]] w fun e w' => e = .returned (.agg #[.bool b, .int .u64 d, .int .u64 n]) ∧ Keep w w' := by
  go_enter Try.func51, Try.ntmps51
  go_wp2_with fail
  exact bodyPost_ret (v := .agg #[.bool b, .int .u64 d, .int .u64 n]) (by simp [results, Try.results51, go_sem]) rfl ⟨rfl, by repeat (first | apply keep_ext | apply Keep.alloc | apply Keep.drew | exact Keep.refl _)⟩
end Go.Proofs.Ytjibbekojbaopaa
