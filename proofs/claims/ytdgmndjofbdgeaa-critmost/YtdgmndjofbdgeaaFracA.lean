/- What products come to. -/
import Derived.Test.YtdgmndjofbdgeaaShelf
import Derived.Test.YtdgmndjofbdgeaaProg
import Derived.Test.YtdgmndjofbdgeaaLMath
import Derived.WalkKit
import Derived.ProofKit
import Derived.Deep.RegionWith
import Derived.WalkSpells
import Derived.Test.YtdgmndjofbdgeaaWholeQ
import Derived.LoopTactic
import Derived.RegionTactic
import Derived.Test.YtdgmndjofbdgeaaLSkip
import Derived.Deep.RegionHeld3
namespace Go.Proofs.Ytdgmndjofbdgeaa
open Go.RowKit
set_option linter.unusedVariables false

/-- math/bits.Mul64 over Int: the two halves of the product -/
theorem mul64_any (x y : Int) (w : World) (hx0 : 0 ≤ x) (hx : x < 18446744073709551616) (hy0 : 0 ≤ y) (hy : y < 18446744073709551616) :
    Calls Try.prog 69 #[.int .u64 x, .int .u64 y] w fun e w' => ∃ hi lo : Int, e = .returned (.tuple #[.int .u64 hi, .int .u64 lo]) ∧ 0 ≤ hi ∧ hi < 18446744073709551616 ∧ 0 ≤ lo ∧ lo < 18446744073709551616 ∧ Hid (x * y = hi * 18446744073709551616 + lo) ∧ w' = w := by
  obtain ⟨x, rfl⟩ := Int.eq_ofNat_of_zero_le hx0
  obtain ⟨y, rfl⟩ := Int.eq_ofNat_of_zero_le hy0
  refine (Try.bits_Mul64 x y (by omega) (by omega) w).mono ?_
  rintro e w' ⟨rfl, rfl⟩
  have hm : x * y ≤ 18446744073709551615 * 18446744073709551615 := Nat.mul_le_mul (by omega) (by omega)
  refine ⟨_, _, rfl, by omega, by omega, by omega, by omega, ?_, rfl⟩
  refine hide ?_
  rw [← Int.natCast_mul]
  generalize x * y = u
  omega

set_option maxHeartbeats 400000 in
theorem times_any (a b : Int) (w : World) (h1 : -9223372036854775808 ≤ a) (h2 : a ≤ 9223372036854775807) (h3 : -9223372036854775808 ≤ b) (h4 : b ≤ 9223372036854775807) :
    Calls Try.prog 64 #[.int .i64 a, .int .i64 b] w fun e w' => e = .returned (.agg #[.int .i64 (hiOf (a * b)), .int .u64 (loOf (a * b))]) ∧ ∃ c, w' = w.alloc (.cells c 116) := by
  have pb := hide (prod_bd h1 h2 h3 h4)
  by_cases ha : a < 0 <;> by_cases hb : b < 0
  · go_enter Try.func64, Try.ntmps64
    go_wp2_with fail
    rw [wrapu_neg h1 ha, wrapu_neg h3 hb]
    refine (mul64_any _ _ _ (by omega) (by omega) (by omega) (by omega)).mono ?_
    rintro e w' ⟨hi, lo, rfl, g1, g2, g3, g4, G, rfl⟩
    go_wp2
    refine bodyPost_ret (v := .agg #[.int .i64 (wrap64 (IntKind.u64.wrap (IntKind.u64.wrap (hi - IntKind.u64.wrap b) - IntKind.u64.wrap a))), .int .u64 lo]) (by simp [results, Try.results64, go_sem]) rfl ⟨agg_ret ?_ ?_, _, rfl⟩
    all_goals
      have G' := uq G
      have pb' := uq pb
      rw [two_up] at G'
      clear G pb
      simp only [hiOf, loOf]
      generalize a * b = P at *
      try simp only [IntKind.wrap_u64, wrap64]
      omega
  · go_enter Try.func64, Try.ntmps64
    go_wp2_with fail
    rw [wrapu_neg h1 ha]
    refine (mul64_any _ _ _ (by omega) (by omega) (by omega) (by omega)).mono ?_
    rintro e w' ⟨hi, lo, rfl, g1, g2, g3, g4, G, rfl⟩
    go_wp2
    refine bodyPost_ret (v := .agg #[.int .i64 (wrap64 (IntKind.u64.wrap (hi - b))), .int .u64 lo]) (by simp [results, Try.results64, go_sem]) rfl ⟨agg_ret ?_ ?_, _, rfl⟩
    all_goals
      have G' := uq G
      have pb' := uq pb
      rw [one_up] at G'
      clear G pb
      simp only [hiOf, loOf]
      generalize a * b = P at *
      try simp only [IntKind.wrap_u64, wrap64]
      omega
  · go_enter Try.func64, Try.ntmps64
    go_wp2_with fail
    rw [wrapu_neg h3 hb]
    refine (mul64_any _ _ _ (by omega) (by omega) (by omega) (by omega)).mono ?_
    rintro e w' ⟨hi, lo, rfl, g1, g2, g3, g4, G, rfl⟩
    go_wp2
    refine bodyPost_ret (v := .agg #[.int .i64 (wrap64 (IntKind.u64.wrap (hi - a))), .int .u64 lo]) (by simp [results, Try.results64, go_sem]) rfl ⟨agg_ret ?_ ?_, _, rfl⟩
    all_goals
      have G' := uq G
      have pb' := uq pb
      rw [one_up'] at G'
      clear G pb
      simp only [hiOf, loOf]
      generalize a * b = P at *
      try simp only [IntKind.wrap_u64, wrap64]
      omega
  · go_enter Try.func64, Try.ntmps64
    go_wp2_with fail
    refine (mul64_any _ _ _ (by omega) (by omega) (by omega) (by omega)).mono ?_
    rintro e w' ⟨hi, lo, rfl, g1, g2, g3, g4, G, rfl⟩
    go_wp2
    refine bodyPost_ret (v := .agg #[.int .i64 (wrap64 hi), .int .u64 lo]) (by simp [results, Try.results64, go_sem]) rfl ⟨agg_ret ?_ ?_, _, rfl⟩
    all_goals
      have G' := uq G
      have pb' := uq pb
      clear G pb
      simp only [hiOf, loOf]
      generalize a * b = P at *
      try simp only [wrap64]
      omega

end Go.Proofs.Ytdgmndjofbdgeaa

namespace Go.Proofs.Ytdgmndjofbdgeaa
open Go.RowKit
set_option linter.unusedVariables false

set_option maxHeartbeats 400000 in
theorem size_any (a : Int) (w : World) (h1 : -9223372036854775808 ≤ a) (h2 : a ≤ 9223372036854775807) :
    Calls Try.prog 79 #[.int .i64 a] w fun e w' => e = .returned (.int .u64 (a.natAbs : Int)) ∧ w' = w := by
  by_cases ha : a < 0
  · go_enter Try.func79, Try.ntmps79
    go_wp2
    go_ret
    exact ⟨one_ret (by rw [IntKind.wrap_u64, IntKind.wrap_u64]; omega), rfl⟩
  · go_enter Try.func79, Try.ntmps79
    go_wp2
    go_ret
    exact ⟨one_ret (by omega), rfl⟩

set_option maxHeartbeats 1000000 in
theorem gcd_core (a b : Int) (x y G : Nat) (w : World) (hx : x ≤ 9223372036854775808) (hy : y ≤ 9223372036854775808) (HG : Hid (Nat.gcd x y = G))
    (S1 : Hid (∀ w, Calls Try.prog 79 #[.int .i64 a] w fun e w' => e = .returned (.int .u64 (x : Int)) ∧ w' = w))
    (S2 : Hid (∀ w, Calls Try.prog 79 #[.int .i64 b] w fun e w' => e = .returned (.int .u64 (y : Int)) ∧ w' = w)) :
    Calls Try.prog 68 #[.int .i64 a, .int .i64 b] w fun e w' => e = .returned (.tuple #[.int .i64 (ans (G : Int)), .int .i64 (err (G : Int))]) ∧ Keep w w' := by
  go_enter Try.func68, Try.ntmps68
  go_wp2_with fail
  refine (uq S1 _).mono ?_
  rintro e w' ⟨rfl, rfl⟩
  go_wp2_with fail
  refine (uq S2 _).mono ?_
  rintro e w' ⟨rfl, rfl⟩
  go_wp2_with fail
  go_loopw [6, 7] (fun p q wr => ∃ u v : Nat, p = .int .u64 (u : Int) ∧ q = .int .u64 (v : Int) ∧ u ≤ 9223372036854775808 ∧ v ≤ 9223372036854775808 ∧ Hid (Nat.gcd u v = G) ∧ Keep w' wr) (fun _ q _ => (intOf q).toNat)
  case atStart => exact ⟨x, y, rfl, rfl, hx, hy, HG, Keep.refl _⟩
  case round =>
    obtain ⟨u, v, rfl, rfl, hu, hv, Hg, hk⟩ := hrel
    by_cases hz : v = 0
    · subst hz
      have e0 : u = G := by have := uq Hg; simpa using this
      by_cases hf : u ≤ 9223372036854775807
      · have k := ans_yes (n := (u : Int)) (by omega) (by omega)
        have k' := err_yes (n := (u : Int)) (by omega) (by omega)
        rw [e0] at k k'
        have K := hide k
        have K' := hide k'
        have E0 := hide e0
        clear k k' e0
        go_wp2
        go_ret2
        exact ⟨two_ret (by rw [uq K, uq E0]) (by rw [uq K']), hk⟩
      · have k := ans_no (n := (u : Int)) (by omega)
        have k' := err_no (n := (u : Int)) (by omega)
        rw [e0] at k k'
        have K := hide k
        have K' := hide k'
        have E0 := hide e0
        clear k k' e0
        go_wp2
        go_ret2
        exact ⟨two_ret (by rw [uq K]) (by rw [uq K']), hk⟩
    · have hb : ((v : Int) == 0) = false := by simp; omega
      have hb2 : ((v : Int) != 0) = true := by simp; omega
      have hm : u % v < v := Nat.mod_lt _ (by omega)
      have Hg2 : Hid (Nat.gcd v (u % v) = G) := by
        refine hide ?_
        rw [← uq Hg, Nat.gcd_comm u v]
        exact (Nat.gcd_rec v u).symm ▸ (by rw [Nat.gcd_comm])
      go_wp2
      go_region
      all_goals go_wp2
      all_goals go_roundw
      case rel => exact ⟨v, u % v, rfl, by go_num, by omega, by omega, Hg2, hk.drew⟩
      case measure => simp [intOf]; omega

theorem gcd_any (a b : Int) (w : World) (h1 : -9223372036854775808 ≤ a) (h2 : a ≤ 9223372036854775807) (h3 : -9223372036854775808 ≤ b) (h4 : b ≤ 9223372036854775807) :
    Calls Try.prog 68 #[.int .i64 a, .int .i64 b] w fun e w' => e = .returned (.tuple #[.int .i64 (ans (Int.gcd a b : Int)), .int .i64 (err (Int.gcd a b : Int))]) ∧ Keep w w' :=
  gcd_core a b a.natAbs b.natAbs (Int.gcd a b) w (by omega) (by omega) (hide rfl) (hide fun w => size_any a w h1 h2) (hide fun w => size_any b w h3 h4)

/-! ### multiples -/
/-! ### products compared -/
set_option maxHeartbeats 400000 in
theorem below_lt (H L H2 L2 : Int) (w : World) (hne : (H == H2) = false) (yes : Bool) (hy : decide (H < H2) = yes) :
    Calls Try.prog 65 #[.agg #[.int .i64 H, .int .u64 L], .agg #[.int .i64 H2, .int .u64 L2]] w fun e w' => e = .returned (.bool yes) ∧ Keep w w' := by
  go_enter Try.func65, Try.ntmps65
  go_wp2
  go_ret
  exact ⟨rfl, ((Keep.refl _).alloc _).alloc _⟩
set_option maxHeartbeats 400000 in
theorem below_eq (H L L2 : Int) (w : World) (yes : Bool) (hy : decide (L < L2) = yes) :
    Calls Try.prog 65 #[.agg #[.int .i64 H, .int .u64 L], .agg #[.int .i64 H, .int .u64 L2]] w fun e w' => e = .returned (.bool yes) ∧ Keep w w' := by
  go_enter Try.func65, Try.ntmps65
  go_wp2
  go_ret
  exact ⟨rfl, ((Keep.refl _).alloc _).alloc _⟩
set_option maxHeartbeats 400000 in
theorem compare_eq (a b c d H L : Int) (w : World)
    (T1 : Hid (∀ w, Calls Try.prog 64 #[.int .i64 a, .int .i64 b] w fun e w' => e = .returned (.agg #[.int .i64 H, .int .u64 L]) ∧ ∃ c, w' = w.alloc (.cells c 116)))
    (T2 : Hid (∀ w, Calls Try.prog 64 #[.int .i64 c, .int .i64 d] w fun e w' => e = .returned (.agg #[.int .i64 H, .int .u64 L]) ∧ ∃ c, w' = w.alloc (.cells c 116))) :
    Calls Try.prog 56 #[.int .i64 a, .int .i64 b, .int .i64 c, .int .i64 d] w fun e w' => e = .returned (.int .i64 0) ∧ Keep w w' := by
  go_enter Try.func56, Try.ntmps56
  go_wp2_with fail
  refine (uq T1 _).mono ?_
  rintro e w1 ⟨rfl, c1, rfl⟩
  go_wp2_with fail
  refine (uq T2 _).mono ?_
  rintro e w2 ⟨rfl, c2, rfl⟩
  go_wp2_with fail
  go_ret
  exact ⟨rfl, by repeat (first | exact Keep.refl _ | apply Keep.drew | apply Keep.alloc)⟩
set_option maxHeartbeats 400000 in
theorem compare_ne (a b c d H L H2 L2 : Int) (less : Bool) (w : World) (hne : (H == H2 && L == L2) = false)
    (T1 : Hid (∀ w, Calls Try.prog 64 #[.int .i64 a, .int .i64 b] w fun e w' => e = .returned (.agg #[.int .i64 H, .int .u64 L]) ∧ ∃ c, w' = w.alloc (.cells c 116)))
    (T2 : Hid (∀ w, Calls Try.prog 64 #[.int .i64 c, .int .i64 d] w fun e w' => e = .returned (.agg #[.int .i64 H2, .int .u64 L2]) ∧ ∃ c, w' = w.alloc (.cells c 116)))
    (B : Hid (∀ w, Calls Try.prog 65 #[.agg #[.int .i64 H, .int .u64 L], .agg #[.int .i64 H2, .int .u64 L2]] w fun e w' => e = .returned (.bool less) ∧ Keep w w')) :
    Calls Try.prog 56 #[.int .i64 a, .int .i64 b, .int .i64 c, .int .i64 d] w fun e w' => e = .returned (.int .i64 (if less then -1 else 1)) ∧ Keep w w' := by
  have fin : ∀ (w w' : World) (c1 c2 c3 c4 : Array Value), Keep ((((w.alloc (.cells c1 116)).alloc (.cells c2 116)).alloc (.cells c3 116)).alloc (.cells c4 116)) w' → Keep w w' :=
    fun w w' _ _ _ _ h => ((((Keep.refl w).alloc _).alloc _).alloc _).alloc _ |>.trans h
  by_cases h1 : H = H2
  · subst h1
    have h2 : (L == L2) = false := by simpa using hne
    clear hne
    cases less
    all_goals
      go_enter Try.func56, Try.ntmps56
      go_wp2_with fail
      refine (uq T1 _).mono ?_
      rintro e w1 ⟨rfl, c1, rfl⟩
      go_wp2_with fail
      refine (uq T2 _).mono ?_
      rintro e w2 ⟨rfl, c2, rfl⟩
      go_wp2_with fail
      refine (uq B _).mono ?_
      rintro e w3 ⟨rfl, hk⟩
      go_wp2_with fail
      go_ret
      exact ⟨rfl, fin _ _ _ _ _ _ hk⟩
  · have h2 : (H == H2) = false := by simpa using h1
    clear hne
    cases less
    all_goals
      go_enter Try.func56, Try.ntmps56
      go_wp2_with fail
      refine (uq T1 _).mono ?_
      rintro e w1 ⟨rfl, c1, rfl⟩
      go_wp2_with fail
      refine (uq T2 _).mono ?_
      rintro e w2 ⟨rfl, c2, rfl⟩
      go_wp2_with fail
      refine (uq B _).mono ?_
      rintro e w3 ⟨rfl, hk⟩
      go_wp2_with fail
      go_ret
      exact ⟨rfl, fin _ _ _ _ _ _ hk⟩
theorem halves_inj {x y : Int} (h1 : hiOf x = hiOf y) (h2 : loOf x = loOf y) : x = y := by unfold hiOf loOf at *; omega
theorem halves_lt {x y : Int} (h1 : ¬ hiOf x = hiOf y) : hiOf x < hiOf y ↔ x < y := by unfold hiOf at *; omega
theorem halves_lt2 {x y : Int} (h1 : hiOf x = hiOf y) : loOf x < loOf y ↔ x < y := by unfold hiOf loOf at *; omega
theorem compare_any (a b c d : Int) (w : World) (h1 : -9223372036854775808 ≤ a) (h2 : a ≤ 9223372036854775807) (h3 : -9223372036854775808 ≤ b) (h4 : b ≤ 9223372036854775807)
    (k1 : -9223372036854775808 ≤ c) (k2 : c ≤ 9223372036854775807) (k3 : -9223372036854775808 ≤ d) (k4 : d ≤ 9223372036854775807) :
    Calls Try.prog 56 #[.int .i64 a, .int .i64 b, .int .i64 c, .int .i64 d] w fun e w' => e = .returned (.int .i64 (cm (a * b) (c * d))) ∧ Keep w w' := by
  have T1 : Hid (∀ w, _) := fun w => times_any a b w h1 h2 h3 h4
  have T2 : Hid (∀ w, _) := fun w => times_any c d w k1 k2 k3 k4
  by_cases he : a * b = c * d
  · rw [show cm (a * b) (c * d) = 0 by simp [cm, he]]
    rw [he] at T1
    exact compare_eq a b c d _ _ w T1 T2
  · have key : Hid (∀ w, Calls Try.prog 65 #[.agg #[.int .i64 (hiOf (a * b)), .int .u64 (loOf (a * b))], .agg #[.int .i64 (hiOf (c * d)), .int .u64 (loOf (c * d))]] w fun e w' => e = .returned (.bool (decide (a * b < c * d))) ∧ Keep w w') := by
      intro w
      by_cases hh : hiOf (a * b) = hiOf (c * d)
      · rw [hh]
        exact below_eq _ _ _ w _ (decide_eq_decide.2 (halves_lt2 hh))
      · exact below_lt _ _ _ _ w (by simpa using hh) _ (decide_eq_decide.2 (halves_lt hh))
    have hr := compare_ne a b c d _ _ _ _ _ w (by
      by_cases hh : hiOf (a * b) = hiOf (c * d)
      · have : ¬ loOf (a * b) = loOf (c * d) := fun hl => he (halves_inj hh hl)
        simp [this]
      · simp [hh]) T1 T2 key
    rw [show cm (a * b) (c * d) = if decide (a * b < c * d) = true then -1 else 1 by simp [cm, he]]
    exact hr
end Go.Proofs.Ytdgmndjofbdgeaa

namespace Go.Proofs.Ytdgmndjofbdgeaa
open Go.RowKit
set_option linter.unusedVariables false

set_option maxHeartbeats 400000 in
theorem right_low (n d : Int) (w : World) (h : d < 1) :
    Calls Try.prog 63 #[.agg #[.int .i64 n, .int .i64 d]] w fun e w' => e = .returned (.bool false) ∧ Keep w w' := by
  go_enter Try.func63, Try.ntmps63
  go_wp2_with fail
  go_ret
  exact ⟨rfl, by repeat (first | apply keep_ext | apply Keep.alloc | apply Keep.drew | exact Keep.refl _)⟩
set_option maxHeartbeats 400000 in
theorem right_core (n d G : Int) (b : Bool) (w : World) (h : ¬ d < 1) (hb : (G == 1) = b) (T : Hid (∀ w, Calls Try.prog 68 #[.int .i64 n, .int .i64 d] w fun e w' => e = .returned (.tuple #[.int .i64 G, .int .i64 0]) ∧ Keep w w')) :
    Calls Try.prog 63 #[.agg #[.int .i64 n, .int .i64 d]] w fun e w' => e = .returned (.bool b) ∧ Keep w w' := by
  go_enter Try.func63, Try.ntmps63
  go_wp2_with fail
  refine (uq T _).mono ?_
  rintro e w1 ⟨rfl, hk⟩
  obtain ⟨o1, k1, rfl⟩ := hk.ext
  clear hk
  go_wp2_with fail
  go_ret
  exact ⟨rfl, by repeat (first | apply keep_ext | apply Keep.alloc | apply Keep.drew | exact Keep.refl _)⟩
theorem gcd_le_right {n d : Int} (h : 1 ≤ d) : (Int.gcd n d : Int) ≤ d ∧ 1 ≤ (Int.gcd n d : Int) := by
  have h1 : Int.gcd n d ≤ d.natAbs := Nat.le_of_dvd (by omega) (Nat.gcd_dvd_right _ _)
  have h2 : 0 < Int.gcd n d := Int.gcd_pos_of_ne_zero_right _ (by omega)
  omega
theorem right_any (n d : Int) (w : World) (h1 : -9223372036854775808 ≤ n) (h2 : n ≤ 9223372036854775807) (h3 : -9223372036854775808 ≤ d) (h4 : d ≤ 9223372036854775807) :
    Calls Try.prog 63 #[.agg #[.int .i64 n, .int .i64 d]] w fun e w' => e = .returned (.bool (rt n d)) ∧ Keep w w' := by
  by_cases hd : d < 1
  · have e : rt n d = false := by simp [rt]; omega
    rw [e]
    exact right_low n d w hd
  · have g := gcd_le_right (n := n) (d := d) (by omega)
    have e : (((Int.gcd n d : Nat) : Int) == 1) = rt n d := by
      by_cases hg : Int.gcd n d = 1
      · simp [rt, hg]; omega
      · have : rt n d = false := by simp [rt, hg]
        rw [this]
        simp; omega
    refine right_core n d (Int.gcd n d : Int) _ w hd e (hide fun w => ?_)
    have k := gcd_any n d w h1 h2 h3 h4
    rw [ans_yes (by omega) (by omega), err_yes (by omega) (by omega)] at k
    exact k
set_option maxHeartbeats 400000 in
theorem counted_yes (n d : Int) (w : World) (T : Hid (∀ w, Calls Try.prog 63 #[.agg #[.int .i64 n, .int .i64 d]] w fun e w' => e = .returned (.bool true) ∧ Keep w w')) :
    Calls Try.prog 55 #[.agg #[.int .i64 n, .int .i64 d]] w fun e w' => e = .returned (.agg #[.int .i64 n, .int .i64 d]) ∧ Keep w w' := by
  go_enter Try.func55, Try.ntmps55
  go_wp2_with fail
  refine (uq T _).mono ?_
  rintro e w1 ⟨rfl, hk⟩
  obtain ⟨o1, k1, rfl⟩ := hk.ext
  clear hk
  go_wp2_with fail
  exact bodyPost_ret (v := .agg #[.int .i64 n, .int .i64 d]) (by simp [results, Try.results55, go_sem]) rfl ⟨rfl, by repeat (first | apply keep_ext | apply Keep.alloc | apply Keep.drew | exact Keep.refl _)⟩
set_option maxHeartbeats 400000 in
theorem nought_any (w : World) : Calls Try.prog 47 #[] w fun e w' => e = .returned (.agg #[.int .i64 0, .int .i64 1]) ∧ Keep w w' := by
  go_enter Try.func47, Try.ntmps47
  go_wp2_with fail
  exact bodyPost_ret (v := .agg #[.int .i64 0, .int .i64 1]) (by simp [results, Try.results47, go_sem]) rfl ⟨rfl, by repeat (first | apply keep_ext | apply Keep.alloc | apply Keep.drew | exact Keep.refl _)⟩
set_option maxHeartbeats 400000 in
theorem counted_no (n d : Int) (w : World) (T : Hid (∀ w, Calls Try.prog 63 #[.agg #[.int .i64 n, .int .i64 d]] w fun e w' => e = .returned (.bool false) ∧ Keep w w')) :
    Calls Try.prog 55 #[.agg #[.int .i64 n, .int .i64 d]] w fun e w' => e = .returned (.agg #[.int .i64 0, .int .i64 1]) ∧ Keep w w' := by
  go_enter Try.func55, Try.ntmps55
  go_wp2_with fail
  refine (uq T _).mono ?_
  rintro e w1 ⟨rfl, hk⟩
  obtain ⟨o1, k1, rfl⟩ := hk.ext
  clear hk
  go_wp2_with fail
  refine (nought_any _).mono ?_
  rintro e w2 ⟨rfl, hk⟩
  obtain ⟨o2, k2, rfl⟩ := hk.ext
  clear hk
  go_wp2_with fail
  exact bodyPost_ret (v := .agg #[.int .i64 0, .int .i64 1]) (by simp [results, Try.results55, go_sem]) rfl ⟨rfl, by repeat (first | apply keep_ext | apply Keep.alloc | apply Keep.drew | exact Keep.refl _)⟩
theorem counted_any (n d : Int) (w : World) (h1 : -9223372036854775808 ≤ n) (h2 : n ≤ 9223372036854775807) (h3 : -9223372036854775808 ≤ d) (h4 : d ≤ 9223372036854775807) :
    Calls Try.prog 55 #[.agg #[.int .i64 n, .int .i64 d]] w fun e w' => e = .returned (.agg #[.int .i64 (cn n d), .int .i64 (cd n d)]) ∧ Keep w w' := by
  have T : Hid (∀ w, _) := fun w => right_any n d w h1 h2 h3 h4
  unfold cn cd
  by_cases h : rt n d = true
  · rw [h] at T
    simp only [h, if_true]
    exact counted_yes n d w T
  · have h' : rt n d = false := by simpa using h
    rw [h'] at T
    simp only [h', if_false, Bool.false_eq_true]
    exact counted_no n d w T

/-! ### sizes -/
set_option maxHeartbeats 400000 in
theorem fsize_any (a : Int) (w : World) (h1 : -9223372036854775808 ≤ a) (h2 : a ≤ 9223372036854775807) :
    Calls Try.prog 78 #[.int .i64 a] w fun e w' => e = .returned (.int .u64 (a.natAbs : Int)) ∧ w' = w := by
  by_cases h : a < 0
  · go_enter Try.func78, Try.ntmps78
    go_wp2
    go_ret
    refine ⟨one_ret ?_, rfl⟩
    rw [IntKind.wrap_u64, IntKind.wrap_u64]; omega
  · go_enter Try.func78, Try.ntmps78
    go_wp2
    go_ret
    refine ⟨one_ret ?_, rfl⟩
    first | (rw [IntKind.wrap_u64]; omega) | omega
set_option maxHeartbeats 400000 in
theorem take_core (n d x y z : Int) (b : Bool) (w : World) (hb : decide (x < 0) = b) (hy : IntKind.u64.wrap y = y) (T : Hid (∀ w, Calls Try.prog 55 #[.agg #[.int .i64 n, .int .i64 d]] w fun e w' => e = .returned (.agg #[.int .i64 x, .int .i64 y]) ∧ Keep w w'))
    (S : Hid (∀ w, Calls Try.prog 78 #[.int .i64 x] w fun e w' => e = .returned (.int .u64 z) ∧ w' = w)) :
    Calls Try.prog 67 #[.agg #[.int .i64 n, .int .i64 d]] w fun e w' => e = .returned (.agg #[.bool b, .int .u64 z, .int .u64 y]) ∧ Keep w w' := by
  go_enter Try.func67, Try.ntmps67
  go_wp2_with fail
  refine (uq T _).mono ?_
  rintro e w1 ⟨rfl, hk⟩
  obtain ⟨o1, k1, rfl⟩ := hk.ext
  clear hk
  go_wp2_with fail
  go_region_held3 (fun w' => w'.cell? ⟨w.heap.size, 0, none⟩ = some (.int .i64 x) ∧ w'.cell? ⟨w.heap.size, 1, none⟩ = some (.int .i64 y)) (simp [go_sem]) (first | (go_at_call 78; refine ((uq S) _).mono ?_; rintro e w2 ⟨rfl, rfl⟩))
  all_goals go_wp2_with fail
  exact bodyPost_ret (v := .agg #[.bool b, .int .u64 z, .int .u64 y]) (by simp [results, Try.results67, go_sem]) rfl ⟨rfl, by repeat (first | apply keep_ext | apply Keep.alloc | apply Keep.drew | exact Keep.refl _)⟩
theorem take_any (n d : Int) (w : World) (h1 : -9223372036854775808 ≤ n) (h2 : n ≤ 9223372036854775807) (h3 : -9223372036854775808 ≤ d) (h4 : d ≤ 9223372036854775807) :
    Calls Try.prog 67 #[.agg #[.int .i64 n, .int .i64 d]] w fun e w' => e = .returned (.agg #[.bool (decide (cn n d < 0)), .int .u64 ((cn n d).natAbs : Int), .int .u64 (cd n d)]) ∧ Keep w w' := by
  obtain ⟨r1, r2, r3, r4, r5⟩ := rt_counted n d h1 h2 h4
  exact take_core n d _ _ _ _ w rfl (by rw [IntKind.wrap_u64]; omega) (hide fun w => counted_any n d w h1 h2 h3 h4) (hide fun w => fsize_any _ w r3 r4)

/-! ### the three ways of a fraction's parts -/
set_option maxHeartbeats 400000 in
theorem itself_any (b : Bool) (n d : Int) (w : World) : Calls Try.prog 58 #[.agg #[.bool b, .int .u64 n, .int .u64 d]] w fun e w' => e = .returned (.agg #[.bool b, .int .u64 n, .int .u64 d]) ∧ Keep w w' := by
  go_enter Try.func58, Try.ntmps58
  go_wp2_with fail
  exact bodyPost_ret (v := .agg #[.bool b, .int .u64 n, .int .u64 d]) (by simp [results, Try.results58, go_sem]) rfl ⟨rfl, by repeat (first | apply keep_ext | apply Keep.alloc | apply Keep.drew | exact Keep.refl _)⟩
end Go.Proofs.Ytdgmndjofbdgeaa
