/- The document's answer for fractions: gcd, Right, Norm, made, Of. -/
import Derived.Test.YtdgmndjofbdgeaaRefE
import Derived.Test.YtdgmndjofbdgeaaLMath
import Derived.Test.YtdgmndjofbdgeaaFracC
import Derived.Test.YtdgmndjofbdgeaaFracP2
import Derived.Deep.DrawnRows
namespace Go.Proofs.Ytdgmndjofbdgeaa
open Go.RowKit
set_option linter.unusedVariables false
attribute [local go_sem ↓] Go.wp_at_zero Go.wp_at_succ
set_option linter.unusedSimpArgs false
set_option maxRecDepth 10000
set_option maxHeartbeats 1000000 in
theorem r2gcd_loop (x y G : Nat) (w : World) (hx : x ≤ 9223372036854775808) (hy : y ≤ 9223372036854775808) (HG : Hid (Nat.gcd x y = G)) :
    Calls Try.prog 41 #[.int .u64 (x : Int), .int .u64 (y : Int)] w fun e w' => e = .returned (.int .u64 (G : Int)) ∧ w' = w := by
  go_enter Try.func41, Try.ntmps41
  go_wp2_with fail
  go_loop [0, 1] (fun p q => ∃ u v : Nat, p = .int .u64 (u : Int) ∧ q = .int .u64 (v : Int) ∧ u ≤ 9223372036854775808 ∧ v ≤ 9223372036854775808 ∧ Hid (Nat.gcd u v = G)) (fun _ q => (intOf q).toNat)
  case atStart => exact ⟨x, y, rfl, rfl, hx, hy, HG⟩
  case round =>
    obtain ⟨u, v, rfl, rfl, hu, hv, Hg⟩ := hrel
    by_cases hz : v = 0
    · subst hz
      have e0 : u = G := by have := uq Hg; simpa using this
      have E0 := hide e0
      clear e0
      go_wp2
      go_ret
      exact ⟨one_ret (by rw [uq E0]), rfl⟩
    · have hb : ((v : Int) == 0) = false := by simp; omega
      have hb2 : ((v : Int) != 0) = true := by simp; omega
      have hm : u % v < v := Nat.mod_lt _ (by omega)
      have Hg2 : Hid (Nat.gcd v (u % v) = G) := by
        refine hide ?_
        rw [← uq Hg, Nat.gcd_comm u v]
        exact (Nat.gcd_rec v u).symm ▸ (by rw [Nat.gcd_comm])
      go_wp2
      go_round
      case rel => exact ⟨v, u % v, rfl, by go_num, by omega, by omega, Hg2⟩
      case measure => simp [intOf]; omega

set_option maxHeartbeats 400000 in
theorem r2right_low (n d : Int) (w : World) (h : ¬ 1 ≤ d) (h' : decide (1 ≤ d) = false) :
    Calls Try.prog 19 #[.agg #[.int .i64 n, .int .i64 d]] w fun e w' => e = .returned (.bool false) ∧ Keep w w' := by
  go_enter Try.func19, Try.ntmps19
  go_wp2_with fail
  go_region
  all_goals go_wp2_with fail
  all_goals go_ret
  all_goals exact ⟨rfl, by repeat (first | apply keep_ext | apply Keep.alloc | apply Keep.drew | exact Keep.refl _)⟩
set_option maxHeartbeats 1000000 in
theorem r2right_core (n d u G : Int) (b : Bool) (w : World) (h : 1 ≤ d) (h' : decide (1 ≤ d) = true) (hd : IntKind.u64.wrap d = d) (hb : (G == 1) = b)
    (T1 : Hid (∀ w, Calls Try.prog 36 #[.int .i64 n] w fun e w' => e = .returned (.int .u64 u) ∧ w' = w))
    (T2 : Hid (∀ w, Calls Try.prog 41 #[.int .u64 u, .int .u64 d] w fun e w' => e = .returned (.int .u64 G) ∧ w' = w)) :
    Calls Try.prog 19 #[.agg #[.int .i64 n, .int .i64 d]] w fun e w' => e = .returned (.bool b) ∧ Keep w w' := by
  go_enter Try.func19, Try.ntmps19
  go_wp2_with fail
  go_region_held3 (fun w' => w'.cell? ⟨w.heap.size, 0, none⟩ = some (.int .i64 n) ∧ w'.cell? ⟨w.heap.size, 1, none⟩ = some (.int .i64 d)) (simp [go_sem]) (first | (go_at_call 36; refine ((uq T1) _).mono ?_; rintro e w2 ⟨rfl, rfl⟩) | (go_at_call 41; refine ((uq T2) _).mono ?_; rintro e w2 ⟨rfl, rfl⟩))
  all_goals go_wp2_with fail
  all_goals go_ret
  all_goals exact ⟨rfl, by repeat (first | apply keep_ext | apply Keep.alloc | apply Keep.drew | exact Keep.refl _)⟩
theorem r2right_any (n d : Int) (w : World) (h1 : -9223372036854775808 ≤ n) (h2 : n ≤ 9223372036854775807) (h3 : -9223372036854775808 ≤ d) (h4 : d ≤ 9223372036854775807) :
    Calls Try.prog 19 #[.agg #[.int .i64 n, .int .i64 d]] w fun e w' => e = .returned (.bool (rt n d)) ∧ Keep w w' := by
  by_cases hd : 1 ≤ d
  · have e : (((Nat.gcd n.natAbs d.natAbs : Nat) : Int) == 1) = rt n d := by
      by_cases hg : Nat.gcd n.natAbs d.natAbs = 1
      · have : rt n d = true := by simp only [rt, decide_eq_true_eq]; exact ⟨hd, hg⟩
        rw [this, hg]; rfl
      · have : rt n d = false := by simp only [rt, decide_eq_false_iff_not]; exact fun h => hg h.2
        rw [this]
        simp; omega
    refine r2right_core n d _ _ _ w hd (by simpa using hd) (by rw [IntKind.wrap_u64]; omega) e (hide fun w => rsize_any n w h1 h2) (hide fun w => ?_)
    have k := r2gcd_loop n.natAbs d.natAbs _ w (by omega) (by omega) (hide rfl)
    rw [show ((d.natAbs : Nat) : Int) = d by omega] at k
    exact k
  · have e : rt n d = false := by simp only [rt, decide_eq_false_iff_not]; exact fun h => hd h.1
    rw [e]
    exact r2right_low n d w hd (by simpa using hd)
set_option maxHeartbeats 400000 in
theorem norm_yes (n d : Int) (w : World) (T : Hid (∀ w, Calls Try.prog 19 #[.agg #[.int .i64 n, .int .i64 d]] w fun e w' => e = .returned (.bool true) ∧ Keep w w')) :
    Calls Try.prog 30 #[.agg #[.int .i64 n, .int .i64 d]] w fun e w' => e = .returned (.agg #[.int .i64 n, .int .i64 d]) ∧ Keep w w' := by
  go_enter Try.func30, Try.ntmps30
  go_wp2_with fail
  (refine ((uq T) _).mono ?_; rintro e w2 ⟨rfl, hk⟩; obtain ⟨o1, k1, rfl⟩ := hk.ext; clear hk)
  go_wp2_with fail
  exact bodyPost_ret (v := .agg #[.int .i64 n, .int .i64 d]) (by simp [results, Try.results30, go_sem]) rfl ⟨rfl, by repeat (first | apply keep_ext | apply Keep.alloc | apply Keep.drew | exact Keep.refl _)⟩
set_option maxHeartbeats 400000 in
theorem norm_no (n d : Int) (w : World) (T : Hid (∀ w, Calls Try.prog 19 #[.agg #[.int .i64 n, .int .i64 d]] w fun e w' => e = .returned (.bool false) ∧ Keep w w')) :
    Calls Try.prog 30 #[.agg #[.int .i64 n, .int .i64 d]] w fun e w' => e = .returned (.agg #[.int .i64 0, .int .i64 1]) ∧ Keep w w' := by
  go_enter Try.func30, Try.ntmps30
  go_wp2_with fail
  (refine ((uq T) _).mono ?_; rintro e w2 ⟨rfl, hk⟩; obtain ⟨o1, k1, rfl⟩ := hk.ext; clear hk)
  go_wp2_with fail
  exact bodyPost_ret (v := .agg #[.int .i64 0, .int .i64 1]) (by simp [results, Try.results30, go_sem]) rfl ⟨rfl, by repeat (first | apply keep_ext | apply Keep.alloc | apply Keep.drew | exact Keep.refl _)⟩
theorem norm_any (n d : Int) (w : World) (h1 : -9223372036854775808 ≤ n) (h2 : n ≤ 9223372036854775807) (h3 : -9223372036854775808 ≤ d) (h4 : d ≤ 9223372036854775807) :
    Calls Try.prog 30 #[.agg #[.int .i64 n, .int .i64 d]] w fun e w' => e = .returned (.agg #[.int .i64 (cn n d), .int .i64 (cd n d)]) ∧ Keep w w' := by
  have T : Hid (∀ w, _) := fun w => r2right_any n d w h1 h2 h3 h4
  unfold cn cd
  by_cases h : rt n d = true
  · rw [h] at T
    simp only [h, if_true]
    exact norm_yes n d w T
  · have h' : rt n d = false := by simpa using h
    rw [h'] at T
    simp only [h', if_false, Bool.false_eq_true]
    exact norm_no n d w T
/-! ### made, Of -/
set_option maxHeartbeats 1000000 in
theorem made_core (u v a e0 c e1 X Y Z : Int) (b : Bool) (w : World) (hr : (¬ e0 = 0 ∧ X = 0 ∧ Y = 0 ∧ Z = 2) ∨ (e0 = 0 ∧ ¬ e1 = 0 ∧ X = 0 ∧ Y = 0 ∧ Z = 2) ∨ (e0 = 0 ∧ e1 = 0 ∧ X = a ∧ Y = c ∧ Z = 0))
    (Sg : Int → Bool → Int → Int → Prop) (S1 : Sg u b a e0) (S2 : Sg v false c e1)
    (T : Hid (∀ (u : Int) (b : Bool) (a e0 : Int), Sg u b a e0 → ∀ w, Calls Try.prog 61 #[.int .u64 u, .bool b] w fun e w' => e = .returned (.tuple #[.int .i64 a, .int .i64 e0]) ∧ w' = w)) :
    Calls Try.prog 51 #[.int .u64 u, .int .u64 v, .bool b] w fun e w' => e = .returned (.tuple #[.agg #[.int .i64 X, .int .i64 Y], .int .i64 Z]) ∧ Keep w w' := by
  rcases hr with ⟨g1, rfl, rfl, rfl⟩ | ⟨rfl, g1, rfl, rfl, rfl⟩ | ⟨rfl, rfl, rfl, rfl, rfl⟩
  · have g2 : (e0 == 0) = false := by simpa using g1
    go_enter Try.func51, Try.ntmps51
    go_wp2_with fail
    (refine ((uq T) _ _ _ _ S1 _).mono ?_; rintro e w2 ⟨rfl, rfl⟩)
    go_wp2_with fail
    (refine ((uq T) _ _ _ _ S2 _).mono ?_; rintro e w2 ⟨rfl, rfl⟩)
    go_wp2_with fail
    exact bodyPost_ret (v := .tuple #[.agg #[.int .i64 0, .int .i64 0], .int .i64 2]) (by simp [results, Try.results51, go_sem]) rfl ⟨rfl, by repeat (first | apply keep_ext | apply Keep.alloc | apply Keep.drew | exact Keep.refl _)⟩
  · have g2 : (e1 == 0) = false := by simpa using g1
    go_enter Try.func51, Try.ntmps51
    go_wp2_with fail
    (refine ((uq T) _ _ _ _ S1 _).mono ?_; rintro e w2 ⟨rfl, rfl⟩)
    go_wp2_with fail
    (refine ((uq T) _ _ _ _ S2 _).mono ?_; rintro e w2 ⟨rfl, rfl⟩)
    go_wp2_with fail
    exact bodyPost_ret (v := .tuple #[.agg #[.int .i64 0, .int .i64 0], .int .i64 2]) (by simp [results, Try.results51, go_sem]) rfl ⟨rfl, by repeat (first | apply keep_ext | apply Keep.alloc | apply Keep.drew | exact Keep.refl _)⟩
  · skip
    go_enter Try.func51, Try.ntmps51
    go_wp2_with fail
    (refine ((uq T) _ _ _ _ S1 _).mono ?_; rintro e w2 ⟨rfl, rfl⟩)
    go_wp2_with fail
    (refine ((uq T) _ _ _ _ S2 _).mono ?_; rintro e w2 ⟨rfl, rfl⟩)
    go_wp2_with fail
    exact bodyPost_ret (v := .tuple #[.agg #[.int .i64 X, .int .i64 Y], .int .i64 0]) (by simp [results, Try.results51, go_sem]) rfl ⟨rfl, by repeat (first | apply keep_ext | apply Keep.alloc | apply Keep.drew | exact Keep.refl _)⟩
theorem made_any (u v : Int) (b : Bool) (w : World) (u0 : 0 ≤ u) (u1 : u < 18446744073709551616) (v0 : 0 ≤ v) (v1 : v < 18446744073709551616) :
    Calls Try.prog 51 #[.int .u64 u, .int .u64 v, .bool b] w fun e w' => e = .returned (fv (sg u b) v) ∧ Keep w w' := by
  refine made_core u v (ans (sg u b)) (err (sg u b)) (ans (sg v false)) (err (sg v false)) _ _ _ b w ?_ (fun u b a e0 => ∀ w, Calls Try.prog 61 #[.int .u64 u, .bool b] w fun e w' => e = .returned (.tuple #[.int .i64 a, .int .i64 e0]) ∧ w' = w)
    (fun w => signed_any u b w u0 u1) (fun w => signed_any v false w v0 v1) (hide fun u b a e0 h => h)
  have ev : sg v false = v := by simp [sg]
  rw [ev]
  by_cases f1 : fit (sg u b) = true
  · by_cases f2 : fit v = true
    · obtain ⟨p1, p2, p3⟩ := pair_yes f1 f2
      refine .inr (.inr ⟨by simp [err, f1], by simp [err, f2], ?_, ?_, p3⟩)
      · rw [p1]; simp [ans, f1]
      · rw [p2]; simp [ans, f2]
    · have f2' : fit v = false := by simpa using f2
      obtain ⟨p1, p2, p3⟩ := pair_no (n := sg u b) (d := v) (.inr f2')
      exact .inr (.inl ⟨by simp [err, f1], by simp [err, f2'], p1, p2, p3⟩)
  · have f1' : fit (sg u b) = false := by simpa using f1
    obtain ⟨p1, p2, p3⟩ := pair_no (n := sg u b) (d := v) (.inl f1')
    exact .inl ⟨by simp [err, f1'], p1, p2, p3⟩
set_option maxHeartbeats 2000000 in
theorem r2of_core (n d x y g A B X Y Z : Int) (b : Bool) (w : World) (hd : (d == 0) = false) (hd' : ¬ d = 0) (hg : ¬ g = 0) (e1 : x.tdiv g = A) (e2 : y.tdiv g = B) (w1 : IntKind.u64.wrap A = A) (w2 : IntKind.u64.wrap B = B)
    (hb : (n = 0 ∧ b = false) ∨ (¬ n = 0 ∧ (!(decide (n < 0) == decide (d < 0))) = b))
    (Sz : Int → Int → Prop) (S1 : Sz n x) (S2 : Sz d y)
    (T1 : Hid (∀ (n x : Int), Sz n x → ∀ w, Calls Try.prog 36 #[.int .i64 n] w fun e w' => e = .returned (.int .u64 x) ∧ w' = w))
    (T2 : Hid (∀ w, Calls Try.prog 41 #[.int .u64 x, .int .u64 y] w fun e w' => e = .returned (.int .u64 g) ∧ w' = w))
    (T3 : Hid (∀ w, Calls Try.prog 51 #[.int .u64 A, .int .u64 B, .bool b] w fun e w' => e = .returned (.tuple #[.agg #[.int .i64 X, .int .i64 Y], .int .i64 Z]) ∧ Keep w w')) :
    Calls Try.prog 33 #[.int .i64 n, .int .i64 d] w fun e w' => e = .returned (.tuple #[.agg #[.int .i64 X, .int .i64 Y], .int .i64 Z]) ∧ Keep w w' := by
  have hg' : (g == 0) = false := by simpa using hg
  rcases hb with ⟨h0, rfl⟩ | ⟨h0, hb⟩
  · subst h0
    go_enter Try.func33, Try.ntmps33
    go_wp2_with fail
    (refine ((uq T1) _ _ S1 _).mono ?_; rintro e w2 ⟨rfl, rfl⟩)
    go_wp2_with fail
    (refine ((uq T1) _ _ S2 _).mono ?_; rintro e w2 ⟨rfl, rfl⟩)
    go_wp2_with fail
    (refine ((uq T2) _).mono ?_; rintro e w2 ⟨rfl, rfl⟩)
    go_wp2_with fail
    refine wp_region_held_drew (S := fun _ => True) (by kernel_rfl) (by trivial) (fun hHeld => ?_)
    refine tkk 0 19 hHeld ?_; try simp only [Act.put, Ya, Yb, Yc]
    refine tkk 1 20 hHeld ?_; try simp only [Act.put, Ya, Yb, Yc]
    refine tkk 2 21 hHeld ?_; try simp only [Act.put, Ya, Yb, Yc]
    refine tkk 3 22 hHeld ?_; try simp only [Act.put, Ya, Yb, Yc]
    refine tkk 4 23 hHeld ?_; try simp only [Act.put, Ya, Yb, Yc]
    refine tkk 5 24 hHeld ?_; try simp only [Act.put, Ya, Yb, Yc]
    refine tkk 6 25 hHeld ?_; try simp only [Act.put, Ya, Yb, Yc]
    refine tkk 7 26 hHeld ?_; try simp only [Act.put, Ya, Yb, Yc]
    refine tkk 8 27 hHeld ?_; try simp only [Act.put, Ya, Yb, Yc]
    refine wpAnyH_take (i := 9) (v := undef) rfl (by kernel_rfl) (by kernel_rfl) (by kernel_rfl) (fun _ _ _ h => h) (Or.inr ⟨by rfl, rfl⟩) hHeld ?_
    show wpAnyH _ _ _ _ _ _ _ (Act.put _ (some 28) _) _
    try simp only [Act.put, Ya, Yb, Yc]
    refine wpAnyH_take (i := 10) (v := undef) rfl (by kernel_rfl) (by kernel_rfl) (by kernel_rfl) (fun _ _ _ h => h) (Or.inr ⟨by rfl, rfl⟩) hHeld ?_
    show wpAnyH _ _ _ _ _ _ _ (Act.put _ (some 29) _) _
    try simp only [Act.put, Ya, Yb, Yc]
    refine wpAnyH_take (i := 11) (v := undef) rfl (by kernel_rfl) (by kernel_rfl) (by kernel_rfl) (fun _ _ _ h => h) (Or.inr ⟨by rfl, rfl⟩) hHeld ?_
    show wpAnyH _ _ _ _ _ _ _ (Act.put _ (some 30) _) _
    try simp only [Act.put, Ya, Yb, Yc]
    refine wpAnyH_take (i := 12) (v := undef) rfl (by kernel_rfl) (by kernel_rfl) (by kernel_rfl) (fun _ _ _ h => h) (Or.inr ⟨by rfl, rfl⟩) hHeld ?_
    show wpAnyH _ _ _ _ _ _ _ (Act.put _ (some 31) _) _
    try simp only [Act.put, Ya, Yb, Yc]
    refine wpAnyH_take (i := 13) (v := undef) rfl (by kernel_rfl) (by kernel_rfl) (by kernel_rfl) (fun _ _ _ h => h) (Or.inr ⟨by rfl, rfl⟩) hHeld ?_
    show wpAnyH _ _ _ _ _ _ _ (Act.put _ (some 32) _) _
    try simp only [Act.put, Ya, Yb, Yc]
    refine tkk 14 33 hHeld ?_; try simp only [Act.put, Ya, Yb, Yc]
    refine rdyy 15 (fun K hK => ?_)
    go_simp
    clear hHeld
    (refine ((uq T3) _).mono ?_; rintro e w2 ⟨rfl, hk⟩; obtain ⟨o1, k1, rfl⟩ := hk.ext; clear hk)
    try go_wp2_with fail
    refine hK.out _ _ ?_ (fun hHeld => ?_)
    · trivial
    clear hK K
    try simp only [Act.put, Ya, Yb, Yc]
    refine tkk 16 35 hHeld ?_; try simp only [Act.put, Ya, Yb, Yc]
    refine tkk 17 36 hHeld ?_; try simp only [Act.put, Ya, Yb, Yc]
    refine rdyy 18 (fun K hK => ?_)
    go_simp
    clear hHeld
    refine hK.out _ _ ?_ (fun hHeld => ?_)
    · trivial
    clear hK K
    try simp only [Act.put, Ya, Yb, Yc]
    refine tkk 19 5 hHeld ?_; try simp only [Act.put, Ya, Yb, Yc]
    refine wpAnyH_done (by kernel_rfl) ?_ _
    clear hHeld
    all_goals go_wp2_with fail
    all_goals exact bodyPost_ret (v := .tuple #[.agg #[.int .i64 X, .int .i64 Y], .int .i64 Z]) (by simp [results, Try.results33, go_sem]) rfl ⟨rfl, by repeat (first | apply keep_ext | apply Keep.alloc | apply Keep.drew | exact Keep.refl _)⟩
  · have h0b : (n == 0) = false := by simpa using h0
    have h0c : (n != 0) = true := by simpa using h0
    go_enter Try.func33, Try.ntmps33
    go_wp2_with fail
    (refine ((uq T1) _ _ S1 _).mono ?_; rintro e w2 ⟨rfl, rfl⟩)
    go_wp2_with fail
    (refine ((uq T1) _ _ S2 _).mono ?_; rintro e w2 ⟨rfl, rfl⟩)
    go_wp2_with fail
    (refine ((uq T2) _).mono ?_; rintro e w2 ⟨rfl, rfl⟩)
    go_wp2_with fail
    refine wp_region_held_drew (S := fun _ => True) (by kernel_rfl) (by trivial) (fun hHeld => ?_)
    refine tkk 0 19 hHeld ?_; try simp only [Act.put, Ya, Yb, Yc]
    refine tkk 1 20 hHeld ?_; try simp only [Act.put, Ya, Yb, Yc]
    refine tkk 2 21 hHeld ?_; try simp only [Act.put, Ya, Yb, Yc]
    refine tkk 3 22 hHeld ?_; try simp only [Act.put, Ya, Yb, Yc]
    refine tkk 4 23 hHeld ?_; try simp only [Act.put, Ya, Yb, Yc]
    refine tkk 5 24 hHeld ?_; try simp only [Act.put, Ya, Yb, Yc]
    refine tkk 6 25 hHeld ?_; try simp only [Act.put, Ya, Yb, Yc]
    refine tkk 7 26 hHeld ?_; try simp only [Act.put, Ya, Yb, Yc]
    refine tkk 8 27 hHeld ?_; try simp only [Act.put, Ya, Yb, Yc]
    refine tkk 9 28 hHeld ?_; try simp only [Act.put, Ya, Yb, Yc]
    refine tkk 10 29 hHeld ?_; try simp only [Act.put, Ya, Yb, Yc]
    refine tkk 11 30 hHeld ?_; try simp only [Act.put, Ya, Yb, Yc]
    refine tkk 12 31 hHeld ?_; try simp only [Act.put, Ya, Yb, Yc]
    refine tkk 13 32 hHeld ?_; try simp only [Act.put, Ya, Yb, Yc]
    refine tkk 14 33 hHeld ?_; try simp only [Act.put, Ya, Yb, Yc]
    refine rdyy 15 (fun K hK => ?_)
    go_simp
    clear hHeld
    (refine ((uq T3) _).mono ?_; rintro e w2 ⟨rfl, hk⟩; obtain ⟨o1, k1, rfl⟩ := hk.ext; clear hk)
    try go_wp2_with fail
    refine hK.out _ _ ?_ (fun hHeld => ?_)
    · trivial
    clear hK K
    try simp only [Act.put, Ya, Yb, Yc]
    refine tkk 16 35 hHeld ?_; try simp only [Act.put, Ya, Yb, Yc]
    refine tkk 17 36 hHeld ?_; try simp only [Act.put, Ya, Yb, Yc]
    refine rdyy 18 (fun K hK => ?_)
    go_simp
    clear hHeld
    refine hK.out _ _ ?_ (fun hHeld => ?_)
    · trivial
    clear hK K
    try simp only [Act.put, Ya, Yb, Yc]
    refine tkk 19 5 hHeld ?_; try simp only [Act.put, Ya, Yb, Yc]
    refine wpAnyH_done (by kernel_rfl) ?_ _
    clear hHeld
    all_goals go_wp2_with fail
    all_goals exact bodyPost_ret (v := .tuple #[.agg #[.int .i64 X, .int .i64 Y], .int .i64 Z]) (by simp [results, Try.results33, go_sem]) rfl ⟨rfl, by repeat (first | apply keep_ext | apply Keep.alloc | apply Keep.drew | exact Keep.refl _)⟩
theorem of_low (n d : Int) (hz : ¬ d = 0) (b : Bool) (hb : (n = 0 ∧ b = false) ∨ (¬ n = 0 ∧ (!(decide (n < 0) == decide (d < 0))) = b)) :
    rn (sgn (decide (d < 0)) n) (d.natAbs : Int) = sg ((n.natAbs / Nat.gcd n.natAbs d.natAbs : Nat) : Int) b ∧ rd (sgn (decide (d < 0)) n) (d.natAbs : Int) = ((d.natAbs / Nat.gcd n.natAbs d.natAbs : Nat) : Int) := by
  have g0 : 0 < Nat.gcd n.natAbs d.natAbs := Nat.gcd_pos_of_pos_right _ (by omega)
  have c1 : Nat.gcd (n.natAbs / Nat.gcd n.natAbs d.natAbs) (d.natAbs / Nat.gcd n.natAbs d.natAbs) = 1 := Nat.coprime_div_gcd_div_gcd g0
  obtain ⟨a, ha⟩ := Nat.gcd_dvd_left n.natAbs d.natAbs
  obtain ⟨c, hc⟩ := Nat.gcd_dvd_right n.natAbs d.natAbs
  have q1 : n.natAbs / Nat.gcd n.natAbs d.natAbs = a := Nat.div_eq_of_eq_mul_right g0 ha
  have q2 : d.natAbs / Nat.gcd n.natAbs d.natAbs = c := Nat.div_eq_of_eq_mul_right g0 hc
  rw [q1, q2] at c1 ⊢
  generalize Nat.gcd n.natAbs d.natAbs = g at *
  have hc0 : 0 < c := by
    rcases Nat.eq_zero_or_pos c with h | h
    · rw [h, Nat.mul_zero] at hc; omega
    · exact h
  have key : sgn (decide (d < 0)) n = sg ((g * a : Nat) : Int) b := by
    rw [← ha]
    unfold sgn sg
    rcases hb with ⟨h0, rfl⟩ | ⟨h0, rfl⟩
    · subst h0; simp
    · by_cases p : n < 0 <;> by_cases q : d < 0 <;> simp [p, q] <;> omega
  rw [key, hc]
  refine red_one (by omega) (by rw [← hc]; omega) ?_ ?_
  · unfold sg Int.gcd
    split
    · rw [Int.natAbs_neg]; exact c1
    · exact c1
  · unfold sg
    split <;> simp only [Int.natCast_mul, Int.neg_mul] <;> ac_rfl
theorem r2of_any (n d : Int) (w : World) (h1 : -9223372036854775808 ≤ n) (h2 : n ≤ 9223372036854775807) (h3 : -9223372036854775808 ≤ d) (h4 : d ≤ 9223372036854775807) (hz : ¬ d = 0) :
    Calls Try.prog 33 #[.int .i64 n, .int .i64 d] w fun e w' => e = .returned (fv (rn (sgn (decide (d < 0)) n) (d.natAbs : Int)) (rd (sgn (decide (d < 0)) n) (d.natAbs : Int))) ∧ Keep w w' := by
  obtain ⟨b, hb⟩ : ∃ b : Bool, (n = 0 ∧ b = false) ∨ (¬ n = 0 ∧ (!(decide (n < 0) == decide (d < 0))) = b) := by
    by_cases h0 : n = 0
    · exact ⟨false, .inl ⟨h0, rfl⟩⟩
    · exact ⟨_, .inr ⟨h0, rfl⟩⟩
  obtain ⟨l1, l2⟩ := of_low n d hz b hb
  rw [l1, l2]
  have g0 : 0 < Nat.gcd n.natAbs d.natAbs := Nat.gcd_pos_of_pos_right _ (by omega)
  have b1 : n.natAbs / Nat.gcd n.natAbs d.natAbs ≤ n.natAbs := Nat.div_le_self _ _
  have b2 : d.natAbs / Nat.gcd n.natAbs d.natAbs ≤ d.natAbs := Nat.div_le_self _ _
  have G := fun w => r2gcd_loop n.natAbs d.natAbs _ w (by omega) (by omega) (hide rfl)
  have eA : ((n.natAbs : Nat) : Int).tdiv (Nat.gcd n.natAbs d.natAbs : Nat) = (n.natAbs / Nat.gcd n.natAbs d.natAbs : Nat) := by rw [Int.tdiv_eq_ediv_of_nonneg (by omega)]; rfl
  have eB : ((d.natAbs : Nat) : Int).tdiv (Nat.gcd n.natAbs d.natAbs : Nat) = (d.natAbs / Nat.gcd n.natAbs d.natAbs : Nat) := by rw [Int.tdiv_eq_ediv_of_nonneg (by omega)]; rfl
  generalize n.natAbs / Nat.gcd n.natAbs d.natAbs = A at *
  generalize d.natAbs / Nat.gcd n.natAbs d.natAbs = B at *
  generalize Nat.gcd n.natAbs d.natAbs = g at *
  exact r2of_core n d _ _ g A B _ _ _ b w (by simpa using hz) hz (by omega) eA eB (by rw [IntKind.wrap_u64]; omega) (by rw [IntKind.wrap_u64]; omega) hb
    (fun n x => ∀ w, Calls Try.prog 36 #[.int .i64 n] w fun e w' => e = .returned (.int .u64 x) ∧ w' = w) (fun w => rsize_any n w h1 h2) (fun w => rsize_any d w h3 h4) (hide fun n x h => h) (hide G) (hide fun w => made_any A B b w (by omega) (by omega) (by omega) (by omega))
end Go.Proofs.Ytdgmndjofbdgeaa
