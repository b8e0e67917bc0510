/- Divisors, multiples, and products compared: what package whole comes to. -/
import Derived.Test.YtaebjfdadiegjabWholeQ
import Derived.Test.YtaebjfdadiegjabWholeB
import Derived.LoopTactic
import Derived.RegionTactic
namespace Go.Proofs.Ytaebjfdadiegjab
open Go.RowKit
set_option linter.unusedVariables false

set_option maxHeartbeats 400000 in
theorem size_any (a : Int) (w : World) (h1 : -9223372036854775808 ≤ a) (h2 : a ≤ 9223372036854775807) :
    Calls Try.prog 22 #[.int .i64 a] w fun e w' => e = .returned (.int .u64 (a.natAbs : Int)) ∧ w' = w := by
  by_cases ha : a < 0
  · go_enter Try.func22, Try.ntmps22
    go_wp2
    go_ret
    exact ⟨one_ret (by rw [IntKind.wrap_u64, IntKind.wrap_u64]; omega), rfl⟩
  · go_enter Try.func22, Try.ntmps22
    go_wp2
    go_ret
    exact ⟨one_ret (by omega), rfl⟩

set_option maxHeartbeats 1000000 in
theorem gcd_core (a b : Int) (x y G : Nat) (w : World) (hx : x ≤ 9223372036854775808) (hy : y ≤ 9223372036854775808) (HG : Hid (Nat.gcd x y = G))
    (S1 : Hid (∀ w, Calls Try.prog 22 #[.int .i64 a] w fun e w' => e = .returned (.int .u64 (x : Int)) ∧ w' = w))
    (S2 : Hid (∀ w, Calls Try.prog 22 #[.int .i64 b] w fun e w' => e = .returned (.int .u64 (y : Int)) ∧ w' = w)) :
    Calls Try.prog 12 #[.int .i64 a, .int .i64 b] w fun e w' => e = .returned (.tuple #[.int .i64 (ans (G : Int)), .int .i64 (err (G : Int))]) ∧ Keep w w' := by
  go_enter Try.func12, Try.ntmps12
  go_wp2_with fail
  refine (unhide S1 _).mono ?_
  rintro e w' ⟨rfl, rfl⟩
  go_wp2_with fail
  refine (unhide S2 _).mono ?_
  rintro e w' ⟨rfl, rfl⟩
  go_wp2_with fail
  go_loopw [6, 7] (fun p q wr => ∃ u v : Nat, p = .int .u64 (u : Int) ∧ q = .int .u64 (v : Int) ∧ u ≤ 9223372036854775808 ∧ v ≤ 9223372036854775808 ∧ Hid (Nat.gcd u v = G) ∧ Keep w' wr) (fun _ q _ => (intOf q).toNat)
  case atStart => exact ⟨x, y, rfl, rfl, hx, hy, HG, Keep.refl _⟩
  case round =>
    obtain ⟨u, v, rfl, rfl, hu, hv, Hg, hk⟩ := hrel
    by_cases hz : v = 0
    · subst hz
      have e0 : u = G := by have := unhide Hg; simpa using this
      by_cases hf : u ≤ 9223372036854775807
      · have k := ans_yes (n := (u : Int)) (by omega) (by omega)
        have k' := err_yes (n := (u : Int)) (by omega) (by omega)
        rw [e0] at k k'
        have K := hide k
        have K' := hide k'
        have E0 := hide e0
        clear k k' e0
        go_wp2
        go_ret2
        exact ⟨two_ret (by rw [unhide K, unhide E0]) (by rw [unhide K']), hk⟩
      · have k := ans_no (n := (u : Int)) (by omega)
        have k' := err_no (n := (u : Int)) (by omega)
        rw [e0] at k k'
        have K := hide k
        have K' := hide k'
        have E0 := hide e0
        clear k k' e0
        go_wp2
        go_ret2
        exact ⟨two_ret (by rw [unhide K]) (by rw [unhide K']), hk⟩
    · have hb : ((v : Int) == 0) = false := by simp; omega
      have hb2 : ((v : Int) != 0) = true := by simp; omega
      have hm : u % v < v := Nat.mod_lt _ (by omega)
      have Hg2 : Hid (Nat.gcd v (u % v) = G) := by
        refine hide ?_
        rw [← unhide Hg, Nat.gcd_comm u v]
        exact (Nat.gcd_rec v u).symm ▸ (by rw [Nat.gcd_comm])
      go_wp2
      go_region
      all_goals go_wp2
      all_goals go_roundw
      case rel => exact ⟨v, u % v, rfl, by go_num, by omega, by omega, Hg2, hk.drew⟩
      case measure => simp [intOf]; omega

theorem gcd_any (a b : Int) (w : World) (h1 : -9223372036854775808 ≤ a) (h2 : a ≤ 9223372036854775807) (h3 : -9223372036854775808 ≤ b) (h4 : b ≤ 9223372036854775807) :
    Calls Try.prog 12 #[.int .i64 a, .int .i64 b] w fun e w' => e = .returned (.tuple #[.int .i64 (ans (Int.gcd a b : Int)), .int .i64 (err (Int.gcd a b : Int))]) ∧ Keep w w' :=
  gcd_core a b a.natAbs b.natAbs (Int.gcd a b) w (by omega) (by omega) (hide rfl) (hide fun w => size_any a w h1 h2) (hide fun w => size_any b w h3 h4)

/-! ### multiples -/
set_option maxHeartbeats 400000 in
theorem lcm_zero (a b : Int) (w : World) (h : a = 0 ∨ b = 0) :
    Calls Try.prog 13 #[.int .i64 a, .int .i64 b] w fun e w' => e = .returned (.tuple #[.int .i64 0, .int .i64 0]) ∧ Keep w w' := by
  by_cases ha : a = 0
  · subst ha
    clear h
    go_enter Try.func13, Try.ntmps13
    go_wp2
    go_ret2
    exact ⟨rfl, Keep.refl _⟩
  · have hb : b = 0 := by omega
    subst hb
    have ha' : (a == 0) = false := by simp [ha]
    clear h
    go_enter Try.func13, Try.ntmps13
    go_wp2
    go_ret2
    exact ⟨rfl, Keep.refl _⟩
set_option maxHeartbeats 400000 in
theorem lcm_none (a b : Int) (w : World) (ha : (a == 0) = false) (hb : (b == 0) = false)
    (G : Hid (∀ w, Calls Try.prog 12 #[.int .i64 a, .int .i64 b] w fun e w' => e = .returned (.tuple #[.int .i64 0, .int .i64 2]) ∧ Keep w w')) :
    Calls Try.prog 13 #[.int .i64 a, .int .i64 b] w fun e w' => e = .returned (.tuple #[.int .i64 0, .int .i64 2]) ∧ Keep w w' := by
  go_enter Try.func13, Try.ntmps13
  go_wp2_with fail
  refine (unhide G _).mono ?_
  rintro e w1 ⟨rfl, hk⟩
  go_wp2_with fail
  go_ret2
  exact ⟨rfl, hk⟩
set_option maxHeartbeats 400000 in
theorem lcm_over (a b g t : Int) (w : World) (ha : (a == 0) = false) (hb : (b == 0) = false) (hg : 1 ≤ g) (hg' : (g == 0) = false) (e1 : a.tdiv g = t) (e2 : 0 ≤ a → a / g = t) (t1 : -9223372036854775808 ≤ t) (t2 : t ≤ 9223372036854775807)
    (G : Hid (∀ w, Calls Try.prog 12 #[.int .i64 a, .int .i64 b] w fun e w' => e = .returned (.tuple #[.int .i64 g, .int .i64 0]) ∧ Keep w w'))
    (M : Hid (∀ w, Calls Try.prog 23 #[.int .i64 t, .int .i64 b] w fun e w' => e = .returned (.tuple #[.int .i64 0, .int .i64 2]) ∧ Keep w w')) :
    Calls Try.prog 13 #[.int .i64 a, .int .i64 b] w fun e w' => e = .returned (.tuple #[.int .i64 0, .int .i64 2]) ∧ Keep w w' := by
  by_cases hs : 0 ≤ a
  · have e3 := e2 hs
    clear e2
    go_enter Try.func13, Try.ntmps13
    go_wp2_with fail
    refine (unhide G _).mono ?_
    rintro e w1 ⟨rfl, hk⟩
    go_wp2_with fail
    refine (unhide M _).mono ?_
    rintro e w2 ⟨rfl, hk2⟩
    go_wp2_with fail
    go_ret2
    exact ⟨rfl, hk.trans hk2⟩
  · clear e2
    go_enter Try.func13, Try.ntmps13
    go_wp2_with fail
    refine (unhide G _).mono ?_
    rintro e w1 ⟨rfl, hk⟩
    go_wp2_with fail
    refine (unhide M _).mono ?_
    rintro e w2 ⟨rfl, hk2⟩
    go_wp2_with fail
    go_ret2
    exact ⟨rfl, hk.trans hk2⟩
set_option maxHeartbeats 400000 in
theorem lcm_done (a b g t m v c : Int) (w : World) (ha : (a == 0) = false) (hb : (b == 0) = false) (hg : 1 ≤ g) (hg' : (g == 0) = false) (e1 : a.tdiv g = t) (e2 : 0 ≤ a → a / g = t) (t1 : -9223372036854775808 ≤ t) (t2 : t ≤ 9223372036854775807)
    (hv : ¬ m < 0 → v = m ∧ c = 0)
    (G : Hid (∀ w, Calls Try.prog 12 #[.int .i64 a, .int .i64 b] w fun e w' => e = .returned (.tuple #[.int .i64 g, .int .i64 0]) ∧ Keep w w'))
    (M : Hid (∀ w, Calls Try.prog 23 #[.int .i64 t, .int .i64 b] w fun e w' => e = .returned (.tuple #[.int .i64 m, .int .i64 0]) ∧ Keep w w'))
    (N : Hid (m < 0 → ∀ w, Calls Try.prog 10 #[.int .i64 m] w fun e w' => e = .returned (.tuple #[.int .i64 v, .int .i64 c]) ∧ w' = w)) :
    Calls Try.prog 13 #[.int .i64 a, .int .i64 b] w fun e w' => e = .returned (.tuple #[.int .i64 v, .int .i64 c]) ∧ Keep w w' := by
  have e3 : Hid (0 ≤ a → a / g = t) := e2
  clear e2
  by_cases hm : m < 0
  · clear hv
    by_cases hs : 0 ≤ a
    · have e2 := unhide e3 hs
      go_enter Try.func13, Try.ntmps13
      go_wp2_with fail
      refine (unhide G _).mono ?_
      rintro e w1 ⟨rfl, hk⟩
      go_wp2_with fail
      refine (unhide M _).mono ?_
      rintro e w2 ⟨rfl, hk2⟩
      go_wp2_with fail
      refine (unhide N hm _).mono ?_
      rintro e w3 ⟨rfl, rfl⟩
      go_wp2_with fail
      go_ret2
      exact ⟨rfl, hk.trans hk2⟩
    · go_enter Try.func13, Try.ntmps13
      go_wp2_with fail
      refine (unhide G _).mono ?_
      rintro e w1 ⟨rfl, hk⟩
      go_wp2_with fail
      refine (unhide M _).mono ?_
      rintro e w2 ⟨rfl, hk2⟩
      go_wp2_with fail
      refine (unhide N hm _).mono ?_
      rintro e w3 ⟨rfl, rfl⟩
      go_wp2_with fail
      go_ret2
      exact ⟨rfl, hk.trans hk2⟩
  · obtain ⟨rfl, rfl⟩ := hv hm
    by_cases hs : 0 ≤ a
    · have e2 := unhide e3 hs
      go_enter Try.func13, Try.ntmps13
      go_wp2_with fail
      refine (unhide G _).mono ?_
      rintro e w1 ⟨rfl, hk⟩
      go_wp2_with fail
      refine (unhide M _).mono ?_
      rintro e w2 ⟨rfl, hk2⟩
      go_wp2_with fail
      go_ret2
      exact ⟨rfl, hk.trans hk2⟩
    · go_enter Try.func13, Try.ntmps13
      go_wp2_with fail
      refine (unhide G _).mono ?_
      rintro e w1 ⟨rfl, hk⟩
      go_wp2_with fail
      refine (unhide M _).mono ?_
      rintro e w2 ⟨rfl, hk2⟩
      go_wp2_with fail
      go_ret2
      exact ⟨rfl, hk.trans hk2⟩

/-- the multiple by the quotient of one by the divisor -/
theorem lcm_num {a b : Int} (ha : a ≠ 0) : 1 ≤ (Int.gcd a b : Int) ∧ ((Int.lcm a b : Nat) : Int) = ((a.tdiv (Int.gcd a b : Int)) * b).natAbs := by
  have hg : 0 < Int.gcd a b := Nat.gcd_pos_of_pos_left _ (by omega)
  refine ⟨by omega, ?_⟩
  have hd : (Int.gcd a b) ∣ a.natAbs := Nat.gcd_dvd_left _ _
  have e1 : (a.tdiv (Int.gcd a b : Int)).natAbs = a.natAbs / Int.gcd a b := by rw [Int.natAbs_tdiv]; rfl
  rw [Int.natAbs_mul, e1]
  unfold Int.lcm Nat.lcm
  congr 1
  rw [Nat.mul_comm a.natAbs, Nat.mul_comm (a.natAbs / Int.gcd a b)]
  exact Nat.mul_div_assoc _ hd
theorem lcm_any (a b : Int) (w : World) (h1 : -9223372036854775808 ≤ a) (h2 : a ≤ 9223372036854775807) (h3 : -9223372036854775808 ≤ b) (h4 : b ≤ 9223372036854775807) :
    Calls Try.prog 13 #[.int .i64 a, .int .i64 b] w fun e w' => e = .returned (.tuple #[.int .i64 (ans (Int.lcm a b : Int)), .int .i64 (err (Int.lcm a b : Int))]) ∧ Keep w w' := by
  by_cases hz : a = 0 ∨ b = 0
  · have e : (Int.lcm a b : Int) = 0 := by rcases hz with rfl | rfl <;> simp [Int.lcm]
    rw [e, ans_yes (by omega) (by omega), err_yes (by omega) (by omega)]
    exact lcm_zero a b w hz
  · have ha : (a == 0) = false := by simp; omega
    have hb : (b == 0) = false := by simp; omega
    obtain ⟨hg, hl⟩ := lcm_num (a := a) (b := b) (by omega)
    have hle : Int.gcd a b ≤ a.natAbs := Nat.gcd_le_left _ (by omega)
    have hle2 : Int.gcd a b ≤ b.natAbs := Nat.gcd_le_right _ (by omega)
    by_cases hf : (Int.gcd a b : Int) ≤ 9223372036854775807
    · have G : ∀ w, _ := fun w => gcd_any a b w h1 h2 h3 h4
      rw [ans_yes (by omega) hf, err_yes (by omega) hf] at G
      have tb := tdiv_bd h1 h2 (b := (Int.gcd a b : Int)) (by omega) (by omega)
      have hg' : ((Int.gcd a b : Int) == 0) = false := by simp; omega
      have M : ∀ w, _ := fun w => mul_any (a.tdiv (Int.gcd a b : Int)) b w tb.1 tb.2 h3 h4
      rw [hl]
      generalize hm : a.tdiv (Int.gcd a b : Int) * b = m at *
      by_cases hmf : -9223372036854775808 ≤ m ∧ m ≤ 9223372036854775807
      · rw [ans_yes hmf.1 hmf.2, err_yes hmf.1 hmf.2] at M
        refine lcm_done a b (Int.gcd a b : Int) _ m _ _ w ha hb hg hg' rfl (fun h => (Int.tdiv_eq_ediv_of_nonneg h).symm) tb.1 tb.2 ?_ G M (fun hneg w => ?_)
        · intro hn
          rw [show (m.natAbs : Int) = m by omega]
          exact ⟨ans_yes hmf.1 hmf.2, err_yes hmf.1 hmf.2⟩
        · rw [show (m.natAbs : Int) = -m by omega]
          exact neg_any m w hmf.1 hmf.2
      · rw [ans_no (by omega), err_no (by omega)] at M
        rw [ans_no (by omega), err_no (by omega)]
        exact lcm_over a b (Int.gcd a b : Int) _ w ha hb hg hg' rfl (fun h => (Int.tdiv_eq_ediv_of_nonneg h).symm) tb.1 tb.2 G M
    · have G : ∀ w, _ := fun w => gcd_any a b w h1 h2 h3 h4
      rw [ans_no (by omega), err_no (by omega)] at G
      have hbig : 9223372036854775808 ≤ (Int.lcm a b : Int) := by
        have : b.natAbs ≤ Int.lcm a b := Nat.le_of_dvd (Nat.lcm_pos (by omega) (by omega)) (Nat.dvd_lcm_right _ _)
        omega
      rw [ans_no (by omega), err_no (by omega)]
      exact lcm_none a b w ha hb G

/-! ### products compared -/
set_option maxHeartbeats 400000 in
theorem below_lt (H L H2 L2 : Int) (w : World) (hne : (H == H2) = false) (yes : Bool) (hy : decide (H < H2) = yes) :
    Calls Try.prog 15 #[.agg #[.int .i64 H, .int .u64 L], .agg #[.int .i64 H2, .int .u64 L2]] w fun e w' => e = .returned (.bool yes) ∧ Keep w w' := by
  go_enter Try.func15, Try.ntmps15
  go_wp2
  go_ret
  exact ⟨rfl, ((Keep.refl _).alloc _).alloc _⟩
set_option maxHeartbeats 400000 in
theorem below_eq (H L L2 : Int) (w : World) (yes : Bool) (hy : decide (L < L2) = yes) :
    Calls Try.prog 15 #[.agg #[.int .i64 H, .int .u64 L], .agg #[.int .i64 H, .int .u64 L2]] w fun e w' => e = .returned (.bool yes) ∧ Keep w w' := by
  go_enter Try.func15, Try.ntmps15
  go_wp2
  go_ret
  exact ⟨rfl, ((Keep.refl _).alloc _).alloc _⟩
set_option maxHeartbeats 400000 in
theorem compare_eq (a b c d H L : Int) (w : World)
    (T1 : Hid (∀ w, Calls Try.prog 14 #[.int .i64 a, .int .i64 b] w fun e w' => e = .returned (.agg #[.int .i64 H, .int .u64 L]) ∧ ∃ c, w' = w.alloc (.cells c 33)))
    (T2 : Hid (∀ w, Calls Try.prog 14 #[.int .i64 c, .int .i64 d] w fun e w' => e = .returned (.agg #[.int .i64 H, .int .u64 L]) ∧ ∃ c, w' = w.alloc (.cells c 33))) :
    Calls Try.prog 5 #[.int .i64 a, .int .i64 b, .int .i64 c, .int .i64 d] w fun e w' => e = .returned (.int .i64 0) ∧ Keep w w' := by
  go_enter Try.func5, Try.ntmps5
  go_wp2_with fail
  refine (unhide T1 _).mono ?_
  rintro e w1 ⟨rfl, c1, rfl⟩
  go_wp2_with fail
  refine (unhide T2 _).mono ?_
  rintro e w2 ⟨rfl, c2, rfl⟩
  go_wp2_with fail
  go_ret
  exact ⟨rfl, by repeat (first | exact Keep.refl _ | apply Keep.drew | apply Keep.alloc)⟩
set_option maxHeartbeats 400000 in
theorem compare_ne (a b c d H L H2 L2 : Int) (less : Bool) (w : World) (hne : (H == H2 && L == L2) = false)
    (T1 : Hid (∀ w, Calls Try.prog 14 #[.int .i64 a, .int .i64 b] w fun e w' => e = .returned (.agg #[.int .i64 H, .int .u64 L]) ∧ ∃ c, w' = w.alloc (.cells c 33)))
    (T2 : Hid (∀ w, Calls Try.prog 14 #[.int .i64 c, .int .i64 d] w fun e w' => e = .returned (.agg #[.int .i64 H2, .int .u64 L2]) ∧ ∃ c, w' = w.alloc (.cells c 33)))
    (B : Hid (∀ w, Calls Try.prog 15 #[.agg #[.int .i64 H, .int .u64 L], .agg #[.int .i64 H2, .int .u64 L2]] w fun e w' => e = .returned (.bool less) ∧ Keep w w')) :
    Calls Try.prog 5 #[.int .i64 a, .int .i64 b, .int .i64 c, .int .i64 d] w fun e w' => e = .returned (.int .i64 (if less then -1 else 1)) ∧ Keep w w' := by
  have fin : ∀ (w w' : World) (c1 c2 c3 c4 : Array Value), Keep ((((w.alloc (.cells c1 33)).alloc (.cells c2 33)).alloc (.cells c3 33)).alloc (.cells c4 33)) w' → Keep w w' :=
    fun w w' _ _ _ _ h => ((((Keep.refl w).alloc _).alloc _).alloc _).alloc _ |>.trans h
  by_cases h1 : H = H2
  · subst h1
    have h2 : (L == L2) = false := by simpa using hne
    clear hne
    cases less
    all_goals
      go_enter Try.func5, Try.ntmps5
      go_wp2_with fail
      refine (unhide T1 _).mono ?_
      rintro e w1 ⟨rfl, c1, rfl⟩
      go_wp2_with fail
      refine (unhide T2 _).mono ?_
      rintro e w2 ⟨rfl, c2, rfl⟩
      go_wp2_with fail
      refine (unhide B _).mono ?_
      rintro e w3 ⟨rfl, hk⟩
      go_wp2_with fail
      go_ret
      exact ⟨rfl, fin _ _ _ _ _ _ hk⟩
  · have h2 : (H == H2) = false := by simpa using h1
    clear hne
    cases less
    all_goals
      go_enter Try.func5, Try.ntmps5
      go_wp2_with fail
      refine (unhide T1 _).mono ?_
      rintro e w1 ⟨rfl, c1, rfl⟩
      go_wp2_with fail
      refine (unhide T2 _).mono ?_
      rintro e w2 ⟨rfl, c2, rfl⟩
      go_wp2_with fail
      refine (unhide B _).mono ?_
      rintro e w3 ⟨rfl, hk⟩
      go_wp2_with fail
      go_ret
      exact ⟨rfl, fin _ _ _ _ _ _ hk⟩
theorem halves_inj {x y : Int} (h1 : hiOf x = hiOf y) (h2 : loOf x = loOf y) : x = y := by unfold hiOf loOf at *; omega
theorem halves_lt {x y : Int} (h1 : ¬ hiOf x = hiOf y) : hiOf x < hiOf y ↔ x < y := by unfold hiOf at *; omega
theorem halves_lt2 {x y : Int} (h1 : hiOf x = hiOf y) : loOf x < loOf y ↔ x < y := by unfold hiOf loOf at *; omega
theorem compare_any (a b c d : Int) (w : World) (h1 : -9223372036854775808 ≤ a) (h2 : a ≤ 9223372036854775807) (h3 : -9223372036854775808 ≤ b) (h4 : b ≤ 9223372036854775807)
    (k1 : -9223372036854775808 ≤ c) (k2 : c ≤ 9223372036854775807) (k3 : -9223372036854775808 ≤ d) (k4 : d ≤ 9223372036854775807) :
    Calls Try.prog 5 #[.int .i64 a, .int .i64 b, .int .i64 c, .int .i64 d] w fun e w' => e = .returned (.int .i64 (cm (a * b) (c * d))) ∧ Keep w w' := by
  have T1 : Hid (∀ w, _) := fun w => times_any a b w h1 h2 h3 h4
  have T2 : Hid (∀ w, _) := fun w => times_any c d w k1 k2 k3 k4
  by_cases he : a * b = c * d
  · rw [show cm (a * b) (c * d) = 0 by simp [cm, he]]
    rw [he] at T1
    exact compare_eq a b c d _ _ w T1 T2
  · have key : Hid (∀ w, Calls Try.prog 15 #[.agg #[.int .i64 (hiOf (a * b)), .int .u64 (loOf (a * b))], .agg #[.int .i64 (hiOf (c * d)), .int .u64 (loOf (c * d))]] w fun e w' => e = .returned (.bool (decide (a * b < c * d))) ∧ Keep w w') := by
      intro w
      by_cases hh : hiOf (a * b) = hiOf (c * d)
      · rw [hh]
        exact below_eq _ _ _ w _ (decide_eq_decide.2 (halves_lt2 hh))
      · exact below_lt _ _ _ _ w (by simpa using hh) _ (decide_eq_decide.2 (halves_lt hh))
    have hr := compare_ne a b c d _ _ _ _ _ w (by
      by_cases hh : hiOf (a * b) = hiOf (c * d)
      · have : ¬ loOf (a * b) = loOf (c * d) := fun hl => he (halves_inj hh hl)
        simp [this]
      · simp [hh]) T1 T2 key
    rw [show cm (a * b) (c * d) = if decide (a * b < c * d) = true then -1 else 1 by simp [cm, he]]
    exact hr
end Go.Proofs.Ytaebjfdadiegjab
