/- The document's answer for scaled products, divisors and multiples. -/
import Derived.Test.YtaebjfdadiegjaaRefE
namespace Go.Proofs.Ytaebjfdadiegjaa
open Go.RowKit
set_option linter.unusedVariables false

/-! ### divisors -/
set_option maxHeartbeats 1000000 in
theorem rgcd_loop (x y G : Nat) (w : World) (hx : x ≤ 9223372036854775808) (hy : y ≤ 9223372036854775808) (HG : Hid (Nat.gcd x y = G)) :
    Calls Try.prog 45 #[.int .u64 (x : Int), .int .u64 (y : Int)] w fun e w' => e = .returned (.int .u64 (G : Int)) ∧ w' = w := by
  go_enter Try.func45, Try.ntmps45
  go_wp2_with fail
  go_loop [0, 1] (fun p q => ∃ u v : Nat, p = .int .u64 (u : Int) ∧ q = .int .u64 (v : Int) ∧ u ≤ 9223372036854775808 ∧ v ≤ 9223372036854775808 ∧ Hid (Nat.gcd u v = G)) (fun _ q => (intOf q).toNat)
  case atStart => exact ⟨x, y, rfl, rfl, hx, hy, HG⟩
  case round =>
    obtain ⟨u, v, rfl, rfl, hu, hv, Hg⟩ := hrel
    by_cases hz : v = 0
    · subst hz
      have e0 : u = G := by have := unhide Hg; simpa using this
      have E0 := hide e0
      clear e0
      go_wp2
      go_ret
      exact ⟨one_ret (by rw [unhide E0]), rfl⟩
    · have hb : ((v : Int) == 0) = false := by simp; omega
      have hb2 : ((v : Int) != 0) = true := by simp; omega
      have hm : u % v < v := Nat.mod_lt _ (by omega)
      have Hg2 : Hid (Nat.gcd v (u % v) = G) := by
        refine hide ?_
        rw [← unhide Hg, Nat.gcd_comm u v]
        exact (Nat.gcd_rec v u).symm ▸ (by rw [Nat.gcd_comm])
      go_wp2
      go_round
      case rel => exact ⟨v, u % v, rfl, by go_num, by omega, by omega, Hg2⟩
      case measure => simp [intOf]; omega
set_option maxHeartbeats 400000 in
theorem rgcd_any (a b : Int) (w : World) (h1 : -9223372036854775808 ≤ a) (h2 : a ≤ 9223372036854775807) (h3 : -9223372036854775808 ≤ b) (h4 : b ≤ 9223372036854775807) :
    Calls Try.prog 27 #[.int .i64 a, .int .i64 b] w fun e w' => e = .returned (.tuple #[.int .i64 (ans (Int.gcd a b : Int)), .int .i64 (err (Int.gcd a b : Int))]) ∧ Keep w w' := by
  have SA : Hid (∀ w, _) := fun w => rsize_any a w h1 h2
  have SB : Hid (∀ w, _) := fun w => rsize_any b w h3 h4
  have GC : Hid (∀ w, _) := fun w => rgcd_loop a.natAbs b.natAbs (Int.gcd a b) w (by omega) (by omega) (hide rfl)
  have hle : Int.gcd a b ≤ 9223372036854775808 := by
    by_cases ha : a = 0
    · subst ha; simp [Int.gcd]; omega
    · have : Int.gcd a b ≤ a.natAbs := Nat.gcd_le_left _ (by omega)
      omega
  have SI : Hid (∀ w, _) := fun w => signed_any (Int.gcd a b : Int) false w (by omega) (by omega)
  rw [show sg (Int.gcd a b : Int) false = (Int.gcd a b : Int) by simp [sg]] at SI
  generalize (Int.gcd a b : Int) = g at *
  generalize (a.natAbs : Int) = u at *
  generalize (b.natAbs : Int) = v at *
  go_enter Try.func27, Try.ntmps27
  go_wp2_with fail
  refine (unhide SA _).mono ?_
  rintro e w1 ⟨rfl, rfl⟩
  go_wp2_with fail
  refine (unhide SB _).mono ?_
  rintro e w1 ⟨rfl, rfl⟩
  go_wp2_with fail
  refine (unhide GC _).mono ?_
  rintro e w1 ⟨rfl, rfl⟩
  go_wp2_with fail
  refine (unhide SI _).mono ?_
  rintro e w1 ⟨rfl, rfl⟩
  go_wp2_with fail
  go_ret2
  exact ⟨rfl, Keep.refl _⟩

/-! ### multiples -/
set_option maxHeartbeats 400000 in
theorem rlcm_zero (a b : Int) (w : World) (h : a = 0 ∨ b = 0) :
    Calls Try.prog 29 #[.int .i64 a, .int .i64 b] w fun e w' => e = .returned (.tuple #[.int .i64 0, .int .i64 0]) ∧ Keep w w' := by
  by_cases ha : a = 0
  · subst ha
    clear h
    go_enter Try.func29, Try.ntmps29
    go_wp2
    go_ret2
    exact ⟨rfl, Keep.refl _⟩
  · have hb : b = 0 := by omega
    subst hb
    have ha' : (a == 0) = false := by simp [ha]
    clear h
    go_enter Try.func29, Try.ntmps29
    go_wp2
    go_ret2
    exact ⟨rfl, Keep.refl _⟩
set_option maxHeartbeats 1000000 in
theorem rlcm_core (a b u v g t x c q : Int) (ok : Bool) (w : World) (ha : (a == 0) = false) (hb : (b == 0) = false) (hu0 : 0 ≤ u) (hu1 : u < 18446744073709551616) (hv0 : 0 ≤ v) (hv1 : v < 18446744073709551616) (hg : 1 ≤ g) (hg' : (g == 0) = false) (hg1 : g < 18446744073709551616) (e1 : u / g = t) (ht0 : 0 ≤ t) (ht1 : t < 18446744073709551616)
    (HQ1 : Hid (qm (t * v) 1 = q)) (HQ2 : Hid (decide (t * v / 1 < 18446744073709551616) = ok)) (hno : ok = false → x = 0 ∧ c = 2)
    (SA : Hid (∀ w, Calls Try.prog 37 #[.int .i64 a] w fun e w' => e = .returned (.int .u64 u) ∧ w' = w))
    (SB : Hid (∀ w, Calls Try.prog 37 #[.int .i64 b] w fun e w' => e = .returned (.int .u64 v) ∧ w' = w))
    (GC : Hid (∀ w, Calls Try.prog 45 #[.int .u64 u, .int .u64 v] w fun e w' => e = .returned (.int .u64 g) ∧ w' = w))
    (SI : Hid (ok = true → ∀ w, Calls Try.prog 38 #[.int .u64 q, .bool false] w fun e w' => e = .returned (.tuple #[.int .i64 x, .int .i64 c]) ∧ w' = w)) :
    Calls Try.prog 29 #[.int .i64 a, .int .i64 b] w fun e w' => e = .returned (.tuple #[.int .i64 x, .int .i64 c]) ∧ Keep w w' := by
  have HNO := hide hno
  clear hno
  cases ok
  · obtain ⟨rfl, rfl⟩ := unhide HNO rfl
    clear HNO
    go_enter Try.func29, Try.ntmps29
    go_wp2_with fail
    refine (unhide SA _).mono ?_
    rintro e w1 ⟨rfl, rfl⟩
    go_wp2_with fail
    refine (unhide SB _).mono ?_
    rintro e w1 ⟨rfl, rfl⟩
    go_wp2_with fail
    refine (unhide GC _).mono ?_
    rintro e w1 ⟨rfl, rfl⟩
    go_wp2_with fail
    refine (times_ref t v _ ht0 ht1 hv0 hv1).mono ?_
    rintro e w1 ⟨v1, l1, rfl, r1, d1, ⟨n0, n1, n2⟩, bb1⟩
    have QU := hide (quot_ref v1 l1 _ 1 w1 r1 d1 n0 (by omega) (by omega) (by omega))
    rw [n2] at QU
    clear r1 n2
    go_wp2_with fail
    refine (unhide QU).mono ?_
    rintro e w2 ⟨rfl, k2⟩
    rw [unhide HQ1, unhide HQ2]
    go_wp2_with fail
    go_ret2
    exact ⟨rfl, (show Keep _ w1 from bb1).trans k2⟩
  · have SI' := hide (unhide SI rfl)
    clear HNO SI
    go_enter Try.func29, Try.ntmps29
    go_wp2_with fail
    refine (unhide SA _).mono ?_
    rintro e w1 ⟨rfl, rfl⟩
    go_wp2_with fail
    refine (unhide SB _).mono ?_
    rintro e w1 ⟨rfl, rfl⟩
    go_wp2_with fail
    refine (unhide GC _).mono ?_
    rintro e w1 ⟨rfl, rfl⟩
    go_wp2_with fail
    refine (times_ref t v _ ht0 ht1 hv0 hv1).mono ?_
    rintro e w1 ⟨v1, l1, rfl, r1, d1, ⟨n0, n1, n2⟩, bb1⟩
    have QU := hide (quot_ref v1 l1 _ 1 w1 r1 d1 n0 (by omega) (by omega) (by omega))
    rw [n2] at QU
    clear r1 n2
    go_wp2_with fail
    refine (unhide QU).mono ?_
    rintro e w2 ⟨rfl, k2⟩
    rw [unhide HQ1, unhide HQ2]
    go_wp2_with fail
    refine (unhide SI' _).mono ?_
    rintro e w3 ⟨rfl, rfl⟩
    go_wp2_with fail
    go_ret2
    exact ⟨rfl, (show Keep _ w1 from bb1).trans k2⟩
theorem rlcm_num {a b : Int} (ha : a ≠ 0) : ((Int.lcm a b : Nat) : Int) = (a.natAbs : Int) / (Int.gcd a b : Int) * (b.natAbs : Int) := by
  have hd : (Int.gcd a b) ∣ a.natAbs := Nat.gcd_dvd_left _ _
  rw [← Int.natCast_ediv, ← Int.natCast_mul]
  congr 1
  unfold Int.lcm Nat.lcm
  rw [Nat.mul_comm a.natAbs, Nat.mul_comm (a.natAbs / Int.gcd a b)]
  exact Nat.mul_div_assoc _ hd
theorem rlcm_any (a b : Int) (w : World) (h1 : -9223372036854775808 ≤ a) (h2 : a ≤ 9223372036854775807) (h3 : -9223372036854775808 ≤ b) (h4 : b ≤ 9223372036854775807) :
    Calls Try.prog 29 #[.int .i64 a, .int .i64 b] w fun e w' => e = .returned (.tuple #[.int .i64 (ans (Int.lcm a b : Int)), .int .i64 (err (Int.lcm a b : Int))]) ∧ Keep w w' := by
  by_cases hz : a = 0 ∨ b = 0
  · have e : (Int.lcm a b : Int) = 0 := by rcases hz with rfl | rfl <;> simp [Int.lcm]
    rw [e, ans_yes (by omega) (by omega), err_yes (by omega) (by omega)]
    exact rlcm_zero a b w hz
  · have ha : (a == 0) = false := by simp; omega
    have hb : (b == 0) = false := by simp; omega
    have ba := size_bd h1 h2
    have bb := size_bd h3 h4
    have hg : 0 < Int.gcd a b := Nat.gcd_pos_of_pos_left _ (by omega)
    have hle : Int.gcd a b ≤ a.natAbs := Nat.gcd_le_left _ (by omega)
    have hg' : ((Int.gcd a b : Int) == 0) = false := by simp; omega
    have hn := rlcm_num (a := a) (b := b) (by omega)
    have ht0 : 0 ≤ (a.natAbs : Int) / (Int.gcd a b : Int) := Int.ediv_nonneg (by omega) (by omega)
    have ht1 : (a.natAbs : Int) / (Int.gcd a b : Int) ≤ (a.natAbs : Int) := Int.ediv_le_self _ (by omega)
    have GC : Hid (∀ w, _) := fun w => rgcd_loop a.natAbs b.natAbs (Int.gcd a b) w (by omega) (by omega) (hide rfl)
    rw [hn]
    have hp := Int.mul_nonneg ht0 bb.1
    by_cases hf : (a.natAbs : Int) / (Int.gcd a b : Int) * (b.natAbs : Int) < 18446744073709551616
    · have hq := qm_one hp hf
      refine rlcm_core a b _ _ _ _ _ _ _ true w ha hb ba.1 ba.2 bb.1 bb.2 (by omega) hg' (by omega) rfl ht0 (by omega) hq.1 hq.2 (by simp) (hide fun w => rsize_any a w h1 h2) (hide fun w => rsize_any b w h3 h4) GC (hide fun _ w => ?_)
      have hs := signed_any ((a.natAbs : Int) / (Int.gcd a b : Int) * (b.natAbs : Int)) false w hp hf
      rw [show sg ((a.natAbs : Int) / (Int.gcd a b : Int) * (b.natAbs : Int)) false = (a.natAbs : Int) / (Int.gcd a b : Int) * (b.natAbs : Int) by simp [sg]] at hs
      exact hs
    · have hq := qm_one_no hf
      rw [ans_no (by omega), err_no (by omega)]
      exact rlcm_core a b _ _ _ _ _ _ _ false w ha hb ba.1 ba.2 bb.1 bb.2 (by omega) hg' (by omega) rfl ht0 (by omega) (hide rfl) hq (fun _ => ⟨rfl, rfl⟩) (hide fun w => rsize_any a w h1 h2) (hide fun w => rsize_any b w h3 h4) GC (hide fun h => by simp at h)

/-! ### scaled products -/
set_option maxHeartbeats 400000 in
theorem rscale_arg (a b c : Int) (w : World) (k : c < 1) :
    Calls Try.prog 25 #[.int .i64 a, .int .i64 b, .int .i64 c] w fun e w' => e = .returned (.tuple #[.int .i64 0, .int .i64 1]) ∧ Keep w w' := by
  go_enter Try.func25, Try.ntmps25
  go_wp2
  go_ret2
  exact ⟨rfl, Keep.refl _⟩
set_option maxHeartbeats 4000000 in
theorem rscale_none (a b c u v q : Int) (w : World) (h1 : -9223372036854775808 ≤ a) (h2 : a ≤ 9223372036854775807) (h3 : -9223372036854775808 ≤ b) (h4 : b ≤ 9223372036854775807) (hc : 1 ≤ c) (hc2 : c ≤ 9223372036854775807) (hu0 : 0 ≤ u) (hu1 : u < 18446744073709551616) (hv0 : 0 ≤ v) (hv1 : v < 18446744073709551616) (hq0 : 0 ≤ q) (hq1 : q < 18446744073709551616)
    (HQ1 : Hid (qm (u * v) c = q)) (HQ2 : Hid (decide (u * v / c < 18446744073709551616) = false))
    (SA : Hid (∀ w, Calls Try.prog 37 #[.int .i64 a] w fun e w' => e = .returned (.int .u64 u) ∧ w' = w))
    (SB : Hid (∀ w, Calls Try.prog 37 #[.int .i64 b] w fun e w' => e = .returned (.int .u64 v) ∧ w' = w)) :
    Calls Try.prog 25 #[.int .i64 a, .int .i64 b, .int .i64 c] w fun e w' => e = .returned (.tuple #[.int .i64 0, .int .i64 2]) ∧ Keep w w' := by
  rcases Int.lt_trichotomy a 0 with ha | ha | ha <;> rcases Int.lt_trichotomy b 0 with hb | hb | hb
  · have han : (a != 0) = true := by simp; omega
    have had : decide (a < 0) = true := by simp; omega
    have hbn : (b != 0) = true := by simp; omega
    have hbd : decide (b < 0) = true := by simp; omega
    go_enter Try.func25, Try.ntmps25
    go_wp2_with fail
    refine (unhide SA _).mono ?_
    rintro e w1 ⟨rfl, rfl⟩
    go_wp2_with fail
    refine (unhide SB _).mono ?_
    rintro e w1 ⟨rfl, rfl⟩
    go_wp2_with fail
    refine (times_ref u v _ hu0 hu1 hv0 hv1).mono ?_
    rintro e w1 ⟨v1, l1, rfl, r1, d1, ⟨n0, n1, n2⟩, bb1⟩
    have QU := hide (quot_ref v1 l1 _ c w1 r1 d1 n0 (by omega) hc (by omega))
    rw [n2] at QU
    have kb : Keep _ w1 := bb1
    clear r1 n2 bb1 d1
    go_wp2_with fail
    refine (unhide QU).mono ?_
    rintro e w2 ⟨rfl, k2⟩
    rw [unhide HQ1, unhide HQ2]
    go_wp2_with fail
    go_ret2
    exact ⟨rfl, kb.trans k2⟩
  · have han : (a != 0) = true := by simp; omega
    have had : decide (a < 0) = true := by simp; omega
    subst hb
    go_enter Try.func25, Try.ntmps25
    go_wp2_with fail
    refine (unhide SA _).mono ?_
    rintro e w1 ⟨rfl, rfl⟩
    go_wp2_with fail
    refine (unhide SB _).mono ?_
    rintro e w1 ⟨rfl, rfl⟩
    go_wp2_with fail
    refine (times_ref u v _ hu0 hu1 hv0 hv1).mono ?_
    rintro e w1 ⟨v1, l1, rfl, r1, d1, ⟨n0, n1, n2⟩, bb1⟩
    have QU := hide (quot_ref v1 l1 _ c w1 r1 d1 n0 (by omega) hc (by omega))
    rw [n2] at QU
    have kb : Keep _ w1 := bb1
    clear r1 n2 bb1 d1
    go_wp2_with fail
    refine (unhide QU).mono ?_
    rintro e w2 ⟨rfl, k2⟩
    rw [unhide HQ1, unhide HQ2]
    go_wp2_with fail
    go_ret2
    exact ⟨rfl, kb.trans k2⟩
  · have han : (a != 0) = true := by simp; omega
    have had : decide (a < 0) = true := by simp; omega
    have hbn : (b != 0) = true := by simp; omega
    have hbd : decide (b < 0) = false := by simp; omega
    go_enter Try.func25, Try.ntmps25
    go_wp2_with fail
    refine (unhide SA _).mono ?_
    rintro e w1 ⟨rfl, rfl⟩
    go_wp2_with fail
    refine (unhide SB _).mono ?_
    rintro e w1 ⟨rfl, rfl⟩
    go_wp2_with fail
    refine (times_ref u v _ hu0 hu1 hv0 hv1).mono ?_
    rintro e w1 ⟨v1, l1, rfl, r1, d1, ⟨n0, n1, n2⟩, bb1⟩
    have QU := hide (quot_ref v1 l1 _ c w1 r1 d1 n0 (by omega) hc (by omega))
    rw [n2] at QU
    have kb : Keep _ w1 := bb1
    clear r1 n2 bb1 d1
    go_wp2_with fail
    refine (unhide QU).mono ?_
    rintro e w2 ⟨rfl, k2⟩
    rw [unhide HQ1, unhide HQ2]
    go_wp2_with fail
    go_ret2
    exact ⟨rfl, kb.trans k2⟩
  · subst ha
    have hbn : (b != 0) = true := by simp; omega
    have hbd : decide (b < 0) = true := by simp; omega
    go_enter Try.func25, Try.ntmps25
    go_wp2_with fail
    refine (unhide SA _).mono ?_
    rintro e w1 ⟨rfl, rfl⟩
    go_wp2_with fail
    refine (unhide SB _).mono ?_
    rintro e w1 ⟨rfl, rfl⟩
    go_wp2_with fail
    refine (times_ref u v _ hu0 hu1 hv0 hv1).mono ?_
    rintro e w1 ⟨v1, l1, rfl, r1, d1, ⟨n0, n1, n2⟩, bb1⟩
    have QU := hide (quot_ref v1 l1 _ c w1 r1 d1 n0 (by omega) hc (by omega))
    rw [n2] at QU
    have kb : Keep _ w1 := bb1
    clear r1 n2 bb1 d1
    go_wp2_with fail
    refine (unhide QU).mono ?_
    rintro e w2 ⟨rfl, k2⟩
    rw [unhide HQ1, unhide HQ2]
    go_wp2_with fail
    go_ret2
    exact ⟨rfl, kb.trans k2⟩
  · subst ha
    subst hb
    go_enter Try.func25, Try.ntmps25
    go_wp2_with fail
    refine (unhide SA _).mono ?_
    rintro e w1 ⟨rfl, rfl⟩
    go_wp2_with fail
    refine (unhide SB _).mono ?_
    rintro e w1 ⟨rfl, rfl⟩
    go_wp2_with fail
    refine (times_ref u v _ hu0 hu1 hv0 hv1).mono ?_
    rintro e w1 ⟨v1, l1, rfl, r1, d1, ⟨n0, n1, n2⟩, bb1⟩
    have QU := hide (quot_ref v1 l1 _ c w1 r1 d1 n0 (by omega) hc (by omega))
    rw [n2] at QU
    have kb : Keep _ w1 := bb1
    clear r1 n2 bb1 d1
    go_wp2_with fail
    refine (unhide QU).mono ?_
    rintro e w2 ⟨rfl, k2⟩
    rw [unhide HQ1, unhide HQ2]
    go_wp2_with fail
    go_ret2
    exact ⟨rfl, kb.trans k2⟩
  · subst ha
    have hbn : (b != 0) = true := by simp; omega
    have hbd : decide (b < 0) = false := by simp; omega
    go_enter Try.func25, Try.ntmps25
    go_wp2_with fail
    refine (unhide SA _).mono ?_
    rintro e w1 ⟨rfl, rfl⟩
    go_wp2_with fail
    refine (unhide SB _).mono ?_
    rintro e w1 ⟨rfl, rfl⟩
    go_wp2_with fail
    refine (times_ref u v _ hu0 hu1 hv0 hv1).mono ?_
    rintro e w1 ⟨v1, l1, rfl, r1, d1, ⟨n0, n1, n2⟩, bb1⟩
    have QU := hide (quot_ref v1 l1 _ c w1 r1 d1 n0 (by omega) hc (by omega))
    rw [n2] at QU
    have kb : Keep _ w1 := bb1
    clear r1 n2 bb1 d1
    go_wp2_with fail
    refine (unhide QU).mono ?_
    rintro e w2 ⟨rfl, k2⟩
    rw [unhide HQ1, unhide HQ2]
    go_wp2_with fail
    go_ret2
    exact ⟨rfl, kb.trans k2⟩
  · have han : (a != 0) = true := by simp; omega
    have had : decide (a < 0) = false := by simp; omega
    have hbn : (b != 0) = true := by simp; omega
    have hbd : decide (b < 0) = true := by simp; omega
    go_enter Try.func25, Try.ntmps25
    go_wp2_with fail
    refine (unhide SA _).mono ?_
    rintro e w1 ⟨rfl, rfl⟩
    go_wp2_with fail
    refine (unhide SB _).mono ?_
    rintro e w1 ⟨rfl, rfl⟩
    go_wp2_with fail
    refine (times_ref u v _ hu0 hu1 hv0 hv1).mono ?_
    rintro e w1 ⟨v1, l1, rfl, r1, d1, ⟨n0, n1, n2⟩, bb1⟩
    have QU := hide (quot_ref v1 l1 _ c w1 r1 d1 n0 (by omega) hc (by omega))
    rw [n2] at QU
    have kb : Keep _ w1 := bb1
    clear r1 n2 bb1 d1
    go_wp2_with fail
    refine (unhide QU).mono ?_
    rintro e w2 ⟨rfl, k2⟩
    rw [unhide HQ1, unhide HQ2]
    go_wp2_with fail
    go_ret2
    exact ⟨rfl, kb.trans k2⟩
  · have han : (a != 0) = true := by simp; omega
    have had : decide (a < 0) = false := by simp; omega
    subst hb
    go_enter Try.func25, Try.ntmps25
    go_wp2_with fail
    refine (unhide SA _).mono ?_
    rintro e w1 ⟨rfl, rfl⟩
    go_wp2_with fail
    refine (unhide SB _).mono ?_
    rintro e w1 ⟨rfl, rfl⟩
    go_wp2_with fail
    refine (times_ref u v _ hu0 hu1 hv0 hv1).mono ?_
    rintro e w1 ⟨v1, l1, rfl, r1, d1, ⟨n0, n1, n2⟩, bb1⟩
    have QU := hide (quot_ref v1 l1 _ c w1 r1 d1 n0 (by omega) hc (by omega))
    rw [n2] at QU
    have kb : Keep _ w1 := bb1
    clear r1 n2 bb1 d1
    go_wp2_with fail
    refine (unhide QU).mono ?_
    rintro e w2 ⟨rfl, k2⟩
    rw [unhide HQ1, unhide HQ2]
    go_wp2_with fail
    go_ret2
    exact ⟨rfl, kb.trans k2⟩
  · have han : (a != 0) = true := by simp; omega
    have had : decide (a < 0) = false := by simp; omega
    have hbn : (b != 0) = true := by simp; omega
    have hbd : decide (b < 0) = false := by simp; omega
    go_enter Try.func25, Try.ntmps25
    go_wp2_with fail
    refine (unhide SA _).mono ?_
    rintro e w1 ⟨rfl, rfl⟩
    go_wp2_with fail
    refine (unhide SB _).mono ?_
    rintro e w1 ⟨rfl, rfl⟩
    go_wp2_with fail
    refine (times_ref u v _ hu0 hu1 hv0 hv1).mono ?_
    rintro e w1 ⟨v1, l1, rfl, r1, d1, ⟨n0, n1, n2⟩, bb1⟩
    have QU := hide (quot_ref v1 l1 _ c w1 r1 d1 n0 (by omega) hc (by omega))
    rw [n2] at QU
    have kb : Keep _ w1 := bb1
    clear r1 n2 bb1 d1
    go_wp2_with fail
    refine (unhide QU).mono ?_
    rintro e w2 ⟨rfl, k2⟩
    rw [unhide HQ1, unhide HQ2]
    go_wp2_with fail
    go_ret2
    exact ⟨rfl, kb.trans k2⟩
set_option maxHeartbeats 4000000 in
theorem rscale_up (a b c u v q : Int) (w : World) (h1 : -9223372036854775808 ≤ a) (h2 : a ≤ 9223372036854775807) (h3 : -9223372036854775808 ≤ b) (h4 : b ≤ 9223372036854775807) (hc : 1 ≤ c) (hc2 : c ≤ 9223372036854775807) (hu0 : 0 ≤ u) (hu1 : u < 18446744073709551616) (hv0 : 0 ≤ v) (hv1 : v < 18446744073709551616) (hq0 : 0 ≤ q) (hq1 : q < 18446744073709551616) (hbel : bel a b = false)
    (HQ1 : Hid (qm (u * v) c = q)) (HQ2 : Hid (decide (u * v / c < 18446744073709551616) = true)) (x c0 : Int)
    (SA : Hid (∀ w, Calls Try.prog 37 #[.int .i64 a] w fun e w' => e = .returned (.int .u64 u) ∧ w' = w))
    (SB : Hid (∀ w, Calls Try.prog 37 #[.int .i64 b] w fun e w' => e = .returned (.int .u64 v) ∧ w' = w))
    (SI : Hid (∀ w, Calls Try.prog 38 #[.int .u64 q, .bool false] w fun e w' => e = .returned (.tuple #[.int .i64 x, .int .i64 c0]) ∧ w' = w)) :
    Calls Try.prog 25 #[.int .i64 a, .int .i64 b, .int .i64 c] w fun e w' => e = .returned (.tuple #[.int .i64 x, .int .i64 c0]) ∧ Keep w w' := by
  rcases Int.lt_trichotomy a 0 with ha | ha | ha <;> rcases Int.lt_trichotomy b 0 with hb | hb | hb
  · have han : (a != 0) = true := by simp; omega
    have had : decide (a < 0) = true := by simp; omega
    have hbn : (b != 0) = true := by simp; omega
    have hbd : decide (b < 0) = true := by simp; omega
    clear hbel
    go_enter Try.func25, Try.ntmps25
    go_wp2_with fail
    refine (unhide SA _).mono ?_
    rintro e w1 ⟨rfl, rfl⟩
    go_wp2_with fail
    refine (unhide SB _).mono ?_
    rintro e w1 ⟨rfl, rfl⟩
    go_wp2_with fail
    refine (times_ref u v _ hu0 hu1 hv0 hv1).mono ?_
    rintro e w1 ⟨v1, l1, rfl, r1, d1, ⟨n0, n1, n2⟩, bb1⟩
    have QU := hide (quot_ref v1 l1 _ c w1 r1 d1 n0 (by omega) hc (by omega))
    rw [n2] at QU
    have kb : Keep _ w1 := bb1
    clear r1 n2 bb1 d1
    go_wp2_with fail
    refine (unhide QU).mono ?_
    rintro e w2 ⟨rfl, k2⟩
    rw [unhide HQ1, unhide HQ2]
    go_wp2_with fail
    refine (unhide SI _).mono ?_
    rintro e w3 ⟨rfl, rfl⟩
    go_wp2_with fail
    go_ret2
    exact ⟨rfl, kb.trans k2⟩
  · have han : (a != 0) = true := by simp; omega
    have had : decide (a < 0) = true := by simp; omega
    subst hb
    clear hbel
    go_enter Try.func25, Try.ntmps25
    go_wp2_with fail
    refine (unhide SA _).mono ?_
    rintro e w1 ⟨rfl, rfl⟩
    go_wp2_with fail
    refine (unhide SB _).mono ?_
    rintro e w1 ⟨rfl, rfl⟩
    go_wp2_with fail
    refine (times_ref u v _ hu0 hu1 hv0 hv1).mono ?_
    rintro e w1 ⟨v1, l1, rfl, r1, d1, ⟨n0, n1, n2⟩, bb1⟩
    have QU := hide (quot_ref v1 l1 _ c w1 r1 d1 n0 (by omega) hc (by omega))
    rw [n2] at QU
    have kb : Keep _ w1 := bb1
    clear r1 n2 bb1 d1
    go_wp2_with fail
    refine (unhide QU).mono ?_
    rintro e w2 ⟨rfl, k2⟩
    rw [unhide HQ1, unhide HQ2]
    go_wp2_with fail
    refine (unhide SI _).mono ?_
    rintro e w3 ⟨rfl, rfl⟩
    go_wp2_with fail
    go_ret2
    exact ⟨rfl, kb.trans k2⟩
  · exact absurd hbel (by rw [bel_np ha hb]; simp)
  · subst ha
    have hbn : (b != 0) = true := by simp; omega
    have hbd : decide (b < 0) = true := by simp; omega
    clear hbel
    go_enter Try.func25, Try.ntmps25
    go_wp2_with fail
    refine (unhide SA _).mono ?_
    rintro e w1 ⟨rfl, rfl⟩
    go_wp2_with fail
    refine (unhide SB _).mono ?_
    rintro e w1 ⟨rfl, rfl⟩
    go_wp2_with fail
    refine (times_ref u v _ hu0 hu1 hv0 hv1).mono ?_
    rintro e w1 ⟨v1, l1, rfl, r1, d1, ⟨n0, n1, n2⟩, bb1⟩
    have QU := hide (quot_ref v1 l1 _ c w1 r1 d1 n0 (by omega) hc (by omega))
    rw [n2] at QU
    have kb : Keep _ w1 := bb1
    clear r1 n2 bb1 d1
    go_wp2_with fail
    refine (unhide QU).mono ?_
    rintro e w2 ⟨rfl, k2⟩
    rw [unhide HQ1, unhide HQ2]
    go_wp2_with fail
    refine (unhide SI _).mono ?_
    rintro e w3 ⟨rfl, rfl⟩
    go_wp2_with fail
    go_ret2
    exact ⟨rfl, kb.trans k2⟩
  · subst ha
    subst hb
    clear hbel
    go_enter Try.func25, Try.ntmps25
    go_wp2_with fail
    refine (unhide SA _).mono ?_
    rintro e w1 ⟨rfl, rfl⟩
    go_wp2_with fail
    refine (unhide SB _).mono ?_
    rintro e w1 ⟨rfl, rfl⟩
    go_wp2_with fail
    refine (times_ref u v _ hu0 hu1 hv0 hv1).mono ?_
    rintro e w1 ⟨v1, l1, rfl, r1, d1, ⟨n0, n1, n2⟩, bb1⟩
    have QU := hide (quot_ref v1 l1 _ c w1 r1 d1 n0 (by omega) hc (by omega))
    rw [n2] at QU
    have kb : Keep _ w1 := bb1
    clear r1 n2 bb1 d1
    go_wp2_with fail
    refine (unhide QU).mono ?_
    rintro e w2 ⟨rfl, k2⟩
    rw [unhide HQ1, unhide HQ2]
    go_wp2_with fail
    refine (unhide SI _).mono ?_
    rintro e w3 ⟨rfl, rfl⟩
    go_wp2_with fail
    go_ret2
    exact ⟨rfl, kb.trans k2⟩
  · subst ha
    have hbn : (b != 0) = true := by simp; omega
    have hbd : decide (b < 0) = false := by simp; omega
    clear hbel
    go_enter Try.func25, Try.ntmps25
    go_wp2_with fail
    refine (unhide SA _).mono ?_
    rintro e w1 ⟨rfl, rfl⟩
    go_wp2_with fail
    refine (unhide SB _).mono ?_
    rintro e w1 ⟨rfl, rfl⟩
    go_wp2_with fail
    refine (times_ref u v _ hu0 hu1 hv0 hv1).mono ?_
    rintro e w1 ⟨v1, l1, rfl, r1, d1, ⟨n0, n1, n2⟩, bb1⟩
    have QU := hide (quot_ref v1 l1 _ c w1 r1 d1 n0 (by omega) hc (by omega))
    rw [n2] at QU
    have kb : Keep _ w1 := bb1
    clear r1 n2 bb1 d1
    go_wp2_with fail
    refine (unhide QU).mono ?_
    rintro e w2 ⟨rfl, k2⟩
    rw [unhide HQ1, unhide HQ2]
    go_wp2_with fail
    refine (unhide SI _).mono ?_
    rintro e w3 ⟨rfl, rfl⟩
    go_wp2_with fail
    go_ret2
    exact ⟨rfl, kb.trans k2⟩
  · exact absurd hbel (by rw [bel_pn ha hb]; simp)
  · have han : (a != 0) = true := by simp; omega
    have had : decide (a < 0) = false := by simp; omega
    subst hb
    clear hbel
    go_enter Try.func25, Try.ntmps25
    go_wp2_with fail
    refine (unhide SA _).mono ?_
    rintro e w1 ⟨rfl, rfl⟩
    go_wp2_with fail
    refine (unhide SB _).mono ?_
    rintro e w1 ⟨rfl, rfl⟩
    go_wp2_with fail
    refine (times_ref u v _ hu0 hu1 hv0 hv1).mono ?_
    rintro e w1 ⟨v1, l1, rfl, r1, d1, ⟨n0, n1, n2⟩, bb1⟩
    have QU := hide (quot_ref v1 l1 _ c w1 r1 d1 n0 (by omega) hc (by omega))
    rw [n2] at QU
    have kb : Keep _ w1 := bb1
    clear r1 n2 bb1 d1
    go_wp2_with fail
    refine (unhide QU).mono ?_
    rintro e w2 ⟨rfl, k2⟩
    rw [unhide HQ1, unhide HQ2]
    go_wp2_with fail
    refine (unhide SI _).mono ?_
    rintro e w3 ⟨rfl, rfl⟩
    go_wp2_with fail
    go_ret2
    exact ⟨rfl, kb.trans k2⟩
  · have han : (a != 0) = true := by simp; omega
    have had : decide (a < 0) = false := by simp; omega
    have hbn : (b != 0) = true := by simp; omega
    have hbd : decide (b < 0) = false := by simp; omega
    clear hbel
    go_enter Try.func25, Try.ntmps25
    go_wp2_with fail
    refine (unhide SA _).mono ?_
    rintro e w1 ⟨rfl, rfl⟩
    go_wp2_with fail
    refine (unhide SB _).mono ?_
    rintro e w1 ⟨rfl, rfl⟩
    go_wp2_with fail
    refine (times_ref u v _ hu0 hu1 hv0 hv1).mono ?_
    rintro e w1 ⟨v1, l1, rfl, r1, d1, ⟨n0, n1, n2⟩, bb1⟩
    have QU := hide (quot_ref v1 l1 _ c w1 r1 d1 n0 (by omega) hc (by omega))
    rw [n2] at QU
    have kb : Keep _ w1 := bb1
    clear r1 n2 bb1 d1
    go_wp2_with fail
    refine (unhide QU).mono ?_
    rintro e w2 ⟨rfl, k2⟩
    rw [unhide HQ1, unhide HQ2]
    go_wp2_with fail
    refine (unhide SI _).mono ?_
    rintro e w3 ⟨rfl, rfl⟩
    go_wp2_with fail
    go_ret2
    exact ⟨rfl, kb.trans k2⟩
set_option maxHeartbeats 4000000 in
theorem rscale_even (a b c u v q : Int) (w : World) (h1 : -9223372036854775808 ≤ a) (h2 : a ≤ 9223372036854775807) (h3 : -9223372036854775808 ≤ b) (h4 : b ≤ 9223372036854775807) (hc : 1 ≤ c) (hc2 : c ≤ 9223372036854775807) (hu0 : 0 ≤ u) (hu1 : u < 18446744073709551616) (hv0 : 0 ≤ v) (hv1 : v < 18446744073709551616) (hq0 : 0 ≤ q) (hq1 : q < 18446744073709551616) (hbel : bel a b = true)
    (HQ1 : Hid (qm (u * v) c = q)) (HQ2 : Hid (decide (u * v / c < 18446744073709551616) = true)) (HC : Hid (cm (q * c) (u * v) = 0)) (x c0 : Int)
    (SA : Hid (∀ w, Calls Try.prog 37 #[.int .i64 a] w fun e w' => e = .returned (.int .u64 u) ∧ w' = w))
    (SB : Hid (∀ w, Calls Try.prog 37 #[.int .i64 b] w fun e w' => e = .returned (.int .u64 v) ∧ w' = w))
    (SI : Hid (∀ w, Calls Try.prog 38 #[.int .u64 q, .bool true] w fun e w' => e = .returned (.tuple #[.int .i64 x, .int .i64 c0]) ∧ w' = w)) :
    Calls Try.prog 25 #[.int .i64 a, .int .i64 b, .int .i64 c] w fun e w' => e = .returned (.tuple #[.int .i64 x, .int .i64 c0]) ∧ Keep w w' := by
  rcases Int.lt_trichotomy a 0 with ha | ha | ha <;> rcases Int.lt_trichotomy b 0 with hb | hb | hb
  · exact absurd hbel (by rw [bel_nn ha hb]; simp)
  · exact absurd hbel (by subst hb; rw [bel_z2 _]; simp)
  · have han : (a != 0) = true := by simp; omega
    have had : decide (a < 0) = true := by simp; omega
    have hbn : (b != 0) = true := by simp; omega
    have hbd : decide (b < 0) = false := by simp; omega
    clear hbel
    go_enter Try.func25, Try.ntmps25
    go_wp2_with fail
    refine (unhide SA _).mono ?_
    rintro e w1 ⟨rfl, rfl⟩
    go_wp2_with fail
    refine (unhide SB _).mono ?_
    rintro e w1 ⟨rfl, rfl⟩
    go_wp2_with fail
    refine (times_ref u v _ hu0 hu1 hv0 hv1).mono ?_
    rintro e w1 ⟨v1, l1, rfl, r1, d1, ⟨n0, n1, n2⟩, bb1⟩
    have QU := hide (quot_ref v1 l1 _ c w1 r1 d1 n0 (by omega) hc (by omega))
    rw [n2] at QU
    have kb : Keep _ w1 := bb1
    have OR : Hid (∀ (w' : World) (vv : Value) (l : List Int) (B : Nat), Keep w1 w' → RowB B w' vv l → Dig l → 0 < l.length → l.length ≤ 100 → Calls Try.prog 43 #[vv, v1] w' fun e w'' => e = .returned (.int .i64 (cm (val l) (u * v))) ∧ w'' = w') := by
      intro w' vv l B hk hr hd hl0 hl
      have := order_any vv v1 l l1 B _ w' hr (r1.keep hk) hd d1 hl0 n0 hl (by omega)
      rw [n2] at this
      exact this
    clear r1 n2 bb1 d1
    go_wp2_with fail
    refine (unhide QU).mono ?_
    rintro e w2 ⟨rfl, k2⟩
    rw [unhide HQ1, unhide HQ2]
    go_wp2_with fail
    refine (times_ref q c _ hq0 hq1 (by omega) (by omega)).mono ?_
    rintro e w3 ⟨v3, l3, rfl, r3, d3, ⟨p0, p1, p2⟩, bb3⟩
    have kb3 : Keep w2 w3 := bb3
    have OR' := hide (unhide OR w3 v3 l3 _ (k2.trans kb3) r3 d3 p0 (by omega))
    rw [p2, unhide HC] at OR'
    clear r3 p2 bb3 d3 OR QU
    go_wp2_with fail
    refine (unhide OR').mono ?_
    rintro e w4 ⟨rfl, rfl⟩
    go_wp2_with fail
    refine (unhide SI _).mono ?_
    rintro e w5 ⟨rfl, rfl⟩
    go_wp2_with fail
    go_ret2
    exact ⟨rfl, (kb.trans k2).trans kb3⟩
  · exact absurd hbel (by subst ha; rw [bel_z1 _]; simp)
  · exact absurd hbel (by subst ha; rw [bel_z1 _]; simp)
  · exact absurd hbel (by subst ha; rw [bel_z1 _]; simp)
  · have han : (a != 0) = true := by simp; omega
    have had : decide (a < 0) = false := by simp; omega
    have hbn : (b != 0) = true := by simp; omega
    have hbd : decide (b < 0) = true := by simp; omega
    clear hbel
    go_enter Try.func25, Try.ntmps25
    go_wp2_with fail
    refine (unhide SA _).mono ?_
    rintro e w1 ⟨rfl, rfl⟩
    go_wp2_with fail
    refine (unhide SB _).mono ?_
    rintro e w1 ⟨rfl, rfl⟩
    go_wp2_with fail
    refine (times_ref u v _ hu0 hu1 hv0 hv1).mono ?_
    rintro e w1 ⟨v1, l1, rfl, r1, d1, ⟨n0, n1, n2⟩, bb1⟩
    have QU := hide (quot_ref v1 l1 _ c w1 r1 d1 n0 (by omega) hc (by omega))
    rw [n2] at QU
    have kb : Keep _ w1 := bb1
    have OR : Hid (∀ (w' : World) (vv : Value) (l : List Int) (B : Nat), Keep w1 w' → RowB B w' vv l → Dig l → 0 < l.length → l.length ≤ 100 → Calls Try.prog 43 #[vv, v1] w' fun e w'' => e = .returned (.int .i64 (cm (val l) (u * v))) ∧ w'' = w') := by
      intro w' vv l B hk hr hd hl0 hl
      have := order_any vv v1 l l1 B _ w' hr (r1.keep hk) hd d1 hl0 n0 hl (by omega)
      rw [n2] at this
      exact this
    clear r1 n2 bb1 d1
    go_wp2_with fail
    refine (unhide QU).mono ?_
    rintro e w2 ⟨rfl, k2⟩
    rw [unhide HQ1, unhide HQ2]
    go_wp2_with fail
    refine (times_ref q c _ hq0 hq1 (by omega) (by omega)).mono ?_
    rintro e w3 ⟨v3, l3, rfl, r3, d3, ⟨p0, p1, p2⟩, bb3⟩
    have kb3 : Keep w2 w3 := bb3
    have OR' := hide (unhide OR w3 v3 l3 _ (k2.trans kb3) r3 d3 p0 (by omega))
    rw [p2, unhide HC] at OR'
    clear r3 p2 bb3 d3 OR QU
    go_wp2_with fail
    refine (unhide OR').mono ?_
    rintro e w4 ⟨rfl, rfl⟩
    go_wp2_with fail
    refine (unhide SI _).mono ?_
    rintro e w5 ⟨rfl, rfl⟩
    go_wp2_with fail
    go_ret2
    exact ⟨rfl, (kb.trans k2).trans kb3⟩
  · exact absurd hbel (by subst hb; rw [bel_z2 _]; simp)
  · exact absurd hbel (by rw [bel_pp ha hb]; simp)
set_option maxHeartbeats 4000000 in
theorem rscale_odd (a b c u v q : Int) (w : World) (h1 : -9223372036854775808 ≤ a) (h2 : a ≤ 9223372036854775807) (h3 : -9223372036854775808 ≤ b) (h4 : b ≤ 9223372036854775807) (hc : 1 ≤ c) (hc2 : c ≤ 9223372036854775807) (hu0 : 0 ≤ u) (hu1 : u < 18446744073709551616) (hv0 : 0 ≤ v) (hv1 : v < 18446744073709551616) (hq0 : 0 ≤ q) (hq1 : q < 18446744073709551616) (hbel : bel a b = true) (cv : Int) (hcv : (cv == 0) = false) (hq2 : q < 18446744073709551615)
    (HQ1 : Hid (qm (u * v) c = q)) (HQ2 : Hid (decide (u * v / c < 18446744073709551616) = true)) (HC : Hid (cm (q * c) (u * v) = cv)) (x c0 : Int)
    (SA : Hid (∀ w, Calls Try.prog 37 #[.int .i64 a] w fun e w' => e = .returned (.int .u64 u) ∧ w' = w))
    (SB : Hid (∀ w, Calls Try.prog 37 #[.int .i64 b] w fun e w' => e = .returned (.int .u64 v) ∧ w' = w))
    (SI : Hid (∀ w, Calls Try.prog 38 #[.int .u64 (q + 1), .bool true] w fun e w' => e = .returned (.tuple #[.int .i64 x, .int .i64 c0]) ∧ w' = w)) :
    Calls Try.prog 25 #[.int .i64 a, .int .i64 b, .int .i64 c] w fun e w' => e = .returned (.tuple #[.int .i64 x, .int .i64 c0]) ∧ Keep w w' := by
  rcases Int.lt_trichotomy a 0 with ha | ha | ha <;> rcases Int.lt_trichotomy b 0 with hb | hb | hb
  · exact absurd hbel (by rw [bel_nn ha hb]; simp)
  · exact absurd hbel (by subst hb; rw [bel_z2 _]; simp)
  · have han : (a != 0) = true := by simp; omega
    have had : decide (a < 0) = true := by simp; omega
    have hbn : (b != 0) = true := by simp; omega
    have hbd : decide (b < 0) = false := by simp; omega
    clear hbel
    have hcv' : (cv != 0) = true := by simpa using hcv
    have hq3 : (q == 18446744073709551615) = false := by simp; omega
    go_enter Try.func25, Try.ntmps25
    go_wp2_with fail
    refine (unhide SA _).mono ?_
    rintro e w1 ⟨rfl, rfl⟩
    go_wp2_with fail
    refine (unhide SB _).mono ?_
    rintro e w1 ⟨rfl, rfl⟩
    go_wp2_with fail
    refine (times_ref u v _ hu0 hu1 hv0 hv1).mono ?_
    rintro e w1 ⟨v1, l1, rfl, r1, d1, ⟨n0, n1, n2⟩, bb1⟩
    have QU := hide (quot_ref v1 l1 _ c w1 r1 d1 n0 (by omega) hc (by omega))
    rw [n2] at QU
    have kb : Keep _ w1 := bb1
    have OR : Hid (∀ (w' : World) (vv : Value) (l : List Int) (B : Nat), Keep w1 w' → RowB B w' vv l → Dig l → 0 < l.length → l.length ≤ 100 → Calls Try.prog 43 #[vv, v1] w' fun e w'' => e = .returned (.int .i64 (cm (val l) (u * v))) ∧ w'' = w') := by
      intro w' vv l B hk hr hd hl0 hl
      have := order_any vv v1 l l1 B _ w' hr (r1.keep hk) hd d1 hl0 n0 hl (by omega)
      rw [n2] at this
      exact this
    clear r1 n2 bb1 d1
    go_wp2_with fail
    refine (unhide QU).mono ?_
    rintro e w2 ⟨rfl, k2⟩
    rw [unhide HQ1, unhide HQ2]
    go_wp2_with fail
    refine (times_ref q c _ hq0 hq1 (by omega) (by omega)).mono ?_
    rintro e w3 ⟨v3, l3, rfl, r3, d3, ⟨p0, p1, p2⟩, bb3⟩
    have kb3 : Keep w2 w3 := bb3
    have OR' := hide (unhide OR w3 v3 l3 _ (k2.trans kb3) r3 d3 p0 (by omega))
    rw [p2, unhide HC] at OR'
    clear r3 p2 bb3 d3 OR QU
    go_wp2_with fail
    refine (unhide OR').mono ?_
    rintro e w4 ⟨rfl, rfl⟩
    go_wp2_with fail
    refine (unhide SI _).mono ?_
    rintro e w5 ⟨rfl, rfl⟩
    go_wp2_with fail
    go_ret2
    exact ⟨rfl, (kb.trans k2).trans kb3⟩
  · exact absurd hbel (by subst ha; rw [bel_z1 _]; simp)
  · exact absurd hbel (by subst ha; rw [bel_z1 _]; simp)
  · exact absurd hbel (by subst ha; rw [bel_z1 _]; simp)
  · have han : (a != 0) = true := by simp; omega
    have had : decide (a < 0) = false := by simp; omega
    have hbn : (b != 0) = true := by simp; omega
    have hbd : decide (b < 0) = true := by simp; omega
    clear hbel
    have hcv' : (cv != 0) = true := by simpa using hcv
    have hq3 : (q == 18446744073709551615) = false := by simp; omega
    go_enter Try.func25, Try.ntmps25
    go_wp2_with fail
    refine (unhide SA _).mono ?_
    rintro e w1 ⟨rfl, rfl⟩
    go_wp2_with fail
    refine (unhide SB _).mono ?_
    rintro e w1 ⟨rfl, rfl⟩
    go_wp2_with fail
    refine (times_ref u v _ hu0 hu1 hv0 hv1).mono ?_
    rintro e w1 ⟨v1, l1, rfl, r1, d1, ⟨n0, n1, n2⟩, bb1⟩
    have QU := hide (quot_ref v1 l1 _ c w1 r1 d1 n0 (by omega) hc (by omega))
    rw [n2] at QU
    have kb : Keep _ w1 := bb1
    have OR : Hid (∀ (w' : World) (vv : Value) (l : List Int) (B : Nat), Keep w1 w' → RowB B w' vv l → Dig l → 0 < l.length → l.length ≤ 100 → Calls Try.prog 43 #[vv, v1] w' fun e w'' => e = .returned (.int .i64 (cm (val l) (u * v))) ∧ w'' = w') := by
      intro w' vv l B hk hr hd hl0 hl
      have := order_any vv v1 l l1 B _ w' hr (r1.keep hk) hd d1 hl0 n0 hl (by omega)
      rw [n2] at this
      exact this
    clear r1 n2 bb1 d1
    go_wp2_with fail
    refine (unhide QU).mono ?_
    rintro e w2 ⟨rfl, k2⟩
    rw [unhide HQ1, unhide HQ2]
    go_wp2_with fail
    refine (times_ref q c _ hq0 hq1 (by omega) (by omega)).mono ?_
    rintro e w3 ⟨v3, l3, rfl, r3, d3, ⟨p0, p1, p2⟩, bb3⟩
    have kb3 : Keep w2 w3 := bb3
    have OR' := hide (unhide OR w3 v3 l3 _ (k2.trans kb3) r3 d3 p0 (by omega))
    rw [p2, unhide HC] at OR'
    clear r3 p2 bb3 d3 OR QU
    go_wp2_with fail
    refine (unhide OR').mono ?_
    rintro e w4 ⟨rfl, rfl⟩
    go_wp2_with fail
    refine (unhide SI _).mono ?_
    rintro e w5 ⟨rfl, rfl⟩
    go_wp2_with fail
    go_ret2
    exact ⟨rfl, (kb.trans k2).trans kb3⟩
  · exact absurd hbel (by subst hb; rw [bel_z2 _]; simp)
  · exact absurd hbel (by rw [bel_pp ha hb]; simp)
set_option maxHeartbeats 4000000 in
theorem rscale_top (a b c u v q : Int) (w : World) (h1 : -9223372036854775808 ≤ a) (h2 : a ≤ 9223372036854775807) (h3 : -9223372036854775808 ≤ b) (h4 : b ≤ 9223372036854775807) (hc : 1 ≤ c) (hc2 : c ≤ 9223372036854775807) (hu0 : 0 ≤ u) (hu1 : u < 18446744073709551616) (hv0 : 0 ≤ v) (hv1 : v < 18446744073709551616) (hq0 : 0 ≤ q) (hq1 : q < 18446744073709551616) (hbel : bel a b = true) (cv : Int) (hcv : (cv == 0) = false) (hq3 : (q == 18446744073709551615) = true)
    (HQ1 : Hid (qm (u * v) c = q)) (HQ2 : Hid (decide (u * v / c < 18446744073709551616) = true)) (HC : Hid (cm (q * c) (u * v) = cv))
    (SA : Hid (∀ w, Calls Try.prog 37 #[.int .i64 a] w fun e w' => e = .returned (.int .u64 u) ∧ w' = w))
    (SB : Hid (∀ w, Calls Try.prog 37 #[.int .i64 b] w fun e w' => e = .returned (.int .u64 v) ∧ w' = w)) :
    Calls Try.prog 25 #[.int .i64 a, .int .i64 b, .int .i64 c] w fun e w' => e = .returned (.tuple #[.int .i64 0, .int .i64 2]) ∧ Keep w w' := by
  rcases Int.lt_trichotomy a 0 with ha | ha | ha <;> rcases Int.lt_trichotomy b 0 with hb | hb | hb
  · exact absurd hbel (by rw [bel_nn ha hb]; simp)
  · exact absurd hbel (by subst hb; rw [bel_z2 _]; simp)
  · have han : (a != 0) = true := by simp; omega
    have had : decide (a < 0) = true := by simp; omega
    have hbn : (b != 0) = true := by simp; omega
    have hbd : decide (b < 0) = false := by simp; omega
    clear hbel
    have hcv' : (cv != 0) = true := by simpa using hcv
    go_enter Try.func25, Try.ntmps25
    go_wp2_with fail
    refine (unhide SA _).mono ?_
    rintro e w1 ⟨rfl, rfl⟩
    go_wp2_with fail
    refine (unhide SB _).mono ?_
    rintro e w1 ⟨rfl, rfl⟩
    go_wp2_with fail
    refine (times_ref u v _ hu0 hu1 hv0 hv1).mono ?_
    rintro e w1 ⟨v1, l1, rfl, r1, d1, ⟨n0, n1, n2⟩, bb1⟩
    have QU := hide (quot_ref v1 l1 _ c w1 r1 d1 n0 (by omega) hc (by omega))
    rw [n2] at QU
    have kb : Keep _ w1 := bb1
    have OR : Hid (∀ (w' : World) (vv : Value) (l : List Int) (B : Nat), Keep w1 w' → RowB B w' vv l → Dig l → 0 < l.length → l.length ≤ 100 → Calls Try.prog 43 #[vv, v1] w' fun e w'' => e = .returned (.int .i64 (cm (val l) (u * v))) ∧ w'' = w') := by
      intro w' vv l B hk hr hd hl0 hl
      have := order_any vv v1 l l1 B _ w' hr (r1.keep hk) hd d1 hl0 n0 hl (by omega)
      rw [n2] at this
      exact this
    clear r1 n2 bb1 d1
    go_wp2_with fail
    refine (unhide QU).mono ?_
    rintro e w2 ⟨rfl, k2⟩
    rw [unhide HQ1, unhide HQ2]
    go_wp2_with fail
    refine (times_ref q c _ hq0 hq1 (by omega) (by omega)).mono ?_
    rintro e w3 ⟨v3, l3, rfl, r3, d3, ⟨p0, p1, p2⟩, bb3⟩
    have kb3 : Keep w2 w3 := bb3
    have OR' := hide (unhide OR w3 v3 l3 _ (k2.trans kb3) r3 d3 p0 (by omega))
    rw [p2, unhide HC] at OR'
    clear r3 p2 bb3 d3 OR QU
    go_wp2_with fail
    refine (unhide OR').mono ?_
    rintro e w4 ⟨rfl, rfl⟩
    go_wp2_with fail
    go_ret2
    exact ⟨rfl, (kb.trans k2).trans kb3⟩
  · exact absurd hbel (by subst ha; rw [bel_z1 _]; simp)
  · exact absurd hbel (by subst ha; rw [bel_z1 _]; simp)
  · exact absurd hbel (by subst ha; rw [bel_z1 _]; simp)
  · have han : (a != 0) = true := by simp; omega
    have had : decide (a < 0) = false := by simp; omega
    have hbn : (b != 0) = true := by simp; omega
    have hbd : decide (b < 0) = true := by simp; omega
    clear hbel
    have hcv' : (cv != 0) = true := by simpa using hcv
    go_enter Try.func25, Try.ntmps25
    go_wp2_with fail
    refine (unhide SA _).mono ?_
    rintro e w1 ⟨rfl, rfl⟩
    go_wp2_with fail
    refine (unhide SB _).mono ?_
    rintro e w1 ⟨rfl, rfl⟩
    go_wp2_with fail
    refine (times_ref u v _ hu0 hu1 hv0 hv1).mono ?_
    rintro e w1 ⟨v1, l1, rfl, r1, d1, ⟨n0, n1, n2⟩, bb1⟩
    have QU := hide (quot_ref v1 l1 _ c w1 r1 d1 n0 (by omega) hc (by omega))
    rw [n2] at QU
    have kb : Keep _ w1 := bb1
    have OR : Hid (∀ (w' : World) (vv : Value) (l : List Int) (B : Nat), Keep w1 w' → RowB B w' vv l → Dig l → 0 < l.length → l.length ≤ 100 → Calls Try.prog 43 #[vv, v1] w' fun e w'' => e = .returned (.int .i64 (cm (val l) (u * v))) ∧ w'' = w') := by
      intro w' vv l B hk hr hd hl0 hl
      have := order_any vv v1 l l1 B _ w' hr (r1.keep hk) hd d1 hl0 n0 hl (by omega)
      rw [n2] at this
      exact this
    clear r1 n2 bb1 d1
    go_wp2_with fail
    refine (unhide QU).mono ?_
    rintro e w2 ⟨rfl, k2⟩
    rw [unhide HQ1, unhide HQ2]
    go_wp2_with fail
    refine (times_ref q c _ hq0 hq1 (by omega) (by omega)).mono ?_
    rintro e w3 ⟨v3, l3, rfl, r3, d3, ⟨p0, p1, p2⟩, bb3⟩
    have kb3 : Keep w2 w3 := bb3
    have OR' := hide (unhide OR w3 v3 l3 _ (k2.trans kb3) r3 d3 p0 (by omega))
    rw [p2, unhide HC] at OR'
    clear r3 p2 bb3 d3 OR QU
    go_wp2_with fail
    refine (unhide OR').mono ?_
    rintro e w4 ⟨rfl, rfl⟩
    go_wp2_with fail
    go_ret2
    exact ⟨rfl, (kb.trans k2).trans kb3⟩
  · exact absurd hbel (by subst hb; rw [bel_z2 _]; simp)
  · exact absurd hbel (by rw [bel_pp ha hb]; simp)
theorem rscale_any (a b c : Int) (w : World) (h1 : -9223372036854775808 ≤ a) (h2 : a ≤ 9223372036854775807) (h3 : -9223372036854775808 ≤ b) (h4 : b ≤ 9223372036854775807) (hc : 1 ≤ c) (hc2 : c ≤ 9223372036854775807) :
    Calls Try.prog 25 #[.int .i64 a, .int .i64 b, .int .i64 c] w fun e w' => e = .returned (.tuple #[.int .i64 (ans (a * b / c)), .int .i64 (err (a * b / c))]) ∧ Keep w w' := by
  have ba := size_bd h1 h2
  have bb := size_bd h3 h4
  have SA : Hid (∀ w, _) := fun w => rsize_any a w h1 h2
  have SB : Hid (∀ w, _) := fun w => rsize_any b w h3 h4
  have hp := Int.mul_nonneg ba.1 bb.1
  have hqb := qm_bd hp hc
  have hsz := sizes_mul a b
  have hq0 : 0 ≤ (a.natAbs : Int) * (b.natAbs : Int) / c := Int.ediv_nonneg hp (by omega)
  by_cases hf : (a.natAbs : Int) * (b.natAbs : Int) / c < 18446744073709551616
  · have hq : qm ((a.natAbs : Int) * (b.natAbs : Int)) c = (a.natAbs : Int) * (b.natAbs : Int) / c := by unfold qm; rw [if_pos hf]
    have HQ2 := hide (decide_eq_true hf)
    have hd := Int.emod_add_mul_ediv ((a.natAbs : Int) * (b.natAbs : Int)) c
    by_cases hbel : bel a b = true
    · have hneg : a * b = -((a.natAbs : Int) * (b.natAbs : Int)) := by
        rw [hsz]
        have : a * b < 0 := by simpa [bel] using hbel
        omega
      by_cases hm : (a.natAbs : Int) * (b.natAbs : Int) % c = 0
      · have hdiv : a * b / c = -((a.natAbs : Int) * (b.natAbs : Int) / c) := by rw [hneg]; exact ediv_up (by omega) hm
        have hcm : cm ((a.natAbs : Int) * (b.natAbs : Int) / c * c) ((a.natAbs : Int) * (b.natAbs : Int)) = 0 := by
          have : (a.natAbs : Int) * (b.natAbs : Int) / c * c = (a.natAbs : Int) * (b.natAbs : Int) := by rw [Int.mul_comm]; omega
          simp [cm, this]
        refine rscale_even a b c _ _ _ w h1 h2 h3 h4 hc hc2 ba.1 ba.2 bb.1 bb.2 hq0 hf hbel hq HQ2 hcm _ _ SA SB (hide fun w => ?_)
        have hs := signed_any ((a.natAbs : Int) * (b.natAbs : Int) / c) true w hq0 hf
        rw [show sg ((a.natAbs : Int) * (b.natAbs : Int) / c) true = a * b / c by rw [hdiv]; simp [sg]] at hs
        exact hs
      · have hdiv : a * b / c = -((a.natAbs : Int) * (b.natAbs : Int) / c) - 1 := by rw [hneg]; exact ediv_up' (by omega) hm
        have hne : (a.natAbs : Int) * (b.natAbs : Int) / c * c ≠ (a.natAbs : Int) * (b.natAbs : Int) := by rw [Int.mul_comm]; omega
        have hcm : (cm ((a.natAbs : Int) * (b.natAbs : Int) / c * c) ((a.natAbs : Int) * (b.natAbs : Int)) == 0) = false := by
          unfold cm
          rw [if_neg hne]
          split <;> rfl
        by_cases htop : (a.natAbs : Int) * (b.natAbs : Int) / c = 18446744073709551615
        · rw [ans_no (by omega), err_no (by omega)]
          exact rscale_top a b c _ _ _ w h1 h2 h3 h4 hc hc2 ba.1 ba.2 bb.1 bb.2 hq0 hf hbel _ hcm (by simp [htop]) hq HQ2 (hide rfl) SA SB
        · refine rscale_odd a b c _ _ _ w h1 h2 h3 h4 hc hc2 ba.1 ba.2 bb.1 bb.2 hq0 hf hbel _ hcm (by omega) hq HQ2 (hide rfl) _ _ SA SB (hide fun w => ?_)
          have hs := signed_any ((a.natAbs : Int) * (b.natAbs : Int) / c + 1) true w (by omega) (by omega)
          rw [show sg ((a.natAbs : Int) * (b.natAbs : Int) / c + 1) true = a * b / c by rw [hdiv]; simp [sg]; omega] at hs
          exact hs
    · have hbel' : bel a b = false := by simpa using hbel
      have hpos : a * b = (a.natAbs : Int) * (b.natAbs : Int) := by
        rw [hsz]
        have : ¬ a * b < 0 := by simpa [bel] using hbel'
        omega
      refine rscale_up a b c _ _ _ w h1 h2 h3 h4 hc hc2 ba.1 ba.2 bb.1 bb.2 hq0 hf hbel' hq HQ2 _ _ SA SB (hide fun w => ?_)
      have hs := signed_any ((a.natAbs : Int) * (b.natAbs : Int) / c) false w hq0 hf
      rw [show sg ((a.natAbs : Int) * (b.natAbs : Int) / c) false = a * b / c by rw [hpos]; simp [sg]] at hs
      exact hs
  · have HQ2 := hide (decide_eq_false hf)
    have hno : a * b / c < -9223372036854775808 ∨ 9223372036854775807 < a * b / c := by
      by_cases h : a * b < 0
      · have hneg : a * b = -((a.natAbs : Int) * (b.natAbs : Int)) := by rw [hsz]; omega
        by_cases hm : (a.natAbs : Int) * (b.natAbs : Int) % c = 0
        · rw [hneg, ediv_up (by omega) hm]; omega
        · rw [hneg, ediv_up' (by omega) hm]; omega
      · have hpos : a * b = (a.natAbs : Int) * (b.natAbs : Int) := by rw [hsz]; omega
        rw [hpos]; omega
    rw [ans_no hno, err_no hno]
    exact rscale_none a b c _ _ _ w h1 h2 h3 h4 hc hc2 ba.1 ba.2 bb.1 bb.2 hqb.1 hqb.2 (hide rfl) HQ2 SA SB
end Go.Proofs.Ytaebjfdadiegjaa
