/- The document's answer for scaled products, divisors and multiples. -/
import Derived.Test.YtnegcifbbbmlnaaDoorRefE
namespace Go.Proofs.YtnegcifbbbmlnaaDoor
open Go.RowKit
set_option linter.unusedVariables false

/-! ### divisors -/
theorem rlcm_num {a b : Int} (ha : a ≠ 0) : ((Int.lcm a b : Nat) : Int) = (a.natAbs : Int) / (Int.gcd a b : Int) * (b.natAbs : Int) := by
  have hd : (Int.gcd a b) ∣ a.natAbs := Nat.gcd_dvd_left _ _
  rw [← Int.natCast_ediv, ← Int.natCast_mul]
  congr 1
  unfold Int.lcm Nat.lcm
  rw [Nat.mul_comm a.natAbs, Nat.mul_comm (a.natAbs / Int.gcd a b)]
  exact Nat.mul_div_assoc _ hd
set_option maxHeartbeats 400000 in
theorem rscale_arg (a b c : Int) (w : World) (k : c < 1) :
    Calls Tryd.prog 28 #[.int .i64 a, .int .i64 b, .int .i64 c] w fun e w' => e = .returned (.tuple #[.int .i64 0, .int .i64 1]) ∧ Keep w w' := by
  go_enter Tryd.func28, Tryd.ntmps28
  go_wp2
  go_ret2
  exact ⟨rfl, Keep.refl _⟩
set_option maxHeartbeats 4000000 in
theorem rscale_none (a b c u v q : Int) (w : World) (h1 : -9223372036854775808 ≤ a) (h2 : a ≤ 9223372036854775807) (h3 : -9223372036854775808 ≤ b) (h4 : b ≤ 9223372036854775807) (hc : 1 ≤ c) (hc2 : c ≤ 9223372036854775807) (hu0 : 0 ≤ u) (hu1 : u < 18446744073709551616) (hv0 : 0 ≤ v) (hv1 : v < 18446744073709551616) (hq0 : 0 ≤ q) (hq1 : q < 18446744073709551616)
    (HQ1 : Hid (qm (u * v) c = q)) (HQ2 : Hid (decide (u * v / c < 18446744073709551616) = false))
    (SA : Hid (∀ w, Calls Tryd.prog 40 #[.int .i64 a] w fun e w' => e = .returned (.int .u64 u) ∧ w' = w))
    (SB : Hid (∀ w, Calls Tryd.prog 40 #[.int .i64 b] w fun e w' => e = .returned (.int .u64 v) ∧ w' = w)) :
    Calls Tryd.prog 28 #[.int .i64 a, .int .i64 b, .int .i64 c] w fun e w' => e = .returned (.tuple #[.int .i64 0, .int .i64 2]) ∧ Keep w w' := by
  rcases Int.lt_trichotomy a 0 with ha | ha | ha <;> rcases Int.lt_trichotomy b 0 with hb | hb | hb
  · have han : (a != 0) = true := by simp; omega
    have had : decide (a < 0) = true := by simp; omega
    have hbn : (b != 0) = true := by simp; omega
    have hbd : decide (b < 0) = true := by simp; omega
    go_enter Tryd.func28, Tryd.ntmps28
    go_wp2_with fail
    refine (unhide SA _).mono ?_
    rintro e w1 ⟨rfl, rfl⟩
    go_wp2_with fail
    refine (unhide SB _).mono ?_
    rintro e w1 ⟨rfl, rfl⟩
    go_wp2_with fail
    refine (times_ref u v _ hu0 hu1 hv0 hv1).mono ?_
    rintro e w1 ⟨v1, l1, rfl, r1, d1, ⟨n0, n1, n2⟩, bb1⟩
    have QU := hide (quot_ref v1 l1 _ c w1 r1 d1 n0 (by omega) hc (by omega))
    rw [n2] at QU
    have kb : Keep _ w1 := bb1
    clear r1 n2 bb1 d1
    go_wp2_with fail
    refine (unhide QU).mono ?_
    rintro e w2 ⟨rfl, k2⟩
    rw [unhide HQ1, unhide HQ2]
    go_wp2_with fail
    go_ret2
    exact ⟨rfl, kb.trans k2⟩
  · have han : (a != 0) = true := by simp; omega
    have had : decide (a < 0) = true := by simp; omega
    subst hb
    go_enter Tryd.func28, Tryd.ntmps28
    go_wp2_with fail
    refine (unhide SA _).mono ?_
    rintro e w1 ⟨rfl, rfl⟩
    go_wp2_with fail
    refine (unhide SB _).mono ?_
    rintro e w1 ⟨rfl, rfl⟩
    go_wp2_with fail
    refine (times_ref u v _ hu0 hu1 hv0 hv1).mono ?_
    rintro e w1 ⟨v1, l1, rfl, r1, d1, ⟨n0, n1, n2⟩, bb1⟩
    have QU := hide (quot_ref v1 l1 _ c w1 r1 d1 n0 (by omega) hc (by omega))
    rw [n2] at QU
    have kb : Keep _ w1 := bb1
    clear r1 n2 bb1 d1
    go_wp2_with fail
    refine (unhide QU).mono ?_
    rintro e w2 ⟨rfl, k2⟩
    rw [unhide HQ1, unhide HQ2]
    go_wp2_with fail
    go_ret2
    exact ⟨rfl, kb.trans k2⟩
  · have han : (a != 0) = true := by simp; omega
    have had : decide (a < 0) = true := by simp; omega
    have hbn : (b != 0) = true := by simp; omega
    have hbd : decide (b < 0) = false := by simp; omega
    go_enter Tryd.func28, Tryd.ntmps28
    go_wp2_with fail
    refine (unhide SA _).mono ?_
    rintro e w1 ⟨rfl, rfl⟩
    go_wp2_with fail
    refine (unhide SB _).mono ?_
    rintro e w1 ⟨rfl, rfl⟩
    go_wp2_with fail
    refine (times_ref u v _ hu0 hu1 hv0 hv1).mono ?_
    rintro e w1 ⟨v1, l1, rfl, r1, d1, ⟨n0, n1, n2⟩, bb1⟩
    have QU := hide (quot_ref v1 l1 _ c w1 r1 d1 n0 (by omega) hc (by omega))
    rw [n2] at QU
    have kb : Keep _ w1 := bb1
    clear r1 n2 bb1 d1
    go_wp2_with fail
    refine (unhide QU).mono ?_
    rintro e w2 ⟨rfl, k2⟩
    rw [unhide HQ1, unhide HQ2]
    go_wp2_with fail
    go_ret2
    exact ⟨rfl, kb.trans k2⟩
  · subst ha
    have hbn : (b != 0) = true := by simp; omega
    have hbd : decide (b < 0) = true := by simp; omega
    go_enter Tryd.func28, Tryd.ntmps28
    go_wp2_with fail
    refine (unhide SA _).mono ?_
    rintro e w1 ⟨rfl, rfl⟩
    go_wp2_with fail
    refine (unhide SB _).mono ?_
    rintro e w1 ⟨rfl, rfl⟩
    go_wp2_with fail
    refine (times_ref u v _ hu0 hu1 hv0 hv1).mono ?_
    rintro e w1 ⟨v1, l1, rfl, r1, d1, ⟨n0, n1, n2⟩, bb1⟩
    have QU := hide (quot_ref v1 l1 _ c w1 r1 d1 n0 (by omega) hc (by omega))
    rw [n2] at QU
    have kb : Keep _ w1 := bb1
    clear r1 n2 bb1 d1
    go_wp2_with fail
    refine (unhide QU).mono ?_
    rintro e w2 ⟨rfl, k2⟩
    rw [unhide HQ1, unhide HQ2]
    go_wp2_with fail
    go_ret2
    exact ⟨rfl, kb.trans k2⟩
  · subst ha
    subst hb
    go_enter Tryd.func28, Tryd.ntmps28
    go_wp2_with fail
    refine (unhide SA _).mono ?_
    rintro e w1 ⟨rfl, rfl⟩
    go_wp2_with fail
    refine (unhide SB _).mono ?_
    rintro e w1 ⟨rfl, rfl⟩
    go_wp2_with fail
    refine (times_ref u v _ hu0 hu1 hv0 hv1).mono ?_
    rintro e w1 ⟨v1, l1, rfl, r1, d1, ⟨n0, n1, n2⟩, bb1⟩
    have QU := hide (quot_ref v1 l1 _ c w1 r1 d1 n0 (by omega) hc (by omega))
    rw [n2] at QU
    have kb : Keep _ w1 := bb1
    clear r1 n2 bb1 d1
    go_wp2_with fail
    refine (unhide QU).mono ?_
    rintro e w2 ⟨rfl, k2⟩
    rw [unhide HQ1, unhide HQ2]
    go_wp2_with fail
    go_ret2
    exact ⟨rfl, kb.trans k2⟩
  · subst ha
    have hbn : (b != 0) = true := by simp; omega
    have hbd : decide (b < 0) = false := by simp; omega
    go_enter Tryd.func28, Tryd.ntmps28
    go_wp2_with fail
    refine (unhide SA _).mono ?_
    rintro e w1 ⟨rfl, rfl⟩
    go_wp2_with fail
    refine (unhide SB _).mono ?_
    rintro e w1 ⟨rfl, rfl⟩
    go_wp2_with fail
    refine (times_ref u v _ hu0 hu1 hv0 hv1).mono ?_
    rintro e w1 ⟨v1, l1, rfl, r1, d1, ⟨n0, n1, n2⟩, bb1⟩
    have QU := hide (quot_ref v1 l1 _ c w1 r1 d1 n0 (by omega) hc (by omega))
    rw [n2] at QU
    have kb : Keep _ w1 := bb1
    clear r1 n2 bb1 d1
    go_wp2_with fail
    refine (unhide QU).mono ?_
    rintro e w2 ⟨rfl, k2⟩
    rw [unhide HQ1, unhide HQ2]
    go_wp2_with fail
    go_ret2
    exact ⟨rfl, kb.trans k2⟩
  · have han : (a != 0) = true := by simp; omega
    have had : decide (a < 0) = false := by simp; omega
    have hbn : (b != 0) = true := by simp; omega
    have hbd : decide (b < 0) = true := by simp; omega
    go_enter Tryd.func28, Tryd.ntmps28
    go_wp2_with fail
    refine (unhide SA _).mono ?_
    rintro e w1 ⟨rfl, rfl⟩
    go_wp2_with fail
    refine (unhide SB _).mono ?_
    rintro e w1 ⟨rfl, rfl⟩
    go_wp2_with fail
    refine (times_ref u v _ hu0 hu1 hv0 hv1).mono ?_
    rintro e w1 ⟨v1, l1, rfl, r1, d1, ⟨n0, n1, n2⟩, bb1⟩
    have QU := hide (quot_ref v1 l1 _ c w1 r1 d1 n0 (by omega) hc (by omega))
    rw [n2] at QU
    have kb : Keep _ w1 := bb1
    clear r1 n2 bb1 d1
    go_wp2_with fail
    refine (unhide QU).mono ?_
    rintro e w2 ⟨rfl, k2⟩
    rw [unhide HQ1, unhide HQ2]
    go_wp2_with fail
    go_ret2
    exact ⟨rfl, kb.trans k2⟩
  · have han : (a != 0) = true := by simp; omega
    have had : decide (a < 0) = false := by simp; omega
    subst hb
    go_enter Tryd.func28, Tryd.ntmps28
    go_wp2_with fail
    refine (unhide SA _).mono ?_
    rintro e w1 ⟨rfl, rfl⟩
    go_wp2_with fail
    refine (unhide SB _).mono ?_
    rintro e w1 ⟨rfl, rfl⟩
    go_wp2_with fail
    refine (times_ref u v _ hu0 hu1 hv0 hv1).mono ?_
    rintro e w1 ⟨v1, l1, rfl, r1, d1, ⟨n0, n1, n2⟩, bb1⟩
    have QU := hide (quot_ref v1 l1 _ c w1 r1 d1 n0 (by omega) hc (by omega))
    rw [n2] at QU
    have kb : Keep _ w1 := bb1
    clear r1 n2 bb1 d1
    go_wp2_with fail
    refine (unhide QU).mono ?_
    rintro e w2 ⟨rfl, k2⟩
    rw [unhide HQ1, unhide HQ2]
    go_wp2_with fail
    go_ret2
    exact ⟨rfl, kb.trans k2⟩
  · have han : (a != 0) = true := by simp; omega
    have had : decide (a < 0) = false := by simp; omega
    have hbn : (b != 0) = true := by simp; omega
    have hbd : decide (b < 0) = false := by simp; omega
    go_enter Tryd.func28, Tryd.ntmps28
    go_wp2_with fail
    refine (unhide SA _).mono ?_
    rintro e w1 ⟨rfl, rfl⟩
    go_wp2_with fail
    refine (unhide SB _).mono ?_
    rintro e w1 ⟨rfl, rfl⟩
    go_wp2_with fail
    refine (times_ref u v _ hu0 hu1 hv0 hv1).mono ?_
    rintro e w1 ⟨v1, l1, rfl, r1, d1, ⟨n0, n1, n2⟩, bb1⟩
    have QU := hide (quot_ref v1 l1 _ c w1 r1 d1 n0 (by omega) hc (by omega))
    rw [n2] at QU
    have kb : Keep _ w1 := bb1
    clear r1 n2 bb1 d1
    go_wp2_with fail
    refine (unhide QU).mono ?_
    rintro e w2 ⟨rfl, k2⟩
    rw [unhide HQ1, unhide HQ2]
    go_wp2_with fail
    go_ret2
    exact ⟨rfl, kb.trans k2⟩
set_option maxHeartbeats 4000000 in
theorem rscale_up (a b c u v q : Int) (w : World) (h1 : -9223372036854775808 ≤ a) (h2 : a ≤ 9223372036854775807) (h3 : -9223372036854775808 ≤ b) (h4 : b ≤ 9223372036854775807) (hc : 1 ≤ c) (hc2 : c ≤ 9223372036854775807) (hu0 : 0 ≤ u) (hu1 : u < 18446744073709551616) (hv0 : 0 ≤ v) (hv1 : v < 18446744073709551616) (hq0 : 0 ≤ q) (hq1 : q < 18446744073709551616) (hbel : bel a b = false)
    (HQ1 : Hid (qm (u * v) c = q)) (HQ2 : Hid (decide (u * v / c < 18446744073709551616) = true)) (x c0 : Int)
    (SA : Hid (∀ w, Calls Tryd.prog 40 #[.int .i64 a] w fun e w' => e = .returned (.int .u64 u) ∧ w' = w))
    (SB : Hid (∀ w, Calls Tryd.prog 40 #[.int .i64 b] w fun e w' => e = .returned (.int .u64 v) ∧ w' = w))
    (SI : Hid (∀ w, Calls Tryd.prog 59 #[.int .u64 q, .bool false] w fun e w' => e = .returned (.tuple #[.int .i64 x, .int .i64 c0]) ∧ w' = w)) :
    Calls Tryd.prog 28 #[.int .i64 a, .int .i64 b, .int .i64 c] w fun e w' => e = .returned (.tuple #[.int .i64 x, .int .i64 c0]) ∧ Keep w w' := by
  rcases Int.lt_trichotomy a 0 with ha | ha | ha <;> rcases Int.lt_trichotomy b 0 with hb | hb | hb
  · have han : (a != 0) = true := by simp; omega
    have had : decide (a < 0) = true := by simp; omega
    have hbn : (b != 0) = true := by simp; omega
    have hbd : decide (b < 0) = true := by simp; omega
    clear hbel
    go_enter Tryd.func28, Tryd.ntmps28
    go_wp2_with fail
    refine (unhide SA _).mono ?_
    rintro e w1 ⟨rfl, rfl⟩
    go_wp2_with fail
    refine (unhide SB _).mono ?_
    rintro e w1 ⟨rfl, rfl⟩
    go_wp2_with fail
    refine (times_ref u v _ hu0 hu1 hv0 hv1).mono ?_
    rintro e w1 ⟨v1, l1, rfl, r1, d1, ⟨n0, n1, n2⟩, bb1⟩
    have QU := hide (quot_ref v1 l1 _ c w1 r1 d1 n0 (by omega) hc (by omega))
    rw [n2] at QU
    have kb : Keep _ w1 := bb1
    clear r1 n2 bb1 d1
    go_wp2_with fail
    refine (unhide QU).mono ?_
    rintro e w2 ⟨rfl, k2⟩
    rw [unhide HQ1, unhide HQ2]
    go_wp2_with fail
    refine (unhide SI _).mono ?_
    rintro e w3 ⟨rfl, rfl⟩
    go_wp2_with fail
    go_ret2
    exact ⟨rfl, kb.trans k2⟩
  · have han : (a != 0) = true := by simp; omega
    have had : decide (a < 0) = true := by simp; omega
    subst hb
    clear hbel
    go_enter Tryd.func28, Tryd.ntmps28
    go_wp2_with fail
    refine (unhide SA _).mono ?_
    rintro e w1 ⟨rfl, rfl⟩
    go_wp2_with fail
    refine (unhide SB _).mono ?_
    rintro e w1 ⟨rfl, rfl⟩
    go_wp2_with fail
    refine (times_ref u v _ hu0 hu1 hv0 hv1).mono ?_
    rintro e w1 ⟨v1, l1, rfl, r1, d1, ⟨n0, n1, n2⟩, bb1⟩
    have QU := hide (quot_ref v1 l1 _ c w1 r1 d1 n0 (by omega) hc (by omega))
    rw [n2] at QU
    have kb : Keep _ w1 := bb1
    clear r1 n2 bb1 d1
    go_wp2_with fail
    refine (unhide QU).mono ?_
    rintro e w2 ⟨rfl, k2⟩
    rw [unhide HQ1, unhide HQ2]
    go_wp2_with fail
    refine (unhide SI _).mono ?_
    rintro e w3 ⟨rfl, rfl⟩
    go_wp2_with fail
    go_ret2
    exact ⟨rfl, kb.trans k2⟩
  · exact absurd hbel (by rw [bel_np ha hb]; simp)
  · subst ha
    have hbn : (b != 0) = true := by simp; omega
    have hbd : decide (b < 0) = true := by simp; omega
    clear hbel
    go_enter Tryd.func28, Tryd.ntmps28
    go_wp2_with fail
    refine (unhide SA _).mono ?_
    rintro e w1 ⟨rfl, rfl⟩
    go_wp2_with fail
    refine (unhide SB _).mono ?_
    rintro e w1 ⟨rfl, rfl⟩
    go_wp2_with fail
    refine (times_ref u v _ hu0 hu1 hv0 hv1).mono ?_
    rintro e w1 ⟨v1, l1, rfl, r1, d1, ⟨n0, n1, n2⟩, bb1⟩
    have QU := hide (quot_ref v1 l1 _ c w1 r1 d1 n0 (by omega) hc (by omega))
    rw [n2] at QU
    have kb : Keep _ w1 := bb1
    clear r1 n2 bb1 d1
    go_wp2_with fail
    refine (unhide QU).mono ?_
    rintro e w2 ⟨rfl, k2⟩
    rw [unhide HQ1, unhide HQ2]
    go_wp2_with fail
    refine (unhide SI _).mono ?_
    rintro e w3 ⟨rfl, rfl⟩
    go_wp2_with fail
    go_ret2
    exact ⟨rfl, kb.trans k2⟩
  · subst ha
    subst hb
    clear hbel
    go_enter Tryd.func28, Tryd.ntmps28
    go_wp2_with fail
    refine (unhide SA _).mono ?_
    rintro e w1 ⟨rfl, rfl⟩
    go_wp2_with fail
    refine (unhide SB _).mono ?_
    rintro e w1 ⟨rfl, rfl⟩
    go_wp2_with fail
    refine (times_ref u v _ hu0 hu1 hv0 hv1).mono ?_
    rintro e w1 ⟨v1, l1, rfl, r1, d1, ⟨n0, n1, n2⟩, bb1⟩
    have QU := hide (quot_ref v1 l1 _ c w1 r1 d1 n0 (by omega) hc (by omega))
    rw [n2] at QU
    have kb : Keep _ w1 := bb1
    clear r1 n2 bb1 d1
    go_wp2_with fail
    refine (unhide QU).mono ?_
    rintro e w2 ⟨rfl, k2⟩
    rw [unhide HQ1, unhide HQ2]
    go_wp2_with fail
    refine (unhide SI _).mono ?_
    rintro e w3 ⟨rfl, rfl⟩
    go_wp2_with fail
    go_ret2
    exact ⟨rfl, kb.trans k2⟩
  · subst ha
    have hbn : (b != 0) = true := by simp; omega
    have hbd : decide (b < 0) = false := by simp; omega
    clear hbel
    go_enter Tryd.func28, Tryd.ntmps28
    go_wp2_with fail
    refine (unhide SA _).mono ?_
    rintro e w1 ⟨rfl, rfl⟩
    go_wp2_with fail
    refine (unhide SB _).mono ?_
    rintro e w1 ⟨rfl, rfl⟩
    go_wp2_with fail
    refine (times_ref u v _ hu0 hu1 hv0 hv1).mono ?_
    rintro e w1 ⟨v1, l1, rfl, r1, d1, ⟨n0, n1, n2⟩, bb1⟩
    have QU := hide (quot_ref v1 l1 _ c w1 r1 d1 n0 (by omega) hc (by omega))
    rw [n2] at QU
    have kb : Keep _ w1 := bb1
    clear r1 n2 bb1 d1
    go_wp2_with fail
    refine (unhide QU).mono ?_
    rintro e w2 ⟨rfl, k2⟩
    rw [unhide HQ1, unhide HQ2]
    go_wp2_with fail
    refine (unhide SI _).mono ?_
    rintro e w3 ⟨rfl, rfl⟩
    go_wp2_with fail
    go_ret2
    exact ⟨rfl, kb.trans k2⟩
  · exact absurd hbel (by rw [bel_pn ha hb]; simp)
  · have han : (a != 0) = true := by simp; omega
    have had : decide (a < 0) = false := by simp; omega
    subst hb
    clear hbel
    go_enter Tryd.func28, Tryd.ntmps28
    go_wp2_with fail
    refine (unhide SA _).mono ?_
    rintro e w1 ⟨rfl, rfl⟩
    go_wp2_with fail
    refine (unhide SB _).mono ?_
    rintro e w1 ⟨rfl, rfl⟩
    go_wp2_with fail
    refine (times_ref u v _ hu0 hu1 hv0 hv1).mono ?_
    rintro e w1 ⟨v1, l1, rfl, r1, d1, ⟨n0, n1, n2⟩, bb1⟩
    have QU := hide (quot_ref v1 l1 _ c w1 r1 d1 n0 (by omega) hc (by omega))
    rw [n2] at QU
    have kb : Keep _ w1 := bb1
    clear r1 n2 bb1 d1
    go_wp2_with fail
    refine (unhide QU).mono ?_
    rintro e w2 ⟨rfl, k2⟩
    rw [unhide HQ1, unhide HQ2]
    go_wp2_with fail
    refine (unhide SI _).mono ?_
    rintro e w3 ⟨rfl, rfl⟩
    go_wp2_with fail
    go_ret2
    exact ⟨rfl, kb.trans k2⟩
  · have han : (a != 0) = true := by simp; omega
    have had : decide (a < 0) = false := by simp; omega
    have hbn : (b != 0) = true := by simp; omega
    have hbd : decide (b < 0) = false := by simp; omega
    clear hbel
    go_enter Tryd.func28, Tryd.ntmps28
    go_wp2_with fail
    refine (unhide SA _).mono ?_
    rintro e w1 ⟨rfl, rfl⟩
    go_wp2_with fail
    refine (unhide SB _).mono ?_
    rintro e w1 ⟨rfl, rfl⟩
    go_wp2_with fail
    refine (times_ref u v _ hu0 hu1 hv0 hv1).mono ?_
    rintro e w1 ⟨v1, l1, rfl, r1, d1, ⟨n0, n1, n2⟩, bb1⟩
    have QU := hide (quot_ref v1 l1 _ c w1 r1 d1 n0 (by omega) hc (by omega))
    rw [n2] at QU
    have kb : Keep _ w1 := bb1
    clear r1 n2 bb1 d1
    go_wp2_with fail
    refine (unhide QU).mono ?_
    rintro e w2 ⟨rfl, k2⟩
    rw [unhide HQ1, unhide HQ2]
    go_wp2_with fail
    refine (unhide SI _).mono ?_
    rintro e w3 ⟨rfl, rfl⟩
    go_wp2_with fail
    go_ret2
    exact ⟨rfl, kb.trans k2⟩
set_option maxHeartbeats 4000000 in
theorem rscale_even (a b c u v q : Int) (w : World) (h1 : -9223372036854775808 ≤ a) (h2 : a ≤ 9223372036854775807) (h3 : -9223372036854775808 ≤ b) (h4 : b ≤ 9223372036854775807) (hc : 1 ≤ c) (hc2 : c ≤ 9223372036854775807) (hu0 : 0 ≤ u) (hu1 : u < 18446744073709551616) (hv0 : 0 ≤ v) (hv1 : v < 18446744073709551616) (hq0 : 0 ≤ q) (hq1 : q < 18446744073709551616) (hbel : bel a b = true)
    (HQ1 : Hid (qm (u * v) c = q)) (HQ2 : Hid (decide (u * v / c < 18446744073709551616) = true)) (HC : Hid (cm (q * c) (u * v) = 0)) (x c0 : Int)
    (SA : Hid (∀ w, Calls Tryd.prog 40 #[.int .i64 a] w fun e w' => e = .returned (.int .u64 u) ∧ w' = w))
    (SB : Hid (∀ w, Calls Tryd.prog 40 #[.int .i64 b] w fun e w' => e = .returned (.int .u64 v) ∧ w' = w))
    (SI : Hid (∀ w, Calls Tryd.prog 59 #[.int .u64 q, .bool true] w fun e w' => e = .returned (.tuple #[.int .i64 x, .int .i64 c0]) ∧ w' = w)) :
    Calls Tryd.prog 28 #[.int .i64 a, .int .i64 b, .int .i64 c] w fun e w' => e = .returned (.tuple #[.int .i64 x, .int .i64 c0]) ∧ Keep w w' := by
  rcases Int.lt_trichotomy a 0 with ha | ha | ha <;> rcases Int.lt_trichotomy b 0 with hb | hb | hb
  · exact absurd hbel (by rw [bel_nn ha hb]; simp)
  · exact absurd hbel (by subst hb; rw [bel_z2 _]; simp)
  · have han : (a != 0) = true := by simp; omega
    have had : decide (a < 0) = true := by simp; omega
    have hbn : (b != 0) = true := by simp; omega
    have hbd : decide (b < 0) = false := by simp; omega
    clear hbel
    go_enter Tryd.func28, Tryd.ntmps28
    go_wp2_with fail
    refine (unhide SA _).mono ?_
    rintro e w1 ⟨rfl, rfl⟩
    go_wp2_with fail
    refine (unhide SB _).mono ?_
    rintro e w1 ⟨rfl, rfl⟩
    go_wp2_with fail
    refine (times_ref u v _ hu0 hu1 hv0 hv1).mono ?_
    rintro e w1 ⟨v1, l1, rfl, r1, d1, ⟨n0, n1, n2⟩, bb1⟩
    have QU := hide (quot_ref v1 l1 _ c w1 r1 d1 n0 (by omega) hc (by omega))
    rw [n2] at QU
    have kb : Keep _ w1 := bb1
    have OR : Hid (∀ (w' : World) (vv : Value) (l : List Int) (B : Nat), Keep w1 w' → RowB B w' vv l → Dig l → 0 < l.length → l.length ≤ 1000 → Calls Tryd.prog 32 #[vv, v1] w' fun e w'' => e = .returned (.int .i64 (cm (val l) (u * v))) ∧ w'' = w') := by
      intro w' vv l B hk hr hd hl0 hl
      have := order_any vv v1 l l1 B _ w' hr (r1.keep hk) hd d1 hl0 n0 hl (by omega)
      rw [n2] at this
      exact this
    clear r1 n2 bb1 d1
    go_wp2_with fail
    refine (unhide QU).mono ?_
    rintro e w2 ⟨rfl, k2⟩
    rw [unhide HQ1, unhide HQ2]
    go_wp2_with fail
    refine (times_ref q c _ hq0 hq1 (by omega) (by omega)).mono ?_
    rintro e w3 ⟨v3, l3, rfl, r3, d3, ⟨p0, p1, p2⟩, bb3⟩
    have kb3 : Keep w2 w3 := bb3
    have OR' := hide (unhide OR w3 v3 l3 _ (k2.trans kb3) r3 d3 p0 (by omega))
    rw [p2, unhide HC] at OR'
    clear r3 p2 bb3 d3 OR QU
    go_wp2_with fail
    refine (unhide OR').mono ?_
    rintro e w4 ⟨rfl, rfl⟩
    go_wp2_with fail
    refine (unhide SI _).mono ?_
    rintro e w5 ⟨rfl, rfl⟩
    go_wp2_with fail
    go_ret2
    exact ⟨rfl, (kb.trans k2).trans kb3⟩
  · exact absurd hbel (by subst ha; rw [bel_z1 _]; simp)
  · exact absurd hbel (by subst ha; rw [bel_z1 _]; simp)
  · exact absurd hbel (by subst ha; rw [bel_z1 _]; simp)
  · have han : (a != 0) = true := by simp; omega
    have had : decide (a < 0) = false := by simp; omega
    have hbn : (b != 0) = true := by simp; omega
    have hbd : decide (b < 0) = true := by simp; omega
    clear hbel
    go_enter Tryd.func28, Tryd.ntmps28
    go_wp2_with fail
    refine (unhide SA _).mono ?_
    rintro e w1 ⟨rfl, rfl⟩
    go_wp2_with fail
    refine (unhide SB _).mono ?_
    rintro e w1 ⟨rfl, rfl⟩
    go_wp2_with fail
    refine (times_ref u v _ hu0 hu1 hv0 hv1).mono ?_
    rintro e w1 ⟨v1, l1, rfl, r1, d1, ⟨n0, n1, n2⟩, bb1⟩
    have QU := hide (quot_ref v1 l1 _ c w1 r1 d1 n0 (by omega) hc (by omega))
    rw [n2] at QU
    have kb : Keep _ w1 := bb1
    have OR : Hid (∀ (w' : World) (vv : Value) (l : List Int) (B : Nat), Keep w1 w' → RowB B w' vv l → Dig l → 0 < l.length → l.length ≤ 1000 → Calls Tryd.prog 32 #[vv, v1] w' fun e w'' => e = .returned (.int .i64 (cm (val l) (u * v))) ∧ w'' = w') := by
      intro w' vv l B hk hr hd hl0 hl
      have := order_any vv v1 l l1 B _ w' hr (r1.keep hk) hd d1 hl0 n0 hl (by omega)
      rw [n2] at this
      exact this
    clear r1 n2 bb1 d1
    go_wp2_with fail
    refine (unhide QU).mono ?_
    rintro e w2 ⟨rfl, k2⟩
    rw [unhide HQ1, unhide HQ2]
    go_wp2_with fail
    refine (times_ref q c _ hq0 hq1 (by omega) (by omega)).mono ?_
    rintro e w3 ⟨v3, l3, rfl, r3, d3, ⟨p0, p1, p2⟩, bb3⟩
    have kb3 : Keep w2 w3 := bb3
    have OR' := hide (unhide OR w3 v3 l3 _ (k2.trans kb3) r3 d3 p0 (by omega))
    rw [p2, unhide HC] at OR'
    clear r3 p2 bb3 d3 OR QU
    go_wp2_with fail
    refine (unhide OR').mono ?_
    rintro e w4 ⟨rfl, rfl⟩
    go_wp2_with fail
    refine (unhide SI _).mono ?_
    rintro e w5 ⟨rfl, rfl⟩
    go_wp2_with fail
    go_ret2
    exact ⟨rfl, (kb.trans k2).trans kb3⟩
  · exact absurd hbel (by subst hb; rw [bel_z2 _]; simp)
  · exact absurd hbel (by rw [bel_pp ha hb]; simp)
set_option maxHeartbeats 4000000 in
theorem rscale_odd (a b c u v q : Int) (w : World) (h1 : -9223372036854775808 ≤ a) (h2 : a ≤ 9223372036854775807) (h3 : -9223372036854775808 ≤ b) (h4 : b ≤ 9223372036854775807) (hc : 1 ≤ c) (hc2 : c ≤ 9223372036854775807) (hu0 : 0 ≤ u) (hu1 : u < 18446744073709551616) (hv0 : 0 ≤ v) (hv1 : v < 18446744073709551616) (hq0 : 0 ≤ q) (hq1 : q < 18446744073709551616) (hbel : bel a b = true) (cv : Int) (hcv : (cv == 0) = false) (hq2 : q < 18446744073709551615)
    (HQ1 : Hid (qm (u * v) c = q)) (HQ2 : Hid (decide (u * v / c < 18446744073709551616) = true)) (HC : Hid (cm (q * c) (u * v) = cv)) (x c0 : Int)
    (SA : Hid (∀ w, Calls Tryd.prog 40 #[.int .i64 a] w fun e w' => e = .returned (.int .u64 u) ∧ w' = w))
    (SB : Hid (∀ w, Calls Tryd.prog 40 #[.int .i64 b] w fun e w' => e = .returned (.int .u64 v) ∧ w' = w))
    (SI : Hid (∀ w, Calls Tryd.prog 59 #[.int .u64 (q + 1), .bool true] w fun e w' => e = .returned (.tuple #[.int .i64 x, .int .i64 c0]) ∧ w' = w)) :
    Calls Tryd.prog 28 #[.int .i64 a, .int .i64 b, .int .i64 c] w fun e w' => e = .returned (.tuple #[.int .i64 x, .int .i64 c0]) ∧ Keep w w' := by
  rcases Int.lt_trichotomy a 0 with ha | ha | ha <;> rcases Int.lt_trichotomy b 0 with hb | hb | hb
  · exact absurd hbel (by rw [bel_nn ha hb]; simp)
  · exact absurd hbel (by subst hb; rw [bel_z2 _]; simp)
  · have han : (a != 0) = true := by simp; omega
    have had : decide (a < 0) = true := by simp; omega
    have hbn : (b != 0) = true := by simp; omega
    have hbd : decide (b < 0) = false := by simp; omega
    clear hbel
    have hcv' : (cv != 0) = true := by simpa using hcv
    have hq3 : (q == 18446744073709551615) = false := by simp; omega
    go_enter Tryd.func28, Tryd.ntmps28
    go_wp2_with fail
    refine (unhide SA _).mono ?_
    rintro e w1 ⟨rfl, rfl⟩
    go_wp2_with fail
    refine (unhide SB _).mono ?_
    rintro e w1 ⟨rfl, rfl⟩
    go_wp2_with fail
    refine (times_ref u v _ hu0 hu1 hv0 hv1).mono ?_
    rintro e w1 ⟨v1, l1, rfl, r1, d1, ⟨n0, n1, n2⟩, bb1⟩
    have QU := hide (quot_ref v1 l1 _ c w1 r1 d1 n0 (by omega) hc (by omega))
    rw [n2] at QU
    have kb : Keep _ w1 := bb1
    have OR : Hid (∀ (w' : World) (vv : Value) (l : List Int) (B : Nat), Keep w1 w' → RowB B w' vv l → Dig l → 0 < l.length → l.length ≤ 1000 → Calls Tryd.prog 32 #[vv, v1] w' fun e w'' => e = .returned (.int .i64 (cm (val l) (u * v))) ∧ w'' = w') := by
      intro w' vv l B hk hr hd hl0 hl
      have := order_any vv v1 l l1 B _ w' hr (r1.keep hk) hd d1 hl0 n0 hl (by omega)
      rw [n2] at this
      exact this
    clear r1 n2 bb1 d1
    go_wp2_with fail
    refine (unhide QU).mono ?_
    rintro e w2 ⟨rfl, k2⟩
    rw [unhide HQ1, unhide HQ2]
    go_wp2_with fail
    refine (times_ref q c _ hq0 hq1 (by omega) (by omega)).mono ?_
    rintro e w3 ⟨v3, l3, rfl, r3, d3, ⟨p0, p1, p2⟩, bb3⟩
    have kb3 : Keep w2 w3 := bb3
    have OR' := hide (unhide OR w3 v3 l3 _ (k2.trans kb3) r3 d3 p0 (by omega))
    rw [p2, unhide HC] at OR'
    clear r3 p2 bb3 d3 OR QU
    go_wp2_with fail
    refine (unhide OR').mono ?_
    rintro e w4 ⟨rfl, rfl⟩
    go_wp2_with fail
    refine (unhide SI _).mono ?_
    rintro e w5 ⟨rfl, rfl⟩
    go_wp2_with fail
    go_ret2
    exact ⟨rfl, (kb.trans k2).trans kb3⟩
  · exact absurd hbel (by subst ha; rw [bel_z1 _]; simp)
  · exact absurd hbel (by subst ha; rw [bel_z1 _]; simp)
  · exact absurd hbel (by subst ha; rw [bel_z1 _]; simp)
  · have han : (a != 0) = true := by simp; omega
    have had : decide (a < 0) = false := by simp; omega
    have hbn : (b != 0) = true := by simp; omega
    have hbd : decide (b < 0) = true := by simp; omega
    clear hbel
    have hcv' : (cv != 0) = true := by simpa using hcv
    have hq3 : (q == 18446744073709551615) = false := by simp; omega
    go_enter Tryd.func28, Tryd.ntmps28
    go_wp2_with fail
    refine (unhide SA _).mono ?_
    rintro e w1 ⟨rfl, rfl⟩
    go_wp2_with fail
    refine (unhide SB _).mono ?_
    rintro e w1 ⟨rfl, rfl⟩
    go_wp2_with fail
    refine (times_ref u v _ hu0 hu1 hv0 hv1).mono ?_
    rintro e w1 ⟨v1, l1, rfl, r1, d1, ⟨n0, n1, n2⟩, bb1⟩
    have QU := hide (quot_ref v1 l1 _ c w1 r1 d1 n0 (by omega) hc (by omega))
    rw [n2] at QU
    have kb : Keep _ w1 := bb1
    have OR : Hid (∀ (w' : World) (vv : Value) (l : List Int) (B : Nat), Keep w1 w' → RowB B w' vv l → Dig l → 0 < l.length → l.length ≤ 1000 → Calls Tryd.prog 32 #[vv, v1] w' fun e w'' => e = .returned (.int .i64 (cm (val l) (u * v))) ∧ w'' = w') := by
      intro w' vv l B hk hr hd hl0 hl
      have := order_any vv v1 l l1 B _ w' hr (r1.keep hk) hd d1 hl0 n0 hl (by omega)
      rw [n2] at this
      exact this
    clear r1 n2 bb1 d1
    go_wp2_with fail
    refine (unhide QU).mono ?_
    rintro e w2 ⟨rfl, k2⟩
    rw [unhide HQ1, unhide HQ2]
    go_wp2_with fail
    refine (times_ref q c _ hq0 hq1 (by omega) (by omega)).mono ?_
    rintro e w3 ⟨v3, l3, rfl, r3, d3, ⟨p0, p1, p2⟩, bb3⟩
    have kb3 : Keep w2 w3 := bb3
    have OR' := hide (unhide OR w3 v3 l3 _ (k2.trans kb3) r3 d3 p0 (by omega))
    rw [p2, unhide HC] at OR'
    clear r3 p2 bb3 d3 OR QU
    go_wp2_with fail
    refine (unhide OR').mono ?_
    rintro e w4 ⟨rfl, rfl⟩
    go_wp2_with fail
    refine (unhide SI _).mono ?_
    rintro e w5 ⟨rfl, rfl⟩
    go_wp2_with fail
    go_ret2
    exact ⟨rfl, (kb.trans k2).trans kb3⟩
  · exact absurd hbel (by subst hb; rw [bel_z2 _]; simp)
  · exact absurd hbel (by rw [bel_pp ha hb]; simp)
set_option maxHeartbeats 4000000 in
theorem rscale_top (a b c u v q : Int) (w : World) (h1 : -9223372036854775808 ≤ a) (h2 : a ≤ 9223372036854775807) (h3 : -9223372036854775808 ≤ b) (h4 : b ≤ 9223372036854775807) (hc : 1 ≤ c) (hc2 : c ≤ 9223372036854775807) (hu0 : 0 ≤ u) (hu1 : u < 18446744073709551616) (hv0 : 0 ≤ v) (hv1 : v < 18446744073709551616) (hq0 : 0 ≤ q) (hq1 : q < 18446744073709551616) (hbel : bel a b = true) (cv : Int) (hcv : (cv == 0) = false) (hq3 : (q == 18446744073709551615) = true)
    (HQ1 : Hid (qm (u * v) c = q)) (HQ2 : Hid (decide (u * v / c < 18446744073709551616) = true)) (HC : Hid (cm (q * c) (u * v) = cv))
    (SA : Hid (∀ w, Calls Tryd.prog 40 #[.int .i64 a] w fun e w' => e = .returned (.int .u64 u) ∧ w' = w))
    (SB : Hid (∀ w, Calls Tryd.prog 40 #[.int .i64 b] w fun e w' => e = .returned (.int .u64 v) ∧ w' = w)) :
    Calls Tryd.prog 28 #[.int .i64 a, .int .i64 b, .int .i64 c] w fun e w' => e = .returned (.tuple #[.int .i64 0, .int .i64 2]) ∧ Keep w w' := by
  rcases Int.lt_trichotomy a 0 with ha | ha | ha <;> rcases Int.lt_trichotomy b 0 with hb | hb | hb
  · exact absurd hbel (by rw [bel_nn ha hb]; simp)
  · exact absurd hbel (by subst hb; rw [bel_z2 _]; simp)
  · have han : (a != 0) = true := by simp; omega
    have had : decide (a < 0) = true := by simp; omega
    have hbn : (b != 0) = true := by simp; omega
    have hbd : decide (b < 0) = false := by simp; omega
    clear hbel
    have hcv' : (cv != 0) = true := by simpa using hcv
    go_enter Tryd.func28, Tryd.ntmps28
    go_wp2_with fail
    refine (unhide SA _).mono ?_
    rintro e w1 ⟨rfl, rfl⟩
    go_wp2_with fail
    refine (unhide SB _).mono ?_
    rintro e w1 ⟨rfl, rfl⟩
    go_wp2_with fail
    refine (times_ref u v _ hu0 hu1 hv0 hv1).mono ?_
    rintro e w1 ⟨v1, l1, rfl, r1, d1, ⟨n0, n1, n2⟩, bb1⟩
    have QU := hide (quot_ref v1 l1 _ c w1 r1 d1 n0 (by omega) hc (by omega))
    rw [n2] at QU
    have kb : Keep _ w1 := bb1
    have OR : Hid (∀ (w' : World) (vv : Value) (l : List Int) (B : Nat), Keep w1 w' → RowB B w' vv l → Dig l → 0 < l.length → l.length ≤ 1000 → Calls Tryd.prog 32 #[vv, v1] w' fun e w'' => e = .returned (.int .i64 (cm (val l) (u * v))) ∧ w'' = w') := by
      intro w' vv l B hk hr hd hl0 hl
      have := order_any vv v1 l l1 B _ w' hr (r1.keep hk) hd d1 hl0 n0 hl (by omega)
      rw [n2] at this
      exact this
    clear r1 n2 bb1 d1
    go_wp2_with fail
    refine (unhide QU).mono ?_
    rintro e w2 ⟨rfl, k2⟩
    rw [unhide HQ1, unhide HQ2]
    go_wp2_with fail
    refine (times_ref q c _ hq0 hq1 (by omega) (by omega)).mono ?_
    rintro e w3 ⟨v3, l3, rfl, r3, d3, ⟨p0, p1, p2⟩, bb3⟩
    have kb3 : Keep w2 w3 := bb3
    have OR' := hide (unhide OR w3 v3 l3 _ (k2.trans kb3) r3 d3 p0 (by omega))
    rw [p2, unhide HC] at OR'
    clear r3 p2 bb3 d3 OR QU
    go_wp2_with fail
    refine (unhide OR').mono ?_
    rintro e w4 ⟨rfl, rfl⟩
    go_wp2_with fail
    go_ret2
    exact ⟨rfl, (kb.trans k2).trans kb3⟩
  · exact absurd hbel (by subst ha; rw [bel_z1 _]; simp)
  · exact absurd hbel (by subst ha; rw [bel_z1 _]; simp)
  · exact absurd hbel (by subst ha; rw [bel_z1 _]; simp)
  · have han : (a != 0) = true := by simp; omega
    have had : decide (a < 0) = false := by simp; omega
    have hbn : (b != 0) = true := by simp; omega
    have hbd : decide (b < 0) = true := by simp; omega
    clear hbel
    have hcv' : (cv != 0) = true := by simpa using hcv
    go_enter Tryd.func28, Tryd.ntmps28
    go_wp2_with fail
    refine (unhide SA _).mono ?_
    rintro e w1 ⟨rfl, rfl⟩
    go_wp2_with fail
    refine (unhide SB _).mono ?_
    rintro e w1 ⟨rfl, rfl⟩
    go_wp2_with fail
    refine (times_ref u v _ hu0 hu1 hv0 hv1).mono ?_
    rintro e w1 ⟨v1, l1, rfl, r1, d1, ⟨n0, n1, n2⟩, bb1⟩
    have QU := hide (quot_ref v1 l1 _ c w1 r1 d1 n0 (by omega) hc (by omega))
    rw [n2] at QU
    have kb : Keep _ w1 := bb1
    have OR : Hid (∀ (w' : World) (vv : Value) (l : List Int) (B : Nat), Keep w1 w' → RowB B w' vv l → Dig l → 0 < l.length → l.length ≤ 1000 → Calls Tryd.prog 32 #[vv, v1] w' fun e w'' => e = .returned (.int .i64 (cm (val l) (u * v))) ∧ w'' = w') := by
      intro w' vv l B hk hr hd hl0 hl
      have := order_any vv v1 l l1 B _ w' hr (r1.keep hk) hd d1 hl0 n0 hl (by omega)
      rw [n2] at this
      exact this
    clear r1 n2 bb1 d1
    go_wp2_with fail
    refine (unhide QU).mono ?_
    rintro e w2 ⟨rfl, k2⟩
    rw [unhide HQ1, unhide HQ2]
    go_wp2_with fail
    refine (times_ref q c _ hq0 hq1 (by omega) (by omega)).mono ?_
    rintro e w3 ⟨v3, l3, rfl, r3, d3, ⟨p0, p1, p2⟩, bb3⟩
    have kb3 : Keep w2 w3 := bb3
    have OR' := hide (unhide OR w3 v3 l3 _ (k2.trans kb3) r3 d3 p0 (by omega))
    rw [p2, unhide HC] at OR'
    clear r3 p2 bb3 d3 OR QU
    go_wp2_with fail
    refine (unhide OR').mono ?_
    rintro e w4 ⟨rfl, rfl⟩
    go_wp2_with fail
    go_ret2
    exact ⟨rfl, (kb.trans k2).trans kb3⟩
  · exact absurd hbel (by subst hb; rw [bel_z2 _]; simp)
  · exact absurd hbel (by rw [bel_pp ha hb]; simp)
theorem rscale_any (a b c : Int) (w : World) (h1 : -9223372036854775808 ≤ a) (h2 : a ≤ 9223372036854775807) (h3 : -9223372036854775808 ≤ b) (h4 : b ≤ 9223372036854775807) (hc : 1 ≤ c) (hc2 : c ≤ 9223372036854775807) :
    Calls Tryd.prog 28 #[.int .i64 a, .int .i64 b, .int .i64 c] w fun e w' => e = .returned (.tuple #[.int .i64 (ans (a * b / c)), .int .i64 (err (a * b / c))]) ∧ Keep w w' := by
  have ba := size_bd h1 h2
  have bb := size_bd h3 h4
  have SA : Hid (∀ w, _) := fun w => rsize_any a w h1 h2
  have SB : Hid (∀ w, _) := fun w => rsize_any b w h3 h4
  have hp := Int.mul_nonneg ba.1 bb.1
  have hqb := qm_bd hp hc
  have hsz := sizes_mul a b
  have hq0 : 0 ≤ (a.natAbs : Int) * (b.natAbs : Int) / c := Int.ediv_nonneg hp (by omega)
  by_cases hf : (a.natAbs : Int) * (b.natAbs : Int) / c < 18446744073709551616
  · have hq : qm ((a.natAbs : Int) * (b.natAbs : Int)) c = (a.natAbs : Int) * (b.natAbs : Int) / c := by unfold qm; rw [if_pos hf]
    have HQ2 := hide (decide_eq_true hf)
    have hd := Int.emod_add_mul_ediv ((a.natAbs : Int) * (b.natAbs : Int)) c
    by_cases hbel : bel a b = true
    · have hneg : a * b = -((a.natAbs : Int) * (b.natAbs : Int)) := by
        rw [hsz]
        have : a * b < 0 := by simpa [bel] using hbel
        omega
      by_cases hm : (a.natAbs : Int) * (b.natAbs : Int) % c = 0
      · have hdiv : a * b / c = -((a.natAbs : Int) * (b.natAbs : Int) / c) := by rw [hneg]; exact ediv_up (by omega) hm
        have hcm : cm ((a.natAbs : Int) * (b.natAbs : Int) / c * c) ((a.natAbs : Int) * (b.natAbs : Int)) = 0 := by
          have : (a.natAbs : Int) * (b.natAbs : Int) / c * c = (a.natAbs : Int) * (b.natAbs : Int) := by rw [Int.mul_comm]; omega
          simp [cm, this]
        refine rscale_even a b c _ _ _ w h1 h2 h3 h4 hc hc2 ba.1 ba.2 bb.1 bb.2 hq0 hf hbel hq HQ2 hcm _ _ SA SB (hide fun w => ?_)
        have hs := signed_any ((a.natAbs : Int) * (b.natAbs : Int) / c) true w hq0 hf
        rw [show sg ((a.natAbs : Int) * (b.natAbs : Int) / c) true = a * b / c by rw [hdiv]; simp [sg]] at hs
        exact hs
      · have hdiv : a * b / c = -((a.natAbs : Int) * (b.natAbs : Int) / c) - 1 := by rw [hneg]; exact ediv_up' (by omega) hm
        have hne : (a.natAbs : Int) * (b.natAbs : Int) / c * c ≠ (a.natAbs : Int) * (b.natAbs : Int) := by rw [Int.mul_comm]; omega
        have hcm : (cm ((a.natAbs : Int) * (b.natAbs : Int) / c * c) ((a.natAbs : Int) * (b.natAbs : Int)) == 0) = false := by
          unfold cm
          rw [if_neg hne]
          split <;> rfl
        by_cases htop : (a.natAbs : Int) * (b.natAbs : Int) / c = 18446744073709551615
        · rw [ans_no (by omega), err_no (by omega)]
          exact rscale_top a b c _ _ _ w h1 h2 h3 h4 hc hc2 ba.1 ba.2 bb.1 bb.2 hq0 hf hbel _ hcm (by simp [htop]) hq HQ2 (hide rfl) SA SB
        · refine rscale_odd a b c _ _ _ w h1 h2 h3 h4 hc hc2 ba.1 ba.2 bb.1 bb.2 hq0 hf hbel _ hcm (by omega) hq HQ2 (hide rfl) _ _ SA SB (hide fun w => ?_)
          have hs := signed_any ((a.natAbs : Int) * (b.natAbs : Int) / c + 1) true w (by omega) (by omega)
          rw [show sg ((a.natAbs : Int) * (b.natAbs : Int) / c + 1) true = a * b / c by rw [hdiv]; simp [sg]; omega] at hs
          exact hs
    · have hbel' : bel a b = false := by simpa using hbel
      have hpos : a * b = (a.natAbs : Int) * (b.natAbs : Int) := by
        rw [hsz]
        have : ¬ a * b < 0 := by simpa [bel] using hbel'
        omega
      refine rscale_up a b c _ _ _ w h1 h2 h3 h4 hc hc2 ba.1 ba.2 bb.1 bb.2 hq0 hf hbel' hq HQ2 _ _ SA SB (hide fun w => ?_)
      have hs := signed_any ((a.natAbs : Int) * (b.natAbs : Int) / c) false w hq0 hf
      rw [show sg ((a.natAbs : Int) * (b.natAbs : Int) / c) false = a * b / c by rw [hpos]; simp [sg]] at hs
      exact hs
  · have HQ2 := hide (decide_eq_false hf)
    have hno : a * b / c < -9223372036854775808 ∨ 9223372036854775807 < a * b / c := by
      by_cases h : a * b < 0
      · have hneg : a * b = -((a.natAbs : Int) * (b.natAbs : Int)) := by rw [hsz]; omega
        by_cases hm : (a.natAbs : Int) * (b.natAbs : Int) % c = 0
        · rw [hneg, ediv_up (by omega) hm]; omega
        · rw [hneg, ediv_up' (by omega) hm]; omega
      · have hpos : a * b = (a.natAbs : Int) * (b.natAbs : Int) := by rw [hsz]; omega
        rw [hpos]; omega
    rw [ans_no hno, err_no hno]
    exact rscale_none a b c _ _ _ w h1 h2 h3 h4 hc hc2 ba.1 ba.2 bb.1 bb.2 hqb.1 hqb.2 (hide rfl) HQ2 SA SB
end Go.Proofs.YtnegcifbbbmlnaaDoor
