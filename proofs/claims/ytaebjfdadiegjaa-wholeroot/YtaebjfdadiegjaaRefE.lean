/- The document's answer for products, scaled products, divisors and multiples. -/
import Derived.Test.YtaebjfdadiegjaaRefD
import Derived.Test.YtaebjfdadiegjaaWholeG
import Derived.Test.YtaebjfdadiegjaaScale
namespace Go.Proofs.Ytaebjfdadiegjaa
open Go.RowKit
set_option linter.unusedVariables false

set_option maxHeartbeats 400000 in
theorem rsize_any (a : Int) (w : World) (h1 : -9223372036854775808 ≤ a) (h2 : a ≤ 9223372036854775807) :
    Calls Try.prog 37 #[.int .i64 a] w fun e w' => e = .returned (.int .u64 (a.natAbs : Int)) ∧ w' = w := by
  by_cases ha : a < 0
  · go_enter Try.func37, Try.ntmps37
    go_wp2
    go_ret
    exact ⟨one_ret (by rw [IntKind.wrap_u64, IntKind.wrap_u64]; omega), rfl⟩
  · go_enter Try.func37, Try.ntmps37
    go_wp2
    go_ret
    exact ⟨one_ret (by omega), rfl⟩

/-- a number of a size and a sign -/
def sg (u : Int) (below : Bool) : Int := if below then -u else u
set_option maxHeartbeats 400000 in
theorem signed_min (w : World) :
    Calls Try.prog 38 #[.int .u64 9223372036854775808, .bool true] w fun e w' => e = .returned (.tuple #[.int .i64 (-9223372036854775808), .int .i64 0]) ∧ w' = w := by
  go_enter Try.func38, Try.ntmps38
  go_wp2
  go_ret2
  exact ⟨rfl, rfl⟩
set_option maxHeartbeats 400000 in
theorem signed_over (u : Int) (below : Bool) (w : World) (h : 9223372036854775807 < u) (hu : u < 18446744073709551616) (hb : below = true → u ≠ 9223372036854775808) :
    Calls Try.prog 38 #[.int .u64 u, .bool below] w fun e w' => e = .returned (.tuple #[.int .i64 0, .int .i64 2]) ∧ w' = w := by
  cases below
  · clear hb
    by_cases he : u = 9223372036854775808
    · subst he
      go_enter Try.func38, Try.ntmps38
      go_wp2
      go_ret2
      exact ⟨rfl, rfl⟩
    · have he' : (u == 9223372036854775808) = false := by simp [he]
      go_enter Try.func38, Try.ntmps38
      go_wp2
      go_ret2
      exact ⟨rfl, rfl⟩
  · have he' : (u == 9223372036854775808) = false := by simp [hb rfl]
    clear hb
    go_enter Try.func38, Try.ntmps38
    go_wp2
    go_ret2
    exact ⟨rfl, rfl⟩
set_option maxHeartbeats 400000 in
theorem signed_fits (u : Int) (below : Bool) (w : World) (h0 : 0 ≤ u) (h : u ≤ 9223372036854775807) :
    Calls Try.prog 38 #[.int .u64 u, .bool below] w fun e w' => e = .returned (.tuple #[.int .i64 (sg u below), .int .i64 0]) ∧ w' = w := by
  have he' : (u == 9223372036854775808) = false := by simp; omega
  cases below
  · go_enter Try.func38, Try.ntmps38
    go_wp2
    go_ret2
    exact ⟨two_ret (by simp [sg]) rfl, rfl⟩
  · go_enter Try.func38, Try.ntmps38
    go_wp2
    go_ret2
    exact ⟨two_ret (by simp [sg]) rfl, rfl⟩
theorem signed_any (u : Int) (below : Bool) (w : World) (h0 : 0 ≤ u) (hu : u < 18446744073709551616) :
    Calls Try.prog 38 #[.int .u64 u, .bool below] w fun e w' => e = .returned (.tuple #[.int .i64 (ans (sg u below)), .int .i64 (err (sg u below))]) ∧ w' = w := by
  by_cases h : u ≤ 9223372036854775807
  · have hs : -9223372036854775808 ≤ sg u below ∧ sg u below ≤ 9223372036854775807 := by cases below <;> simp [sg] <;> omega
    rw [ans_yes hs.1 hs.2, err_yes hs.1 hs.2]
    exact signed_fits u below w h0 h
  · by_cases hm : below = true ∧ u = 9223372036854775808
    · obtain ⟨rfl, rfl⟩ := hm
      rw [show sg 9223372036854775808 true = -9223372036854775808 by simp [sg], ans_yes (by omega) (by omega), err_yes (by omega) (by omega)]
      exact signed_min w
    · have hs : sg u below < -9223372036854775808 ∨ 9223372036854775807 < sg u below := by
        cases below
        · simp [sg]; omega
        · have : u ≠ 9223372036854775808 := fun e => hm ⟨rfl, e⟩
          simp [sg]; omega
      rw [ans_no hs, err_no hs]
      exact signed_over u below w (by omega) hu (fun hb e => hm ⟨hb, e⟩)

theorem sizes_mul (a b : Int) : ((a.natAbs : Int) * (b.natAbs : Int)) = ((a * b).natAbs : Int) := by rw [Int.natAbs_mul, Int.natCast_mul]
theorem size_bd {a : Int} (h1 : -9223372036854775808 ≤ a) (h2 : a ≤ 9223372036854775807) : 0 ≤ (a.natAbs : Int) ∧ (a.natAbs : Int) < 18446744073709551616 := by omega
theorem qm_one {x : Int} (hx : 0 ≤ x) (h : x < 18446744073709551616) : qm x 1 = x ∧ decide (x / 1 < 18446744073709551616) = true := by
  rw [Int.ediv_one]
  exact ⟨by unfold qm; rw [Int.ediv_one, if_pos h], by simp [h]⟩
theorem qm_one_no {x : Int} (h : ¬ x < 18446744073709551616) : decide (x / 1 < 18446744073709551616) = false := by rw [Int.ediv_one]; simp; omega

/-- is a product below 0? -/
def bel (a b : Int) : Bool := decide (a * b < 0)
theorem bel_nn {a b : Int} (ha : a < 0) (hb : b < 0) : bel a b = false := by have := Int.mul_pos_of_neg_of_neg ha hb; simp [bel]; omega
theorem bel_np {a b : Int} (ha : a < 0) (hb : 0 < b) : bel a b = true := by have := Int.mul_neg_of_neg_of_pos ha hb; simp [bel]; omega
theorem bel_pn {a b : Int} (ha : 0 < a) (hb : b < 0) : bel a b = true := by have := Int.mul_neg_of_pos_of_neg ha hb; simp [bel]; omega
theorem bel_pp {a b : Int} (ha : 0 < a) (hb : 0 < b) : bel a b = false := by have := Int.mul_pos ha hb; simp [bel]; omega
theorem bel_z1 (b : Int) : bel 0 b = false := by simp [bel]
theorem bel_z2 (a : Int) : bel a 0 = false := by simp [bel]
theorem sg_bel (a b : Int) : sg ((a * b).natAbs : Int) (bel a b) = a * b := by
  unfold sg bel
  by_cases h : a * b < 0
  · simp [h]; omega
  · simp [h]; omega
set_option maxHeartbeats 2000000 in
theorem rmul_fits (a b u v q : Int) (w : World) (h1 : -9223372036854775808 ≤ a) (h2 : a ≤ 9223372036854775807) (h3 : -9223372036854775808 ≤ b) (h4 : b ≤ 9223372036854775807) (hu0 : 0 ≤ u) (hu1 : u < 18446744073709551616) (hv0 : 0 ≤ v) (hv1 : v < 18446744073709551616)
    (HQ1 : Hid (qm (u * v) 1 = q)) (HQ2 : Hid (decide (u * v / 1 < 18446744073709551616) = true)) (x c : Int)
    (SA : Hid (∀ w, Calls Try.prog 37 #[.int .i64 a] w fun e w' => e = .returned (.int .u64 u) ∧ w' = w))
    (SB : Hid (∀ w, Calls Try.prog 37 #[.int .i64 b] w fun e w' => e = .returned (.int .u64 v) ∧ w' = w))
    (SI : Hid (∀ w, Calls Try.prog 38 #[.int .u64 q, .bool (bel a b)] w fun e w' => e = .returned (.tuple #[.int .i64 x, .int .i64 c]) ∧ w' = w)) :
    Calls Try.prog 17 #[.int .i64 a, .int .i64 b] w fun e w' => e = .returned (.tuple #[.int .i64 x, .int .i64 c]) ∧ Keep w w' := by
  rcases Int.lt_trichotomy a 0 with ha | ha | ha <;> rcases Int.lt_trichotomy b 0 with hb | hb | hb
  · have han : (a != 0) = true := by simp; omega
    have had : decide (a < 0) = true := by simp; omega
    have hbn : (b != 0) = true := by simp; omega
    have hbd : decide (b < 0) = true := by simp; omega
    rw [bel_nn ha hb] at SI
    go_enter Try.func17, Try.ntmps17
    go_wp2_with fail
    refine (unhide SA _).mono ?_
    rintro e w1 ⟨rfl, rfl⟩
    go_wp2_with fail
    refine (unhide SB _).mono ?_
    rintro e w1 ⟨rfl, rfl⟩
    go_wp2_with fail
    refine (times_ref u v _ hu0 hu1 hv0 hv1).mono ?_
    rintro e w1 ⟨v1, l1, rfl, r1, d1, ⟨n0, n1, n2⟩, bb1⟩
    have QU := hide (quot_ref v1 l1 _ 1 w1 r1 d1 n0 (by omega) (by omega) (by omega))
    rw [n2] at QU
    clear r1 n2
    go_wp2_with fail
    refine (unhide QU).mono ?_
    rintro e w2 ⟨rfl, k2⟩
    rw [unhide HQ1, unhide HQ2]
    go_wp2_with fail
    refine (unhide SI _).mono ?_
    rintro e w3 ⟨rfl, rfl⟩
    go_wp2_with fail
    go_ret2
    exact ⟨rfl, (show Keep _ w1 from bb1).trans k2⟩
  · have han : (a != 0) = true := by simp; omega
    have had : decide (a < 0) = true := by simp; omega
    subst hb
    rw [bel_z2 _] at SI
    go_enter Try.func17, Try.ntmps17
    go_wp2_with fail
    refine (unhide SA _).mono ?_
    rintro e w1 ⟨rfl, rfl⟩
    go_wp2_with fail
    refine (unhide SB _).mono ?_
    rintro e w1 ⟨rfl, rfl⟩
    go_wp2_with fail
    refine (times_ref u v _ hu0 hu1 hv0 hv1).mono ?_
    rintro e w1 ⟨v1, l1, rfl, r1, d1, ⟨n0, n1, n2⟩, bb1⟩
    have QU := hide (quot_ref v1 l1 _ 1 w1 r1 d1 n0 (by omega) (by omega) (by omega))
    rw [n2] at QU
    clear r1 n2
    go_wp2_with fail
    refine (unhide QU).mono ?_
    rintro e w2 ⟨rfl, k2⟩
    rw [unhide HQ1, unhide HQ2]
    go_wp2_with fail
    refine (unhide SI _).mono ?_
    rintro e w3 ⟨rfl, rfl⟩
    go_wp2_with fail
    go_ret2
    exact ⟨rfl, (show Keep _ w1 from bb1).trans k2⟩
  · have han : (a != 0) = true := by simp; omega
    have had : decide (a < 0) = true := by simp; omega
    have hbn : (b != 0) = true := by simp; omega
    have hbd : decide (b < 0) = false := by simp; omega
    rw [bel_np ha hb] at SI
    go_enter Try.func17, Try.ntmps17
    go_wp2_with fail
    refine (unhide SA _).mono ?_
    rintro e w1 ⟨rfl, rfl⟩
    go_wp2_with fail
    refine (unhide SB _).mono ?_
    rintro e w1 ⟨rfl, rfl⟩
    go_wp2_with fail
    refine (times_ref u v _ hu0 hu1 hv0 hv1).mono ?_
    rintro e w1 ⟨v1, l1, rfl, r1, d1, ⟨n0, n1, n2⟩, bb1⟩
    have QU := hide (quot_ref v1 l1 _ 1 w1 r1 d1 n0 (by omega) (by omega) (by omega))
    rw [n2] at QU
    clear r1 n2
    go_wp2_with fail
    refine (unhide QU).mono ?_
    rintro e w2 ⟨rfl, k2⟩
    rw [unhide HQ1, unhide HQ2]
    go_wp2_with fail
    refine (unhide SI _).mono ?_
    rintro e w3 ⟨rfl, rfl⟩
    go_wp2_with fail
    go_ret2
    exact ⟨rfl, (show Keep _ w1 from bb1).trans k2⟩
  · subst ha
    have hbn : (b != 0) = true := by simp; omega
    have hbd : decide (b < 0) = true := by simp; omega
    rw [bel_z1 _] at SI
    go_enter Try.func17, Try.ntmps17
    go_wp2_with fail
    refine (unhide SA _).mono ?_
    rintro e w1 ⟨rfl, rfl⟩
    go_wp2_with fail
    refine (unhide SB _).mono ?_
    rintro e w1 ⟨rfl, rfl⟩
    go_wp2_with fail
    refine (times_ref u v _ hu0 hu1 hv0 hv1).mono ?_
    rintro e w1 ⟨v1, l1, rfl, r1, d1, ⟨n0, n1, n2⟩, bb1⟩
    have QU := hide (quot_ref v1 l1 _ 1 w1 r1 d1 n0 (by omega) (by omega) (by omega))
    rw [n2] at QU
    clear r1 n2
    go_wp2_with fail
    refine (unhide QU).mono ?_
    rintro e w2 ⟨rfl, k2⟩
    rw [unhide HQ1, unhide HQ2]
    go_wp2_with fail
    refine (unhide SI _).mono ?_
    rintro e w3 ⟨rfl, rfl⟩
    go_wp2_with fail
    go_ret2
    exact ⟨rfl, (show Keep _ w1 from bb1).trans k2⟩
  · subst ha
    subst hb
    rw [bel_z1 _] at SI
    go_enter Try.func17, Try.ntmps17
    go_wp2_with fail
    refine (unhide SA _).mono ?_
    rintro e w1 ⟨rfl, rfl⟩
    go_wp2_with fail
    refine (unhide SB _).mono ?_
    rintro e w1 ⟨rfl, rfl⟩
    go_wp2_with fail
    refine (times_ref u v _ hu0 hu1 hv0 hv1).mono ?_
    rintro e w1 ⟨v1, l1, rfl, r1, d1, ⟨n0, n1, n2⟩, bb1⟩
    have QU := hide (quot_ref v1 l1 _ 1 w1 r1 d1 n0 (by omega) (by omega) (by omega))
    rw [n2] at QU
    clear r1 n2
    go_wp2_with fail
    refine (unhide QU).mono ?_
    rintro e w2 ⟨rfl, k2⟩
    rw [unhide HQ1, unhide HQ2]
    go_wp2_with fail
    refine (unhide SI _).mono ?_
    rintro e w3 ⟨rfl, rfl⟩
    go_wp2_with fail
    go_ret2
    exact ⟨rfl, (show Keep _ w1 from bb1).trans k2⟩
  · subst ha
    have hbn : (b != 0) = true := by simp; omega
    have hbd : decide (b < 0) = false := by simp; omega
    rw [bel_z1 _] at SI
    go_enter Try.func17, Try.ntmps17
    go_wp2_with fail
    refine (unhide SA _).mono ?_
    rintro e w1 ⟨rfl, rfl⟩
    go_wp2_with fail
    refine (unhide SB _).mono ?_
    rintro e w1 ⟨rfl, rfl⟩
    go_wp2_with fail
    refine (times_ref u v _ hu0 hu1 hv0 hv1).mono ?_
    rintro e w1 ⟨v1, l1, rfl, r1, d1, ⟨n0, n1, n2⟩, bb1⟩
    have QU := hide (quot_ref v1 l1 _ 1 w1 r1 d1 n0 (by omega) (by omega) (by omega))
    rw [n2] at QU
    clear r1 n2
    go_wp2_with fail
    refine (unhide QU).mono ?_
    rintro e w2 ⟨rfl, k2⟩
    rw [unhide HQ1, unhide HQ2]
    go_wp2_with fail
    refine (unhide SI _).mono ?_
    rintro e w3 ⟨rfl, rfl⟩
    go_wp2_with fail
    go_ret2
    exact ⟨rfl, (show Keep _ w1 from bb1).trans k2⟩
  · have han : (a != 0) = true := by simp; omega
    have had : decide (a < 0) = false := by simp; omega
    have hbn : (b != 0) = true := by simp; omega
    have hbd : decide (b < 0) = true := by simp; omega
    rw [bel_pn ha hb] at SI
    go_enter Try.func17, Try.ntmps17
    go_wp2_with fail
    refine (unhide SA _).mono ?_
    rintro e w1 ⟨rfl, rfl⟩
    go_wp2_with fail
    refine (unhide SB _).mono ?_
    rintro e w1 ⟨rfl, rfl⟩
    go_wp2_with fail
    refine (times_ref u v _ hu0 hu1 hv0 hv1).mono ?_
    rintro e w1 ⟨v1, l1, rfl, r1, d1, ⟨n0, n1, n2⟩, bb1⟩
    have QU := hide (quot_ref v1 l1 _ 1 w1 r1 d1 n0 (by omega) (by omega) (by omega))
    rw [n2] at QU
    clear r1 n2
    go_wp2_with fail
    refine (unhide QU).mono ?_
    rintro e w2 ⟨rfl, k2⟩
    rw [unhide HQ1, unhide HQ2]
    go_wp2_with fail
    refine (unhide SI _).mono ?_
    rintro e w3 ⟨rfl, rfl⟩
    go_wp2_with fail
    go_ret2
    exact ⟨rfl, (show Keep _ w1 from bb1).trans k2⟩
  · have han : (a != 0) = true := by simp; omega
    have had : decide (a < 0) = false := by simp; omega
    subst hb
    rw [bel_z2 _] at SI
    go_enter Try.func17, Try.ntmps17
    go_wp2_with fail
    refine (unhide SA _).mono ?_
    rintro e w1 ⟨rfl, rfl⟩
    go_wp2_with fail
    refine (unhide SB _).mono ?_
    rintro e w1 ⟨rfl, rfl⟩
    go_wp2_with fail
    refine (times_ref u v _ hu0 hu1 hv0 hv1).mono ?_
    rintro e w1 ⟨v1, l1, rfl, r1, d1, ⟨n0, n1, n2⟩, bb1⟩
    have QU := hide (quot_ref v1 l1 _ 1 w1 r1 d1 n0 (by omega) (by omega) (by omega))
    rw [n2] at QU
    clear r1 n2
    go_wp2_with fail
    refine (unhide QU).mono ?_
    rintro e w2 ⟨rfl, k2⟩
    rw [unhide HQ1, unhide HQ2]
    go_wp2_with fail
    refine (unhide SI _).mono ?_
    rintro e w3 ⟨rfl, rfl⟩
    go_wp2_with fail
    go_ret2
    exact ⟨rfl, (show Keep _ w1 from bb1).trans k2⟩
  · have han : (a != 0) = true := by simp; omega
    have had : decide (a < 0) = false := by simp; omega
    have hbn : (b != 0) = true := by simp; omega
    have hbd : decide (b < 0) = false := by simp; omega
    rw [bel_pp ha hb] at SI
    go_enter Try.func17, Try.ntmps17
    go_wp2_with fail
    refine (unhide SA _).mono ?_
    rintro e w1 ⟨rfl, rfl⟩
    go_wp2_with fail
    refine (unhide SB _).mono ?_
    rintro e w1 ⟨rfl, rfl⟩
    go_wp2_with fail
    refine (times_ref u v _ hu0 hu1 hv0 hv1).mono ?_
    rintro e w1 ⟨v1, l1, rfl, r1, d1, ⟨n0, n1, n2⟩, bb1⟩
    have QU := hide (quot_ref v1 l1 _ 1 w1 r1 d1 n0 (by omega) (by omega) (by omega))
    rw [n2] at QU
    clear r1 n2
    go_wp2_with fail
    refine (unhide QU).mono ?_
    rintro e w2 ⟨rfl, k2⟩
    rw [unhide HQ1, unhide HQ2]
    go_wp2_with fail
    refine (unhide SI _).mono ?_
    rintro e w3 ⟨rfl, rfl⟩
    go_wp2_with fail
    go_ret2
    exact ⟨rfl, (show Keep _ w1 from bb1).trans k2⟩
set_option maxHeartbeats 2000000 in
theorem rmul_none (a b u v : Int) (w : World) (hu0 : 0 ≤ u) (hu1 : u < 18446744073709551616) (hv0 : 0 ≤ v) (hv1 : v < 18446744073709551616)
    (HQ2 : Hid (decide (u * v / 1 < 18446744073709551616) = false))
    (SA : Hid (∀ w, Calls Try.prog 37 #[.int .i64 a] w fun e w' => e = .returned (.int .u64 u) ∧ w' = w))
    (SB : Hid (∀ w, Calls Try.prog 37 #[.int .i64 b] w fun e w' => e = .returned (.int .u64 v) ∧ w' = w)) :
    Calls Try.prog 17 #[.int .i64 a, .int .i64 b] w fun e w' => e = .returned (.tuple #[.int .i64 0, .int .i64 2]) ∧ Keep w w' := by
  go_enter Try.func17, Try.ntmps17
  go_wp2_with fail
  refine (unhide SA _).mono ?_
  rintro e w1 ⟨rfl, rfl⟩
  go_wp2_with fail
  refine (unhide SB _).mono ?_
  rintro e w1 ⟨rfl, rfl⟩
  go_wp2_with fail
  refine (times_ref u v _ hu0 hu1 hv0 hv1).mono ?_
  rintro e w1 ⟨v1, l1, rfl, r1, d1, ⟨n0, n1, n2⟩, bb1⟩
  have QU := hide (quot_ref v1 l1 _ 1 w1 r1 d1 n0 (by omega) (by omega) (by omega))
  rw [n2] at QU
  clear r1 n2
  go_wp2_with fail
  refine (unhide QU).mono ?_
  rintro e w2 ⟨rfl, k2⟩
  rw [unhide HQ2]
  go_wp2_with fail
  go_ret2
  exact ⟨rfl, (show Keep _ w1 from bb1).trans k2⟩
theorem rmul_any (a b : Int) (w : World) (h1 : -9223372036854775808 ≤ a) (h2 : a ≤ 9223372036854775807) (h3 : -9223372036854775808 ≤ b) (h4 : b ≤ 9223372036854775807) :
    Calls Try.prog 17 #[.int .i64 a, .int .i64 b] w fun e w' => e = .returned (.tuple #[.int .i64 (ans (a * b)), .int .i64 (err (a * b))]) ∧ Keep w w' := by
  have ba := size_bd h1 h2
  have bb := size_bd h3 h4
  have SA : Hid (∀ w, _) := fun w => rsize_any a w h1 h2
  have SB : Hid (∀ w, _) := fun w => rsize_any b w h3 h4
  by_cases h : (a.natAbs : Int) * (b.natAbs : Int) < 18446744073709551616
  · have hq := qm_one (Int.mul_nonneg ba.1 bb.1) h
    refine rmul_fits a b _ _ _ w h1 h2 h3 h4 ba.1 ba.2 bb.1 bb.2 hq.1 hq.2 _ _ SA SB (hide fun w => ?_)
    have hs := signed_any ((a.natAbs : Int) * (b.natAbs : Int)) (bel a b) w (Int.mul_nonneg ba.1 bb.1) h
    rw [sizes_mul, sg_bel] at hs
    rw [sizes_mul]
    exact hs
  · have hn := qm_one_no h
    rw [sizes_mul] at h
    rw [ans_no (by omega), err_no (by omega)]
    exact rmul_none a b _ _ w ba.1 ba.2 bb.1 bb.2 hn SA SB
end Go.Proofs.Ytaebjfdadiegjaa
