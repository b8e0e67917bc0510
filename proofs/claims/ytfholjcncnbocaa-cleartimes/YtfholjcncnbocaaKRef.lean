/- The document's Yellow, Red and Flash. -/
import Derived.Test.YtfholjcncnbocaaKMath
import Derived.Test.YtfholjcncnbocaaProg
import Derived.WalkKit
import Derived.ProofKit
namespace Go.Proofs.Ytfholjcncnbocaa
open Go.RowKit
set_option linter.unusedVariables false
set_option linter.unusedSimpArgs false
set_option maxRecDepth 10000
set_option maxHeartbeats 400000 in
theorem rup_y (a b t p : Int) (w : World) (ha : 0 ≤ a) (hb : 0 < b) (hz : (b == 0) = false) (hz2 : (b == -1) = false) (e1 : a.tdiv b = t) (e3 : a / b = t) (e2 : wrap64 (t * b) = p) (t1 : 0 ≤ t) (t2 : t ≤ 4611686018427387904) (hp : p < a) :
    Calls Try.prog 15 #[.int .i64 a, .int .i64 b] w fun e w' => e = .returned (.int .i64 (t + 1)) ∧ w' = w := by
  have hx1 : (a == -9223372036854775808) = false := by simp; omega
  go_enter Try.func15, Try.ntmps15
  go_wp2_with fail
  go_ret
  exact ⟨rfl, rfl⟩
set_option maxHeartbeats 400000 in
theorem rup_n (a b t p : Int) (w : World) (ha : 0 ≤ a) (hb : 0 < b) (hz : (b == 0) = false) (hz2 : (b == -1) = false) (e1 : a.tdiv b = t) (e3 : a / b = t) (e2 : wrap64 (t * b) = p) (t1 : 0 ≤ t) (t2 : t ≤ 4611686018427387904) (hp : ¬ p < a) :
    Calls Try.prog 15 #[.int .i64 a, .int .i64 b] w fun e w' => e = .returned (.int .i64 t) ∧ w' = w := by
  have hx1 : (a == -9223372036854775808) = false := by simp; omega
  go_enter Try.func15, Try.ntmps15
  go_wp2_with fail
  go_ret
  exact ⟨rfl, rfl⟩
theorem rup_any (a b : Int) (w : World) (h2 : a ≤ 4611686018427387904) (ha : 0 ≤ a) (hb : 0 < b) :
    Calls Try.prog 15 #[.int .i64 a, .int .i64 b] w fun e w' => e = .returned (.int .i64 (up a b)) ∧ w' = w := by
  have d0 : 0 ≤ a / b := Int.ediv_nonneg ha (by omega)
  have d1 : a / b ≤ a := Int.ediv_le_self _ ha
  have e1 : a.tdiv b = a / b := Int.tdiv_eq_ediv_of_nonneg ha
  have h := Int.emod_add_mul_ediv a b
  have hm0 := Int.emod_nonneg a (show b ≠ 0 by omega)
  have hm1 := Int.emod_lt_of_pos a hb
  have hp : a / b * b = a - a % b := by rw [Int.mul_comm]; omega
  have hp0 : 0 ≤ a / b * b := Int.mul_nonneg d0 (by omega)
  have hw : wrap64 (a / b * b) = a / b * b := wrap_in (by omega)
  by_cases hm : a % b = 0
  · rw [show up a b = a / b by unfold up; rw [if_pos hm]; omega]
    exact rup_n a b _ _ w ha hb (by simp; omega) (by simp; omega) e1 rfl hw d0 (by omega) (by omega)
  · rw [show up a b = a / b + 1 by unfold up; rw [if_neg hm]]
    exact rup_y a b _ _ w ha hb (by simp; omega) (by simp; omega) e1 rfl hw d0 (by omega) (by omega)
set_option maxHeartbeats 1000000 in
theorem ryellow_any (s g : Int) (w : World) :
    Calls Try.prog 7 #[.int .i64 s, .int .i64 g] w fun e w' => e = .returned (.tuple #[.int .i64 (yN s g), .int .i64 (yE s g)]) ∧ w' = w := by
  have CU := hide rup_any
  by_cases h : yK s g = true
  · have hyN : yN s g = 10 + up (10000 * s) (610000 + 1962 * g) := by unfold yN; rw [if_pos h]
    have hyE : yE s g = 0 := by unfold yE; rw [if_pos h]
    rw [hyN, hyE]
    have hd : 1 ≤ s ∧ s ≤ 10000 ∧ -200 ≤ g ∧ g ≤ 200 := by simpa [yK] using h
    obtain ⟨d1, d2, d3, d4⟩ := hd
    clear hyN hyE h
    have m1 : wrap64 (1962 * g) = 1962 * g := wrap_in (by omega)
    have m2 : wrap64 (610000 + 1962 * g) = 610000 + 1962 * g := wrap_in (by omega)
    have m3 : wrap64 (10000 * s) = 10000 * s := wrap_in (by omega)
    have m4 : wrap64 (10 + up (10000 * s) (610000 + 1962 * g)) = 10 + up (10000 * s) (610000 + 1962 * g) := by
      have a1 := up_nn (n := 10000 * s) (d := 610000 + 1962 * g) (by omega) (by omega)
      have a2 := up_small (n := 10000 * s) (d := 610000 + 1962 * g) (by omega) (by omega)
      exact wrap_in (by omega)
    have c1 : ¬ s < 1 := by omega
    have c2 : ¬ 10000 < s := by omega
    have c3 : ¬ g < -200 := by omega
    have c4 : ¬ 200 < g := by omega
    go_enter Try.func7, Try.ntmps7
    go_wp2_with fail
    (refine ((unhide CU) _ _ _ (by omega) (by omega) (by omega)).mono ?_; rintro e w3 ⟨rfl, rfl⟩)
    go_wp2_with fail
    go_ret2
    exact ⟨two_ret m4 rfl, rfl⟩
  · have hyN : yN s g = 0 := by unfold yN; rw [if_neg h]
    have hyE : yE s g = 1 := by unfold yE; rw [if_neg h]
    rw [hyN, hyE]
    have hd : s < 1 ∨ (¬ s < 1 ∧ 10000 < s) ∨ (¬ s < 1 ∧ ¬ 10000 < s ∧ g < -200) ∨ (¬ s < 1 ∧ ¬ 10000 < s ∧ ¬ g < -200 ∧ 200 < g) := by simp [yK] at h; omega
    clear hyN hyE h
    go_enter Try.func7, Try.ntmps7
    rcases hd with h1 | ⟨h1, h2⟩ | ⟨h1, h2, h3⟩ | ⟨h1, h2, h3, h4⟩ <;> (go_wp2_with fail; go_ret2; exact ⟨rfl, rfl⟩)
set_option maxHeartbeats 1000000 in
theorem rred_any (a b s : Int) (w : World) :
    Calls Try.prog 9 #[.int .i64 a, .int .i64 b, .int .i64 s] w fun e w' => e = .returned (.tuple #[.int .i64 (rN a b s), .int .i64 (rE a b s)]) ∧ w' = w := by
  have CU := hide rup_any
  by_cases h : rK a b s = true
  · have hyN : rN a b s = up (10 * (a + b)) s := by unfold rN; rw [if_pos h]
    have hyE : rE a b s = 0 := by unfold rE; rw [if_pos h]
    rw [hyN, hyE]
    have hd : 0 ≤ a ∧ a ≤ 100000 ∧ 0 ≤ b ∧ b ≤ 100000 ∧ 1 ≤ s ∧ s ≤ 10000 := by simpa [rK] using h
    obtain ⟨d1, d2, d3, d4, d5, d6⟩ := hd
    clear hyN hyE h
    have m1 : wrap64 (a + b) = a + b := wrap_in (by omega)
    have m2 : wrap64 (10 * (a + b)) = 10 * (a + b) := wrap_in (by omega)
    have c1 : ¬ a < 0 := by omega
    have c2 : ¬ 100000 < a := by omega
    have c3 : ¬ b < 0 := by omega
    have c4 : ¬ 100000 < b := by omega
    have c5 : ¬ s < 1 := by omega
    have c6 : ¬ 10000 < s := by omega
    go_enter Try.func9, Try.ntmps9
    go_wp2_with fail
    (refine ((unhide CU) _ _ _ (by omega) (by omega) (by omega)).mono ?_; rintro e w3 ⟨rfl, rfl⟩)
    go_wp2_with fail
    go_ret2
    exact ⟨rfl, rfl⟩
  · have hyN : rN a b s = 0 := by unfold rN; rw [if_neg h]
    have hyE : rE a b s = 1 := by unfold rE; rw [if_neg h]
    rw [hyN, hyE]
    have hd : a < 0 ∨ (¬ a < 0 ∧ 100000 < a) ∨ (¬ a < 0 ∧ ¬ 100000 < a ∧ b < 0) ∨ (¬ a < 0 ∧ ¬ 100000 < a ∧ ¬ b < 0 ∧ 100000 < b) ∨ (¬ a < 0 ∧ ¬ 100000 < a ∧ ¬ b < 0 ∧ ¬ 100000 < b ∧ s < 1) ∨ (¬ a < 0 ∧ ¬ 100000 < a ∧ ¬ b < 0 ∧ ¬ 100000 < b ∧ ¬ s < 1 ∧ 10000 < s) := by simp [rK] at h; omega
    clear hyN hyE h
    go_enter Try.func9, Try.ntmps9
    rcases hd with h1 | ⟨h1, h2⟩ | ⟨h1, h2, h3⟩ | ⟨h1, h2, h3, h4⟩ | ⟨h1, h2, h3, h4, h5⟩ | ⟨h1, h2, h3, h4, h5, h6⟩ <;> (go_wp2_with fail; go_ret2; exact ⟨rfl, rfl⟩)
set_option maxHeartbeats 1000000 in
theorem rflash_any (a s : Int) (w : World) :
    Calls Try.prog 11 #[.int .i64 a, .int .i64 s] w fun e w' => e = .returned (.tuple #[.int .i64 (fN a s), .int .i64 (fE a s)]) ∧ w' = w := by
  have CU := hide rup_any
  by_cases h : fK a s = true
  · have hyN : fN a s = up (10 * a) s := by unfold fN; rw [if_pos h]
    have hyE : fE a s = 0 := by unfold fE; rw [if_pos h]
    rw [hyN, hyE]
    have hd : 1 ≤ a ∧ a ≤ 100000 ∧ 1 ≤ s ∧ s ≤ 10000 := by simpa [fK] using h
    obtain ⟨d1, d2, d5, d6⟩ := hd
    clear hyN hyE h
    have m2 : wrap64 (10 * a) = 10 * a := wrap_in (by omega)
    have c1 : ¬ a < 1 := by omega
    have c2 : ¬ 100000 < a := by omega
    have c5 : ¬ s < 1 := by omega
    have c6 : ¬ 10000 < s := by omega
    go_enter Try.func11, Try.ntmps11
    go_wp2_with fail
    (refine ((unhide CU) _ _ _ (by omega) (by omega) (by omega)).mono ?_; rintro e w3 ⟨rfl, rfl⟩)
    go_wp2_with fail
    go_ret2
    exact ⟨rfl, rfl⟩
  · have hyN : fN a s = 0 := by unfold fN; rw [if_neg h]
    have hyE : fE a s = 1 := by unfold fE; rw [if_neg h]
    rw [hyN, hyE]
    have hd : a < 1 ∨ (¬ a < 1 ∧ 100000 < a) ∨ (¬ a < 1 ∧ ¬ 100000 < a ∧ s < 1) ∨ (¬ a < 1 ∧ ¬ 100000 < a ∧ ¬ s < 1 ∧ 10000 < s) := by simp [fK] at h; omega
    clear hyN hyE h
    go_enter Try.func11, Try.ntmps11
    rcases hd with h1 | ⟨h1, h2⟩ | ⟨h1, h2, h3⟩ | ⟨h1, h2, h3, h4⟩ <;> (go_wp2_with fail; go_ret2; exact ⟨rfl, rfl⟩)
end Go.Proofs.Ytfholjcncnbocaa
