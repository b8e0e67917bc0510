/- Package demand: fractions in decimal digits. -/
import Derived.Test.YtnegcifbbbmlnaaGreatDoorFracE
import Derived.Test.YtnegcifbbbmlnaaGreatDoorLMath
import Derived.Test.YtnegcifbbbmlnaaGreatDoorRefE
import Derived.Deep.DrawnRows
import Derived.Deep.RegionHeld
namespace Go.Proofs.YtnegcifbbbmlnaaGreatDoor
open Go.RowKit
attribute [local go_sem ↓] Go.wp_at_zero Go.wp_at_succ
set_option linter.unusedVariables false
set_option linter.unusedSimpArgs false
set_option maxRecDepth 10000
namespace W
/-- a fraction times 10 to the places, to the nearest, half up -/
def rnd (n d : Int) (k : Nat) : Int := (2 * ten k * n + d) / (2 * d)
theorem rnd_parts {n d : Int} (k : Nat) (hd : 1 ≤ d) : rnd n d k = n / d * ten k + (n % d * (2 * ten k) / d + 1) / 2 := by
  unfold rnd
  have e0 : n = d * (n / d) + n % d := (Int.mul_ediv_add_emod n d).symm
  generalize hF : n / d = F at *
  generalize hr : n % d = r at *
  have e1 : 2 * ten k * n + d = (r * (2 * ten k) + d) + (F * ten k) * (2 * d) := by
    rw [e0, Int.mul_add]
    have a1 : 2 * ten k * (d * F) = F * ten k * (2 * d) := by simp only [Int.mul_assoc, Int.mul_comm, Int.mul_left_comm]
    rw [a1, Int.mul_comm (2 * ten k) r]; omega
  rw [e1, Int.add_mul_ediv_right _ _ (by omega), Int.mul_comm 2 d, ← Int.ediv_ediv_of_nonneg (by omega), Int.add_ediv_of_dvd_right ⟨1, by omega⟩, Int.ediv_self (by omega)]
  omega
set_option maxHeartbeats 1000000 in
theorem rounded_over (n d u F M : Int) (w : World)
    (T1 : Hid (∀ w, Calls Tryz.prog 41 #[.agg #[.int .i64 n, .int .i64 d]] w fun e w' => e = .returned (.int .i64 F) ∧ Keep w w'))
    (T2 : Hid (∀ w, Calls Tryz.prog 40 #[.int .i64 F, .int .i64 u] w fun e w' => e = .returned (.tuple #[.int .i64 M, .int .i64 2]) ∧ Keep w w')) :
    Calls Tryz.prog 22 #[.agg #[.int .i64 n, .int .i64 d], .int .i64 u] w fun e w' => e = .returned (.tuple #[.int .i64 0, .int .i64 2]) ∧ Keep w w' := by
  go_enter Tryz.func22, Tryz.ntmps22
  go_wp2_with fail
  (refine ((uq T1) _).mono ?_; rintro e w2 ⟨rfl, hk⟩; obtain ⟨o1, k1, rfl⟩ := hk.ext; clear hk)
  go_wp2_with fail
  (refine ((uq T2) _).mono ?_; rintro e w2 ⟨rfl, hk⟩; obtain ⟨o2, k2, rfl⟩ := hk.ext; clear hk)
  go_wp2_with fail
  go_ret2
  exact ⟨rfl, by repeat (first | apply keep_ext | apply Keep.alloc | apply Keep.drew | exact Keep.refl _)⟩
set_option maxHeartbeats 2000000 in
theorem rounded_fits (n d u F M r z U H y H1 G X Z : Int) (w : World) (e1 : wrap64 (2 * u) = U) (e2 : wrap64 (H + 1) = H1) (e3 : H1.tdiv 2 = G) (e4 : wrap64 G = G)
    (T1 : Hid (∀ w, Calls Tryz.prog 41 #[.agg #[.int .i64 n, .int .i64 d]] w fun e w' => e = .returned (.int .i64 F) ∧ Keep w w'))
    (T2 : Hid (∀ w, Calls Tryz.prog 40 #[.int .i64 F, .int .i64 u] w fun e w' => e = .returned (.tuple #[.int .i64 M, .int .i64 0]) ∧ Keep w w'))
    (T3 : Hid (∀ w, Calls Tryz.prog 42 #[.int .i64 n, .int .i64 d] w fun e w' => e = .returned (.tuple #[.int .i64 r, .int .i64 z]) ∧ w' = w))
    (T4 : Hid (∀ w, Calls Tryz.prog 43 #[.int .i64 r, .int .i64 U, .int .i64 d] w fun e w' => e = .returned (.tuple #[.int .i64 H, .int .i64 y]) ∧ Keep w w'))
    (T5 : Hid (∀ w, Calls Tryz.prog 44 #[.int .i64 M, .int .i64 G] w fun e w' => e = .returned (.tuple #[.int .i64 X, .int .i64 Z]) ∧ w' = w)) :
    Calls Tryz.prog 22 #[.agg #[.int .i64 n, .int .i64 d], .int .i64 u] w fun e w' => e = .returned (.tuple #[.int .i64 X, .int .i64 Z]) ∧ Keep w w' := by
  go_enter Tryz.func22, Tryz.ntmps22
  go_wp2_with fail
  (refine ((uq T1) _).mono ?_; rintro e w2 ⟨rfl, hk⟩; obtain ⟨o1, k1, rfl⟩ := hk.ext; clear hk)
  go_wp2_with fail
  (refine ((uq T2) _).mono ?_; rintro e w2 ⟨rfl, hk⟩; obtain ⟨o2, k2, rfl⟩ := hk.ext; clear hk)
  go_wp2_with fail
  (refine ((uq T3) _).mono ?_; rintro e w2 ⟨rfl, hk⟩; obtain rfl := hk)
  go_wp2_with fail
  (refine ((uq T4) _).mono ?_; rintro e w2 ⟨rfl, hk⟩; obtain ⟨o3, k3, rfl⟩ := hk.ext; clear hk)
  go_wp2_with fail
  (refine ((uq T5) _).mono ?_; rintro e w2 ⟨rfl, hk⟩; obtain rfl := hk)
  go_wp2_with fail
  go_ret2
  exact ⟨rfl, by repeat (first | apply keep_ext | apply Keep.alloc | apply Keep.drew | exact Keep.refl _)⟩
theorem rounded_any {n d : Int} {k : Nat} (hr : Rt n d) (hn : 0 ≤ n) (hk : k ≤ 9) (w : World) :
    Calls Tryz.prog 22 #[.agg #[.int .i64 n, .int .i64 d], .int .i64 (ten k)] w fun e w' => e = .returned (.tuple #[.int .i64 (ans (rnd n d k)), .int .i64 (err (rnd n d k))]) ∧ Keep w w' := by
  obtain ⟨d1, _, n1, n2, d2⟩ := id hr
  have ht := ten_bd hk
  have F1 : Hid (∀ w, Calls Tryz.prog 41 #[.agg #[.int .i64 n, .int .i64 d]] w fun e w' => e = .returned (.int .i64 (n / d)) ∧ Keep w w') := by
    refine hide fun w => ?_
    have h := ffloor_any n d w n1 n2 (by omega) d2
    rw [hr.cn, hr.cd, show flA n d = n / d by unfold flA; rw [if_pos (qe_ok (by omega) (by omega))]; unfold fl; rw [if_pos (by omega)]] at h
    exact h
  have q0 : 0 ≤ n / d := Int.ediv_nonneg hn (by omega)
  have q1 : n / d ≤ n := Int.ediv_le_self d hn
  have r0 := Int.emod_nonneg n (show d ≠ 0 by omega)
  have r1 := Int.emod_lt_of_pos n (show 0 < d by omega)
  have M1 := fun w => mul_any (n / d) (ten k) w (by omega) (by omega) (by omega) (by omega)
  have hR := rnd_parts (n := n) k d1
  have s0 : 0 ≤ n % d * (2 * ten k) := Int.mul_nonneg r0 (by omega)
  have h0 : 0 ≤ n % d * (2 * ten k) / d := Int.ediv_nonneg s0 (by omega)
  have h1 : n % d * (2 * ten k) / d < 2 * ten k := by
    refine (Int.ediv_lt_iff_lt_mul (by omega)).2 ?_
    rw [Int.mul_comm (2 * ten k) d]
    exact Int.mul_lt_mul_of_pos_right r1 (by omega)
  have p0 : 0 ≤ n / d * ten k := Int.mul_nonneg q0 (by omega)
  by_cases hf : n / d * ten k ≤ 9223372036854775807
  · have M2 : ∀ w, Calls Tryz.prog 40 #[.int .i64 (n / d), .int .i64 (ten k)] w fun e w' => e = .returned (.tuple #[.int .i64 (n / d * ten k), .int .i64 0]) ∧ Keep w w' := by
      intro w
      have h := M1 w
      rw [ans_yes (by omega) hf, err_yes (by omega) hf] at h
      exact h
    have D1 := fun w => mod_any n d w n1 n2 (by omega) d2
    rw [show moA n d = n % d by unfold moA; rw [if_neg (by omega)]] at D1
    have S1 := fun w => scale_any (n % d) (2 * ten k) d w (by omega) (by omega) (by omega) (by omega) d1 d2
    generalize hH : n % d * (2 * ten k) / d = H at *
    rw [ans_yes (by omega) (by omega)] at S1
    have A1 := fun w => add_any (n / d * ten k) ((H + 1) / 2) w (by omega) hf (by omega) (by omega)
    rw [← hR] at A1
    exact rounded_fits n d (ten k) (n / d) _ _ _ (2 * ten k) H _ (H + 1) ((H + 1) / 2) _ _ w (wrap_in (by omega)) (wrap_in (by omega)) (Int.tdiv_eq_ediv_of_nonneg (by omega)) (wrap_in (by omega)) F1 (hide M2) (hide D1) (hide S1) (hide A1)
  · have M2 : ∀ w, Calls Tryz.prog 40 #[.int .i64 (n / d), .int .i64 (ten k)] w fun e w' => e = .returned (.tuple #[.int .i64 0, .int .i64 2]) ∧ Keep w w' := by
      intro w
      have h := M1 w
      rw [ans_no (by omega), err_no (by omega)] at h
      exact h
    have : 9223372036854775807 < rnd n d k := by
      rw [hR]
      have : 0 ≤ (n % d * (2 * ten k) / d + 1) / 2 := by omega
      omega
    rw [ans_no (by omega), err_no (by omega)]
    exact rounded_over n d (ten k) (n / d) _ w F1 (hide M2)
/-! ### Rate -/
set_option maxHeartbeats 1000000 in
theorem rate_a (n d p : Int) (w : World) (h : p < 0) : Calls Tryz.prog 14 #[.agg #[.int .i64 n, .int .i64 d], .int .i64 p] w fun e w' => e = .returned (.tuple #[.string ⟨#[]⟩, .int .i64 1]) ∧ Keep w w' := by
  go_enter Tryz.func14, Tryz.ntmps14
  go_wp2_with fail
  go_ret2
  exact ⟨rfl, by repeat (first | apply keep_ext | apply Keep.alloc | apply Keep.drew | exact Keep.refl _)⟩
set_option maxHeartbeats 1000000 in
theorem rate_b (n d p : Int) (w : World) (h0 : ¬ p < 0) (h : 9 < p) : Calls Tryz.prog 14 #[.agg #[.int .i64 n, .int .i64 d], .int .i64 p] w fun e w' => e = .returned (.tuple #[.string ⟨#[]⟩, .int .i64 1]) ∧ Keep w w' := by
  go_enter Tryz.func14, Tryz.ntmps14
  go_wp2_with fail
  go_ret2
  exact ⟨rfl, by repeat (first | apply keep_ext | apply Keep.alloc | apply Keep.drew | exact Keep.refl _)⟩
set_option maxHeartbeats 1000000 in
theorem rate_c (n d p : Int) (w : World) (h0 : ¬ p < 0) (h1 : ¬ 9 < p) (h : n < 0) : Calls Tryz.prog 14 #[.agg #[.int .i64 n, .int .i64 d], .int .i64 p] w fun e w' => e = .returned (.tuple #[.string ⟨#[]⟩, .int .i64 1]) ∧ Keep w w' := by
  go_enter Tryz.func14, Tryz.ntmps14
  go_wp2_with fail
  go_ret2
  exact ⟨rfl, by repeat (first | apply keep_ext | apply Keep.alloc | apply Keep.drew | exact Keep.refl _)⟩
set_option maxHeartbeats 1000000 in
theorem rate_d (n d p : Int) (w : World) (h0 : ¬ p < 0) (h1 : ¬ 9 < p) (h : ¬ n < 0) (T : Hid (∀ w, Calls Tryz.prog 21 #[.agg #[.int .i64 n, .int .i64 d]] w fun e w' => e = .returned (.bool false) ∧ Keep w w')) : Calls Tryz.prog 14 #[.agg #[.int .i64 n, .int .i64 d], .int .i64 p] w fun e w' => e = .returned (.tuple #[.string ⟨#[]⟩, .int .i64 1]) ∧ Keep w w' := by
  go_enter Tryz.func14, Tryz.ntmps14
  go_wp2_with fail
  (refine ((uq T) _).mono ?_; rintro e w2 ⟨rfl, hk⟩; obtain ⟨o1, k1, rfl⟩ := hk.ext; clear hk)
  go_wp2_with fail
  go_ret2
  exact ⟨rfl, by repeat (first | apply keep_ext | apply Keep.alloc | apply Keep.drew | exact Keep.refl _)⟩
set_option maxHeartbeats 2000000 in
theorem rate_e (n d p u X z : Int) (w : World) (h0 : ¬ p < 0) (h1 : ¬ 9 < p) (h : ¬ n < 0) (hz : ¬ z = 0) (T : Hid (∀ w, Calls Tryz.prog 21 #[.agg #[.int .i64 n, .int .i64 d]] w fun e w' => e = .returned (.bool true) ∧ Keep w w'))
    (T1 : Hid (∀ w, Calls Tryz.prog 23 #[.int .i64 p] w fun e w' => e = .returned (.int .i64 u) ∧ w' = w))
    (T2 : Hid (∀ w, Calls Tryz.prog 22 #[.agg #[.int .i64 n, .int .i64 d], .int .i64 u] w fun e w' => e = .returned (.tuple #[.int .i64 X, .int .i64 z]) ∧ Keep w w')) :
    Calls Tryz.prog 14 #[.agg #[.int .i64 n, .int .i64 d], .int .i64 p] w fun e w' => e = .returned (.tuple #[.string ⟨#[]⟩, .int .i64 z]) ∧ Keep w w' := by
  go_enter Tryz.func14, Tryz.ntmps14
  go_wp2_with fail
  (refine ((uq T) _).mono ?_; rintro e w2 ⟨rfl, hk⟩; obtain ⟨o1, k1, rfl⟩ := hk.ext; clear hk)
  go_wp2_with fail
  refine wp_region_held_drew (S := (fun w' => w'.cell? ⟨w.heap.size, 0, none⟩ = some (.int .i64 n) ∧ w'.cell? ⟨w.heap.size, 1, none⟩ = some (.int .i64 d))) (by kernel_rfl) (by simp [go_sem]) (fun hHeld => ?_)
  refine tkk 0 25 hHeld ?_; try simp only [Act.put, Ya, Yb, Yc]
  refine tkk 1 26 hHeld ?_; try simp only [Act.put, Ya, Yb, Yc]
  refine rdyy 2 (fun K hK => ?_)
  go_simp
  clear hHeld
  (refine ((uq T1) _).mono ?_; rintro e w2 ⟨rfl, hk⟩; obtain rfl := hk)
  try go_wp2_with fail
  refine hK.out _ _ ?_ (fun hHeld => ?_)
  · simp [go_sem]
  clear hK K
  try simp only [Act.put, Ya, Yb, Yc]
  refine rdyy 3 (fun K hK => ?_)
  go_simp
  clear hHeld
  (refine ((uq T2) _).mono ?_; rintro e w2 ⟨rfl, hk⟩; obtain ⟨o2, k2, rfl⟩ := hk.ext; clear hk)
  try go_wp2_with fail
  refine hK.out _ _ ?_ (fun hHeld => ?_)
  · simp [go_sem]
  clear hK K
  try simp only [Act.put, Ya, Yb, Yc]
  refine tkk 4 24 hHeld ?_; try simp only [Act.put, Ya, Yb, Yc]
  refine tkk 5 29 hHeld ?_; try simp only [Act.put, Ya, Yb, Yc]
  refine tkk 6 30 hHeld ?_; try simp only [Act.put, Ya, Yb, Yc]
  refine tkk 7 6 hHeld ?_; try simp only [Act.put, Ya, Yb, Yc]
  refine tkk 8 7 hHeld ?_; try simp only [Act.put, Ya, Yb, Yc]
  refine wpAnyH_done (by kernel_rfl) ?_ _
  clear hHeld
  go_wp2_with fail
  go_ret2
  exact ⟨rfl, by repeat (first | apply keep_ext | apply Keep.alloc | apply Keep.drew | exact Keep.refl _)⟩
set_option maxHeartbeats 2000000 in
theorem rate_f (n d p u X : Int) (S : ByteArray) (w : World) (h0 : ¬ p < 0) (h1 : ¬ 9 < p) (h : ¬ n < 0) (T : Hid (∀ w, Calls Tryz.prog 21 #[.agg #[.int .i64 n, .int .i64 d]] w fun e w' => e = .returned (.bool true) ∧ Keep w w'))
    (T1 : Hid (∀ w, Calls Tryz.prog 23 #[.int .i64 p] w fun e w' => e = .returned (.int .i64 u) ∧ w' = w))
    (T2 : Hid (∀ w, Calls Tryz.prog 22 #[.agg #[.int .i64 n, .int .i64 d], .int .i64 u] w fun e w' => e = .returned (.tuple #[.int .i64 X, .int .i64 0]) ∧ Keep w w'))
    (T3 : Hid (∀ w', Keep w w' → Calls Tryz.prog 24 #[.int .i64 X, .int .i64 p] w' fun e w'' => e = .returned (.string S) ∧ Keep w' w'')) :
    Calls Tryz.prog 14 #[.agg #[.int .i64 n, .int .i64 d], .int .i64 p] w fun e w' => e = .returned (.tuple #[.string S, .int .i64 0]) ∧ Keep w w' := by
  go_enter Tryz.func14, Tryz.ntmps14
  go_wp2_with fail
  (refine ((uq T) _).mono ?_; rintro e w2 ⟨rfl, hk⟩; obtain ⟨o1, k1, rfl⟩ := hk.ext; clear hk)
  go_wp2_with fail
  refine wp_region_held_drew (S := (fun w' => w'.cell? ⟨w.heap.size, 0, none⟩ = some (.int .i64 n) ∧ w'.cell? ⟨w.heap.size, 1, none⟩ = some (.int .i64 d))) (by kernel_rfl) (by simp [go_sem]) (fun hHeld => ?_)
  refine tkk 0 25 hHeld ?_; try simp only [Act.put, Ya, Yb, Yc]
  refine tkk 1 26 hHeld ?_; try simp only [Act.put, Ya, Yb, Yc]
  refine rdyy 2 (fun K hK => ?_)
  go_simp
  clear hHeld
  (refine ((uq T1) _).mono ?_; rintro e w2 ⟨rfl, hk⟩; obtain rfl := hk)
  try go_wp2_with fail
  refine hK.out _ _ ?_ (fun hHeld => ?_)
  · simp [go_sem]
  clear hK K
  try simp only [Act.put, Ya, Yb, Yc]
  refine rdyy 3 (fun K hK => ?_)
  go_simp
  clear hHeld
  (refine ((uq T2) _).mono ?_; rintro e w2 ⟨rfl, hk⟩; obtain ⟨o2, k2, rfl⟩ := hk.ext; clear hk)
  try go_wp2_with fail
  refine hK.out _ _ ?_ (fun hHeld => ?_)
  · simp [go_sem]
  clear hK K
  try simp only [Act.put, Ya, Yb, Yc]
  refine tkk 4 24 hHeld ?_; try simp only [Act.put, Ya, Yb, Yc]
  refine tkk 5 29 hHeld ?_; try simp only [Act.put, Ya, Yb, Yc]
  refine tkk 6 30 hHeld ?_; try simp only [Act.put, Ya, Yb, Yc]
  refine tkk 7 6 hHeld ?_; try simp only [Act.put, Ya, Yb, Yc]
  refine tkk 8 7 hHeld ?_; try simp only [Act.put, Ya, Yb, Yc]
  refine wpAnyH_done (by kernel_rfl) ?_ _
  clear hHeld
  go_wp2_with fail
  (refine ((uq T3) _ (by repeat (first | apply keep_ext | apply Keep.alloc | apply Keep.drew | exact Keep.refl _))).mono ?_; rintro e w2 ⟨rfl, hk⟩; obtain ⟨o3, k3, rfl⟩ := hk.ext; clear hk)
  go_wp2_with fail
  go_ret2
  exact ⟨rfl, by repeat (first | apply keep_ext | apply Keep.alloc | apply Keep.drew | exact Keep.refl _)⟩
end W
end Go.Proofs.YtnegcifbbbmlnaaGreatDoor
