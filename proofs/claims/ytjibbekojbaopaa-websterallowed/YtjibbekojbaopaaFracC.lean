/- Package frac: a fraction in lowest terms, if it fits. -/
import Derived.Test.YtjibbekojbaopaaFracB
namespace Go.Proofs.Ytjibbekojbaopaa
open Go.RowKit
set_option linter.unusedVariables false

set_option maxHeartbeats 400000 in
theorem fit_a (H L DH DL : Int) (w : World) (b : Bool) (h : ¬ DH = 0) :
    Calls Try.prog 72 #[.bool b, .agg #[.int .u64 H, .int .u64 L], .agg #[.int .u64 DH, .int .u64 DL]] w fun e w' => e = .returned (.tuple #[.agg #[.int .i64 0, .int .i64 0], .int .i64 2]) ∧ Keep w w' := by
  go_enter Try.func72, Try.ntmps72
  go_wp2
  exact bodyPost_ret (v := .tuple #[.agg #[.int .i64 0, .int .i64 0], .int .i64 2]) (by simp [results, Try.results72, go_sem]) rfl ⟨rfl, by repeat (first | apply keep_ext | apply Keep.alloc | apply Keep.drew | exact Keep.refl _)⟩

set_option maxHeartbeats 400000 in
theorem fit_b (H L DL : Int) (w : World) (b : Bool) (h : 9223372036854775807 < DL) :
    Calls Try.prog 72 #[.bool b, .agg #[.int .u64 H, .int .u64 L], .agg #[.int .u64 0, .int .u64 DL]] w fun e w' => e = .returned (.tuple #[.agg #[.int .i64 0, .int .i64 0], .int .i64 2]) ∧ Keep w w' := by
  go_enter Try.func72, Try.ntmps72
  go_wp2
  exact bodyPost_ret (v := .tuple #[.agg #[.int .i64 0, .int .i64 0], .int .i64 2]) (by simp [results, Try.results72, go_sem]) rfl ⟨rfl, by repeat (first | apply keep_ext | apply Keep.alloc | apply Keep.drew | exact Keep.refl _)⟩

set_option maxHeartbeats 400000 in
theorem fit_c_false (H L DL : Int) (w : World) (h : ¬ 9223372036854775807 < DL) (h2 : ¬ H = 0) :
    Calls Try.prog 72 #[.bool false, .agg #[.int .u64 H, .int .u64 L], .agg #[.int .u64 0, .int .u64 DL]] w fun e w' => e = .returned (.tuple #[.agg #[.int .i64 0, .int .i64 0], .int .i64 2]) ∧ Keep w w' := by
  go_enter Try.func72, Try.ntmps72
  go_wp2
  exact bodyPost_ret (v := .tuple #[.agg #[.int .i64 0, .int .i64 0], .int .i64 2]) (by simp [results, Try.results72, go_sem]) rfl ⟨rfl, by repeat (first | apply keep_ext | apply Keep.alloc | apply Keep.drew | exact Keep.refl _)⟩

set_option maxHeartbeats 400000 in
theorem fit_d_false (L DL : Int) (w : World) (h : ¬ 9223372036854775807 < DL) (h2 : 9223372036854775807 < L) :
    Calls Try.prog 72 #[.bool false, .agg #[.int .u64 0, .int .u64 L], .agg #[.int .u64 0, .int .u64 DL]] w fun e w' => e = .returned (.tuple #[.agg #[.int .i64 0, .int .i64 0], .int .i64 2]) ∧ Keep w w' := by
  go_enter Try.func72, Try.ntmps72
  go_wp2
  exact bodyPost_ret (v := .tuple #[.agg #[.int .i64 0, .int .i64 0], .int .i64 2]) (by simp [results, Try.results72, go_sem]) rfl ⟨rfl, by repeat (first | apply keep_ext | apply Keep.alloc | apply Keep.drew | exact Keep.refl _)⟩

set_option maxHeartbeats 400000 in
theorem fit_c_true (H L DL : Int) (w : World) (h : ¬ 9223372036854775807 < DL) (h2 : ¬ H = 0) :
    Calls Try.prog 72 #[.bool true, .agg #[.int .u64 H, .int .u64 L], .agg #[.int .u64 0, .int .u64 DL]] w fun e w' => e = .returned (.tuple #[.agg #[.int .i64 0, .int .i64 0], .int .i64 2]) ∧ Keep w w' := by
  go_enter Try.func72, Try.ntmps72
  go_wp2
  exact bodyPost_ret (v := .tuple #[.agg #[.int .i64 0, .int .i64 0], .int .i64 2]) (by simp [results, Try.results72, go_sem]) rfl ⟨rfl, by repeat (first | apply keep_ext | apply Keep.alloc | apply Keep.drew | exact Keep.refl _)⟩

set_option maxHeartbeats 400000 in
theorem fit_d_true (L DL : Int) (w : World) (h : ¬ 9223372036854775807 < DL) (h2 : 9223372036854775808 < L) :
    Calls Try.prog 72 #[.bool true, .agg #[.int .u64 0, .int .u64 L], .agg #[.int .u64 0, .int .u64 DL]] w fun e w' => e = .returned (.tuple #[.agg #[.int .i64 0, .int .i64 0], .int .i64 2]) ∧ Keep w w' := by
  go_enter Try.func72, Try.ntmps72
  go_wp2
  exact bodyPost_ret (v := .tuple #[.agg #[.int .i64 0, .int .i64 0], .int .i64 2]) (by simp [results, Try.results72, go_sem]) rfl ⟨rfl, by repeat (first | apply keep_ext | apply Keep.alloc | apply Keep.drew | exact Keep.refl _)⟩

set_option maxHeartbeats 400000 in
theorem fit_e_false (L DL : Int) (w : World) (h : ¬ 9223372036854775807 < DL) (h2 : ¬ 9223372036854775807 < L) (e1 : wrap64 L = L) (e2 : wrap64 DL = DL) :
    Calls Try.prog 72 #[.bool false, .agg #[.int .u64 0, .int .u64 L], .agg #[.int .u64 0, .int .u64 DL]] w fun e w' => e = .returned (.tuple #[.agg #[.int .i64 L, .int .i64 DL], .int .i64 0]) ∧ Keep w w' := by
  go_enter Try.func72, Try.ntmps72
  go_wp2
  exact bodyPost_ret (v := .tuple #[.agg #[.int .i64 L, .int .i64 DL], .int .i64 0]) (by simp [results, Try.results72, go_sem]) rfl ⟨rfl, by repeat (first | apply keep_ext | apply Keep.alloc | apply Keep.drew | exact Keep.refl _)⟩

set_option maxHeartbeats 400000 in
theorem fit_e_true (L DL U N : Int) (w : World) (h : ¬ 9223372036854775807 < DL) (h2 : ¬ 9223372036854775808 < L) (e0 : IntKind.u64.wrap (-L) = U) (e1 : wrap64 U = N) (e2 : wrap64 DL = DL) :
    Calls Try.prog 72 #[.bool true, .agg #[.int .u64 0, .int .u64 L], .agg #[.int .u64 0, .int .u64 DL]] w fun e w' => e = .returned (.tuple #[.agg #[.int .i64 N, .int .i64 DL], .int .i64 0]) ∧ Keep w w' := by
  go_enter Try.func72, Try.ntmps72
  go_wp2
  exact bodyPost_ret (v := .tuple #[.agg #[.int .i64 N, .int .i64 DL], .int .i64 0]) (by simp [results, Try.results72, go_sem]) rfl ⟨rfl, by repeat (first | apply keep_ext | apply Keep.alloc | apply Keep.drew | exact Keep.refl _)⟩

/-- a size with its sign -/
def sgn (b : Bool) (u : Int) : Int := if b then -u else u
theorem pair_no {n d : Int} (h : fit n = false ∨ fit d = false) : pN n d = 0 ∧ pD n d = 0 ∧ pE n d = 2 := by
  have e : (fit n && fit d) = false := by rcases h with h | h <;> simp [h]
  simp [pN, pD, pE, e]
theorem pair_yes {n d : Int} (h : fit n = true) (h2 : fit d = true) : pN n d = n ∧ pD n d = d ∧ pE n d = 0 := by
  simp [pN, pD, pE, h, h2]
theorem fit_any (b : Bool) (u v : Int) (w : World) (h0 : 0 ≤ u) (h1 : u < 340282366920938463463374607431768211456) (h2 : 0 ≤ v) (h3 : v < 340282366920938463463374607431768211456) :
    Calls Try.prog 72 #[.bool b, .agg #[.int .u64 (hiOf u), .int .u64 (loOf u)], .agg #[.int .u64 (hiOf v), .int .u64 (loOf v)]] w fun e w' => e = .returned (fv (sgn b u) v) ∧ Keep w w' := by
  have bu := half_bd h0 h1
  have bv := half_bd h2 h3
  have hu := halves u
  have hv := halves v
  unfold fv
  by_cases c1 : hiOf v = 0
  · by_cases c2 : 9223372036854775807 < loOf v
    · obtain ⟨e1, e2, e3⟩ := pair_no (n := sgn b u) (d := v) (.inr (fit_no (by omega)))
      rw [e1, e2, e3, c1]
      exact fit_b _ _ _ w b c2
    · have ev : loOf v = v := by omega
      have fd : fit v = true := fit_yes (by omega) (by omega)
      by_cases c3 : hiOf u = 0
      · have eu : loOf u = u := by omega
        rw [c1, c3, ev, eu]
        cases b
        · by_cases c4 : 9223372036854775807 < u
          · obtain ⟨e1, e2, e3⟩ := pair_no (n := sgn false u) (d := v) (.inl (fit_no (by simp [sgn]; omega)))
            rw [e1, e2, e3]
            exact fit_d_false _ _ w (by omega) c4
          · obtain ⟨e1, e2, e3⟩ := pair_yes (n := sgn false u) (d := v) (fit_yes (by simp [sgn]; omega) (by simp [sgn]; omega)) fd
            rw [e1, e2, e3]
            exact fit_e_false _ _ w (by omega) c4 (wrap_in (by omega)) (wrap_in (by omega))
        · by_cases c4 : 9223372036854775808 < u
          · obtain ⟨e1, e2, e3⟩ := pair_no (n := sgn true u) (d := v) (.inl (fit_no (by simp [sgn]; omega)))
            rw [e1, e2, e3]
            exact fit_d_true _ _ w (by omega) c4
          · obtain ⟨e1, e2, e3⟩ := pair_yes (n := sgn true u) (d := v) (fit_yes (by simp [sgn]; omega) (by simp [sgn]; omega)) fd
            rw [e1, e2, e3]
            exact fit_e_true u v _ _ w (by omega) c4 rfl (by simp only [sgn, if_true]; rw [IntKind.wrap_u64]; unfold wrap64; omega) (wrap_in (by omega))
      · have c3' := c3
        rw [c1]
        cases b
        · obtain ⟨e1, e2, e3⟩ := pair_no (n := sgn false u) (d := v) (.inl (fit_no (by simp [sgn]; omega)))
          rw [e1, e2, e3]
          exact fit_c_false _ _ _ w c2 c3'
        · obtain ⟨e1, e2, e3⟩ := pair_no (n := sgn true u) (d := v) (.inl (fit_no (by simp [sgn]; omega)))
          rw [e1, e2, e3]
          exact fit_c_true _ _ _ w c2 c3'
  · obtain ⟨e1, e2, e3⟩ := pair_no (n := sgn b u) (d := v) (.inr (fit_no (by omega)))
    rw [e1, e2, e3]
    exact fit_a _ _ _ _ w b c1
end Go.Proofs.Ytjibbekojbaopaa
