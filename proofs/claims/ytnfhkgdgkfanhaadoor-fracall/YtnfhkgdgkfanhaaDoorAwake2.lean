/- The chapter's examples of fractions, walked: awake is true. -/
import Derived.Test.YtnfhkgdgkfanhaaDoorFracD
import Derived.Test.YtnfhkgdgkfanhaaDoorFracE
namespace Go.Proofs.YtnfhkgdgkfanhaaDoor
open Go.RowKit
set_option linter.unusedVariables false
set_option maxRecDepth 10000
theorem add_c1 (w : World) : Calls Tryd.prog 15 #[.agg #[.int .i64 1, .int .i64 6], .agg #[.int .i64 1, .int .i64 10]] w fun e w' => e = .returned (.tuple #[.agg #[.int .i64 4, .int .i64 15], .int .i64 0]) ∧ Keep w w' := by
  have h := fadd_any 1 6 1 10 w (by omega) (by omega) (by omega) (by omega) (by omega) (by omega) (by omega) (by omega)
  have e : fv (rn (cn 1 6 * cd 1 10 + cn 1 10 * cd 1 6) (cd 1 6 * cd 1 10)) (rd (cn 1 6 * cd 1 10 + cn 1 10 * cd 1 6) (cd 1 6 * cd 1 10)) = .tuple #[.agg #[.int .i64 4, .int .i64 15], .int .i64 0] := by
    have a1 : cn 1 6 = 1 := by decide
    have a2 : cd 1 6 = 6 := by decide
    have a3 : cn 1 10 = 1 := by decide
    have a4 : cd 1 10 = 10 := by decide
    have b1 : rn (1 * 10 + 1 * 6) (6 * 10) = 4 := by decide
    have b2 : rd (1 * 10 + 1 * 6) (6 * 10) = 15 := by decide
    rw [a1, a2, a3, a4, b1, b2]
    unfold fv
    have c1 : pN 4 15 = 4 := by decide
    have c2 : pD 4 15 = 15 := by decide
    have c3 : pE 4 15 = 0 := by decide
    rw [c1, c2, c3]
  rw [e] at h
  exact h
theorem add_c2 (w : World) : Calls Tryd.prog 15 #[.agg #[.int .i64 1, .int .i64 4611686018427387904], .agg #[.int .i64 1, .int .i64 4611686018427387903]] w fun e w' => e = .returned (.tuple #[.agg #[.int .i64 0, .int .i64 0], .int .i64 2]) ∧ Keep w w' := by
  have h := fadd_any 1 4611686018427387904 1 4611686018427387903 w (by omega) (by omega) (by omega) (by omega) (by omega) (by omega) (by omega) (by omega)
  have r1 : Rt 1 4611686018427387904 := ⟨by omega, by simp, by omega, by omega, by omega⟩
  have r2 : Rt 1 4611686018427387903 := ⟨by omega, by simp, by omega, by omega, by omega⟩
  rw [r1.cn, r1.cd, r2.cn, r2.cd] at h
  obtain ⟨e1, e2⟩ := red_one (n := 9223372036854775807) (d := 4611686018427387904 * 4611686018427387903) (N := 1 * 4611686018427387903 + 1 * 4611686018427387904) (D := 4611686018427387904 * 4611686018427387903) (by decide) (by decide) (by decide +kernel) (by decide)
  rw [e1, e2] at h
  obtain ⟨p1, p2, p3⟩ := pair_no (n := 9223372036854775807) (d := 4611686018427387904 * 4611686018427387903) (.inr (fit_no (by omega)))
  unfold fv at h
  rw [p1, p2, p3] at h
  exact h
theorem floor_c (w : World) : Calls Tryd.prog 25 #[.agg #[.int .i64 (-1), .int .i64 2]] w fun e w' => e = .returned (.int .i64 (-1)) ∧ Keep w w' := by
  have h := ffloor_any (-1) 2 w (by omega) (by omega) (by omega) (by omega)
  have e : flA (cn (-1) 2) (cd (-1) 2) = -1 := by decide
  rw [e] at h
  exact h
set_option maxHeartbeats 1000000 in
theorem awake_any (w : World) :
    Calls Tryd.prog 14 #[] w fun e w' => e = .returned (.bool true) ∧ Keep w w' := by
  have A1 : Hid (∀ w, _) := fun w => add_c1 w
  have A2 : Hid (∀ w, _) := fun w => add_c2 w
  have F1 : Hid (∀ w, _) := fun w => floor_c w
  have P1 : Hid (∀ w, _) := fun w => print_c w
  go_enter Tryd.func14, Tryd.ntmps14
  go_wp2_with fail
  (refine ((unhide A1) _).mono ?_; rintro e w2 ⟨rfl, hk⟩; obtain ⟨o1, k1, rfl⟩ := hk.ext; clear hk)
  go_wp2_with fail
  (refine ((unhide A2) _).mono ?_; rintro e w2 ⟨rfl, hk⟩; obtain ⟨o2, k2, rfl⟩ := hk.ext; clear hk)
  go_wp2_with fail
  (refine ((unhide F1) _).mono ?_; rintro e w2 ⟨rfl, hk⟩; obtain ⟨o3, k3, rfl⟩ := hk.ext; clear hk)
  go_wp2_with fail
  (refine ((unhide P1) _).mono ?_; rintro e w2 ⟨rfl, hk⟩; obtain ⟨o4, k4, rfl⟩ := hk.ext; clear hk)
  go_wp2_with fail
  go_ret
  exact ⟨rfl, by repeat (first | apply keep_ext | apply Keep.alloc | apply Keep.drew | exact Keep.refl _)⟩
end Go.Proofs.YtnfhkgdgkfanhaaDoor
