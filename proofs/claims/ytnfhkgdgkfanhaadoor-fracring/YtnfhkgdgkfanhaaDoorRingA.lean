/- The law's own function: three fractions added, or multiplied, in two orders. -/
import Derived.Test.YtnfhkgdgkfanhaaDoorFracV
import Derived.Test.YtnfhkgdgkfanhaaDoorFracD
import Derived.Test.YtnfhkgdgkfanhaaDoorFRing
namespace Go.Proofs.YtnfhkgdgkfanhaaDoor
open Go.RowKit
set_option linter.unusedVariables false
set_option maxRecDepth 10000
set_option maxHeartbeats 2000000 in
theorem lsum_1 (a0 b0 a1 b1 a2 b2 X1 Y1 X2 Y2 X3 Y3 X4 Y4 Z1 Z2 Z3 Z4 : Int) (w : World) (hz : ¬ Z1 = 0) (hz2 : (Z1 == 0) = false) (hz3 : (Z1 != 0) = true) (R : Int → Int → Int → Int → Int → Int → Int → Prop)
    (r1 : R a0 b0 a1 b1 X1 Y1 Z1) (r2 : R X1 Y1 a2 b2 X2 Y2 Z2) (r3 : R a1 b1 a2 b2 X3 Y3 Z3) (r4 : R a0 b0 X3 Y3 X4 Y4 Z4)
    (OP : Hid (∀ (n d n2 d2 X Y Z : Int), R n d n2 d2 X Y Z → ∀ w, Calls Tryd.prog 15 #[.agg #[.int .i64 n, .int .i64 d], .agg #[.int .i64 n2, .int .i64 d2]] w fun e w' => e = .returned (.tuple #[.agg #[.int .i64 X, .int .i64 Y], .int .i64 Z]) ∧ Keep w w')) :
    Calls Tryd.prog 35 #[.agg #[.int .i64 a0, .int .i64 b0, .int .i64 a1, .int .i64 b1, .int .i64 a2, .int .i64 b2], .func (.func 15) #[] #[]] w fun e w' => e = .returned (.bool true) ∧ Keep w w' := by
  go_enter Tryd.func35, Tryd.ntmps35
  go_wp2_with fail
  (refine ((unhide OP) _ _ _ _ _ _ _ r1 _).mono ?_; rintro e w2 ⟨rfl, hk⟩; obtain ⟨o1, k1, rfl⟩ := hk.ext; clear hk)
  go_wp2_with fail
  (refine ((unhide OP) _ _ _ _ _ _ _ r2 _).mono ?_; rintro e w2 ⟨rfl, hk⟩; obtain ⟨o2, k2, rfl⟩ := hk.ext; clear hk)
  go_wp2_with fail
  (refine ((unhide OP) _ _ _ _ _ _ _ r3 _).mono ?_; rintro e w2 ⟨rfl, hk⟩; obtain ⟨o3, k3, rfl⟩ := hk.ext; clear hk)
  go_wp2_with fail
  (refine ((unhide OP) _ _ _ _ _ _ _ r4 _).mono ?_; rintro e w2 ⟨rfl, hk⟩; obtain ⟨o4, k4, rfl⟩ := hk.ext; clear hk)
  go_wp2_with fail
  go_ret
  exact ⟨rfl, by repeat (first | apply keep_ext | apply Keep.alloc | apply Keep.drew | exact Keep.refl _)⟩
set_option maxHeartbeats 2000000 in
theorem lsum_2 (a0 b0 a1 b1 a2 b2 X1 Y1 X2 Y2 X3 Y3 X4 Y4 Z2 Z3 Z4 : Int) (w : World) (hz : ¬ Z2 = 0) (hz2 : (Z2 == 0) = false) (hz3 : (Z2 != 0) = true) (R : Int → Int → Int → Int → Int → Int → Int → Prop)
    (r1 : R a0 b0 a1 b1 X1 Y1 0) (r2 : R X1 Y1 a2 b2 X2 Y2 Z2) (r3 : R a1 b1 a2 b2 X3 Y3 Z3) (r4 : R a0 b0 X3 Y3 X4 Y4 Z4)
    (OP : Hid (∀ (n d n2 d2 X Y Z : Int), R n d n2 d2 X Y Z → ∀ w, Calls Tryd.prog 15 #[.agg #[.int .i64 n, .int .i64 d], .agg #[.int .i64 n2, .int .i64 d2]] w fun e w' => e = .returned (.tuple #[.agg #[.int .i64 X, .int .i64 Y], .int .i64 Z]) ∧ Keep w w')) :
    Calls Tryd.prog 35 #[.agg #[.int .i64 a0, .int .i64 b0, .int .i64 a1, .int .i64 b1, .int .i64 a2, .int .i64 b2], .func (.func 15) #[] #[]] w fun e w' => e = .returned (.bool true) ∧ Keep w w' := by
  go_enter Tryd.func35, Tryd.ntmps35
  go_wp2_with fail
  (refine ((unhide OP) _ _ _ _ _ _ _ r1 _).mono ?_; rintro e w2 ⟨rfl, hk⟩; obtain ⟨o1, k1, rfl⟩ := hk.ext; clear hk)
  go_wp2_with fail
  (refine ((unhide OP) _ _ _ _ _ _ _ r2 _).mono ?_; rintro e w2 ⟨rfl, hk⟩; obtain ⟨o2, k2, rfl⟩ := hk.ext; clear hk)
  go_wp2_with fail
  (refine ((unhide OP) _ _ _ _ _ _ _ r3 _).mono ?_; rintro e w2 ⟨rfl, hk⟩; obtain ⟨o3, k3, rfl⟩ := hk.ext; clear hk)
  go_wp2_with fail
  (refine ((unhide OP) _ _ _ _ _ _ _ r4 _).mono ?_; rintro e w2 ⟨rfl, hk⟩; obtain ⟨o4, k4, rfl⟩ := hk.ext; clear hk)
  go_wp2_with fail
  go_ret
  exact ⟨rfl, by repeat (first | apply keep_ext | apply Keep.alloc | apply Keep.drew | exact Keep.refl _)⟩
set_option maxHeartbeats 2000000 in
theorem lsum_3 (a0 b0 a1 b1 a2 b2 X1 Y1 X2 Y2 X3 Y3 X4 Y4 Z3 Z4 : Int) (w : World) (hz : ¬ Z3 = 0) (hz2 : (Z3 == 0) = false) (hz3 : (Z3 != 0) = true) (R : Int → Int → Int → Int → Int → Int → Int → Prop)
    (r1 : R a0 b0 a1 b1 X1 Y1 0) (r2 : R X1 Y1 a2 b2 X2 Y2 0) (r3 : R a1 b1 a2 b2 X3 Y3 Z3) (r4 : R a0 b0 X3 Y3 X4 Y4 Z4)
    (OP : Hid (∀ (n d n2 d2 X Y Z : Int), R n d n2 d2 X Y Z → ∀ w, Calls Tryd.prog 15 #[.agg #[.int .i64 n, .int .i64 d], .agg #[.int .i64 n2, .int .i64 d2]] w fun e w' => e = .returned (.tuple #[.agg #[.int .i64 X, .int .i64 Y], .int .i64 Z]) ∧ Keep w w')) :
    Calls Tryd.prog 35 #[.agg #[.int .i64 a0, .int .i64 b0, .int .i64 a1, .int .i64 b1, .int .i64 a2, .int .i64 b2], .func (.func 15) #[] #[]] w fun e w' => e = .returned (.bool true) ∧ Keep w w' := by
  go_enter Tryd.func35, Tryd.ntmps35
  go_wp2_with fail
  (refine ((unhide OP) _ _ _ _ _ _ _ r1 _).mono ?_; rintro e w2 ⟨rfl, hk⟩; obtain ⟨o1, k1, rfl⟩ := hk.ext; clear hk)
  go_wp2_with fail
  (refine ((unhide OP) _ _ _ _ _ _ _ r2 _).mono ?_; rintro e w2 ⟨rfl, hk⟩; obtain ⟨o2, k2, rfl⟩ := hk.ext; clear hk)
  go_wp2_with fail
  (refine ((unhide OP) _ _ _ _ _ _ _ r3 _).mono ?_; rintro e w2 ⟨rfl, hk⟩; obtain ⟨o3, k3, rfl⟩ := hk.ext; clear hk)
  go_wp2_with fail
  (refine ((unhide OP) _ _ _ _ _ _ _ r4 _).mono ?_; rintro e w2 ⟨rfl, hk⟩; obtain ⟨o4, k4, rfl⟩ := hk.ext; clear hk)
  go_wp2_with fail
  go_ret
  exact ⟨rfl, by repeat (first | apply keep_ext | apply Keep.alloc | apply Keep.drew | exact Keep.refl _)⟩
set_option maxHeartbeats 2000000 in
theorem lsum_4 (a0 b0 a1 b1 a2 b2 X1 Y1 X2 Y2 X3 Y3 X4 Y4 Z4 : Int) (w : World) (hz : ¬ Z4 = 0) (hz2 : (Z4 == 0) = false) (hz3 : (Z4 != 0) = true) (R : Int → Int → Int → Int → Int → Int → Int → Prop)
    (r1 : R a0 b0 a1 b1 X1 Y1 0) (r2 : R X1 Y1 a2 b2 X2 Y2 0) (r3 : R a1 b1 a2 b2 X3 Y3 0) (r4 : R a0 b0 X3 Y3 X4 Y4 Z4)
    (OP : Hid (∀ (n d n2 d2 X Y Z : Int), R n d n2 d2 X Y Z → ∀ w, Calls Tryd.prog 15 #[.agg #[.int .i64 n, .int .i64 d], .agg #[.int .i64 n2, .int .i64 d2]] w fun e w' => e = .returned (.tuple #[.agg #[.int .i64 X, .int .i64 Y], .int .i64 Z]) ∧ Keep w w')) :
    Calls Tryd.prog 35 #[.agg #[.int .i64 a0, .int .i64 b0, .int .i64 a1, .int .i64 b1, .int .i64 a2, .int .i64 b2], .func (.func 15) #[] #[]] w fun e w' => e = .returned (.bool true) ∧ Keep w w' := by
  go_enter Tryd.func35, Tryd.ntmps35
  go_wp2_with fail
  (refine ((unhide OP) _ _ _ _ _ _ _ r1 _).mono ?_; rintro e w2 ⟨rfl, hk⟩; obtain ⟨o1, k1, rfl⟩ := hk.ext; clear hk)
  go_wp2_with fail
  (refine ((unhide OP) _ _ _ _ _ _ _ r2 _).mono ?_; rintro e w2 ⟨rfl, hk⟩; obtain ⟨o2, k2, rfl⟩ := hk.ext; clear hk)
  go_wp2_with fail
  (refine ((unhide OP) _ _ _ _ _ _ _ r3 _).mono ?_; rintro e w2 ⟨rfl, hk⟩; obtain ⟨o3, k3, rfl⟩ := hk.ext; clear hk)
  go_wp2_with fail
  (refine ((unhide OP) _ _ _ _ _ _ _ r4 _).mono ?_; rintro e w2 ⟨rfl, hk⟩; obtain ⟨o4, k4, rfl⟩ := hk.ext; clear hk)
  go_wp2_with fail
  go_ret
  exact ⟨rfl, by repeat (first | apply keep_ext | apply Keep.alloc | apply Keep.drew | exact Keep.refl _)⟩
set_option maxHeartbeats 2000000 in
theorem lsum_5 (a0 b0 a1 b1 a2 b2 X1 Y1 X2 Y2 X3 Y3 : Int) (w : World) (R : Int → Int → Int → Int → Int → Int → Int → Prop)
    (r1 : R a0 b0 a1 b1 X1 Y1 0) (r2 : R X1 Y1 a2 b2 X2 Y2 0) (r3 : R a1 b1 a2 b2 X3 Y3 0) (r4 : R a0 b0 X3 Y3 X2 Y2 0) (r5 : R a1 b1 a0 b0 X1 Y1 0)
    (OP : Hid (∀ (n d n2 d2 X Y Z : Int), R n d n2 d2 X Y Z → ∀ w, Calls Tryd.prog 15 #[.agg #[.int .i64 n, .int .i64 d], .agg #[.int .i64 n2, .int .i64 d2]] w fun e w' => e = .returned (.tuple #[.agg #[.int .i64 X, .int .i64 Y], .int .i64 Z]) ∧ Keep w w')) :
    Calls Tryd.prog 35 #[.agg #[.int .i64 a0, .int .i64 b0, .int .i64 a1, .int .i64 b1, .int .i64 a2, .int .i64 b2], .func (.func 15) #[] #[]] w fun e w' => e = .returned (.bool true) ∧ Keep w w' := by
  go_enter Tryd.func35, Tryd.ntmps35
  go_wp2_with fail
  (refine ((unhide OP) _ _ _ _ _ _ _ r1 _).mono ?_; rintro e w2 ⟨rfl, hk⟩; obtain ⟨o1, k1, rfl⟩ := hk.ext; clear hk)
  go_wp2_with fail
  (refine ((unhide OP) _ _ _ _ _ _ _ r2 _).mono ?_; rintro e w2 ⟨rfl, hk⟩; obtain ⟨o2, k2, rfl⟩ := hk.ext; clear hk)
  go_wp2_with fail
  (refine ((unhide OP) _ _ _ _ _ _ _ r3 _).mono ?_; rintro e w2 ⟨rfl, hk⟩; obtain ⟨o3, k3, rfl⟩ := hk.ext; clear hk)
  go_wp2_with fail
  (refine ((unhide OP) _ _ _ _ _ _ _ r4 _).mono ?_; rintro e w2 ⟨rfl, hk⟩; obtain ⟨o4, k4, rfl⟩ := hk.ext; clear hk)
  go_wp2_with fail
  (refine ((unhide OP) _ _ _ _ _ _ _ r5 _).mono ?_; rintro e w2 ⟨rfl, hk⟩; obtain ⟨o5, k5, rfl⟩ := hk.ext; clear hk)
  go_wp2_with fail
  go_ret
  exact ⟨rfl, by repeat (first | apply keep_ext | apply Keep.alloc | apply Keep.drew | exact Keep.refl _)⟩
end Go.Proofs.YtnfhkgdgkfanhaaDoor
