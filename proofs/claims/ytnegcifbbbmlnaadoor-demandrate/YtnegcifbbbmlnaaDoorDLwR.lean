/- Layer 9's laws over letters. -/
import Derived.Test.YtnegcifbbbmlnaaDoorDMath
import Derived.Test.YtnegcifbbbmlnaaDoorExt
import Derived.Test.YtnegcifbbbmlnaaDoorDLaw
import Derived.Deep.DrawnRows
import Derived.Deep.RegionHeld
namespace Go.Proofs.YtnegcifbbbmlnaaDoor
open Go.RowKit
attribute [local go_sem ↓] Go.wp_at_zero Go.wp_at_succ
set_option linter.unusedVariables false
set_option linter.unusedSimpArgs false
set_option maxRecDepth 10000
namespace W
set_option maxHeartbeats 8000000 in
theorem law_ratio (S0 : ByteArray) (n5 n6 n7 n8 n9 n10 : Int) (v s un ud pn pd X Y Z R S T : Int) (w : World)
    (A1 : Hid (∀ w, Calls Tryd.prog 7 #[.agg #[.string S0, .int .i64 v, .int .i64 s, .int .i64 un, .int .i64 ud, .int .i64 n5, .int .i64 n6, .int .i64 n7, .int .i64 n8, .int .i64 n9, .int .i64 n10], .agg #[.int .i64 pn, .int .i64 pd]] w fun e w' => e = .returned (.tuple #[.agg #[.int .i64 X, .int .i64 Y], .int .i64 Z]) ∧ Keep w w'))
    (A2 : Hid (∀ w, Calls Tryd.prog 8 #[.agg #[.string S0, .int .i64 v, .int .i64 s, .int .i64 un, .int .i64 ud, .int .i64 n5, .int .i64 n6, .int .i64 n7, .int .i64 n8, .int .i64 n9, .int .i64 n10], .agg #[.int .i64 pn, .int .i64 pd]] w fun e w' => e = .returned (.tuple #[.agg #[.int .i64 X, .int .i64 Y], .int .i64 Z]) ∧ Keep w w'))
    (A3 : Hid (∀ w, Calls Tryd.prog 9 #[.agg #[.string S0, .int .i64 v, .int .i64 s, .int .i64 un, .int .i64 ud, .int .i64 n5, .int .i64 n6, .int .i64 n7, .int .i64 n8, .int .i64 n9, .int .i64 n10], .agg #[.int .i64 pn, .int .i64 pd]] w fun e w' => e = .returned (.tuple #[.agg #[.int .i64 R, .int .i64 S], .int .i64 T]) ∧ Keep w w'))
    (A4 : Hid (∀ w, Calls Tryd.prog 10 #[.agg #[.string S0, .int .i64 v, .int .i64 s, .int .i64 un, .int .i64 ud, .int .i64 n5, .int .i64 n6, .int .i64 n7, .int .i64 n8, .int .i64 n9, .int .i64 n10], .agg #[.int .i64 pn, .int .i64 pd]] w fun e w' => e = .returned (.tuple #[.agg #[.int .i64 R, .int .i64 S], .int .i64 T]) ∧ Keep w w'))
    (A : Hid (∀ w', Keep w w' → Calls Tryd.prog 11 #[] w' fun e w'' => e = .returned (.bool true) ∧ Keep w' w'')) :
    Calls Tryd.prog 3 #[.agg #[.string S0, .int .i64 v, .int .i64 s, .int .i64 un, .int .i64 ud, .int .i64 n5, .int .i64 n6, .int .i64 n7, .int .i64 n8, .int .i64 n9, .int .i64 n10], .agg #[.int .i64 pn, .int .i64 pd]] w fun e w' => e = .returned (.bool true) ∧ Keep w w' := by
  go_enter Tryd.func3, Tryd.ntmps3
  go_wp2_with fail
  (refine ((unhide A1) _).mono ?_; rintro e w2 ⟨rfl, hk⟩; obtain ⟨o1, k1, rfl⟩ := hk.ext; clear hk)
  go_wp2_with fail
  (refine ((unhide A2) _).mono ?_; rintro e w2 ⟨rfl, hk⟩; obtain ⟨o2, k2, rfl⟩ := hk.ext; clear hk)
  go_wp2_with fail
  (refine ((unhide A3) _).mono ?_; rintro e w2 ⟨rfl, hk⟩; obtain ⟨o3, k3, rfl⟩ := hk.ext; clear hk)
  go_wp2_with fail
  (refine ((unhide A4) _).mono ?_; rintro e w2 ⟨rfl, hk⟩; obtain ⟨o4, k4, rfl⟩ := hk.ext; clear hk)
  go_wp2_with fail
  (refine ((unhide A) _ (by repeat (first | (with_reducible exact Keep.refl _) | apply keep_ext | apply Keep.alloc | apply Keep.drew))).mono ?_; rintro e w2 ⟨rfl, hk⟩; obtain ⟨o5, k5, rfl⟩ := hk.ext; clear hk)
  go_wp2_with fail
  go_ret
  exact ⟨rfl, by repeat (first | (with_reducible exact Keep.refl _) | apply keep_ext | apply Keep.alloc | apply Keep.drew)⟩
set_option maxHeartbeats 4000000 in
theorem law_rate (n d p Z : Int) (S : ByteArray) (w : World)
    (A1 : Hid (∀ w', Keep w w' → Calls Tryd.prog 12 #[.agg #[.int .i64 n, .int .i64 d], .int .i64 p] w' fun e w'' => e = .returned (.tuple #[.string S, .int .i64 Z]) ∧ Keep w' w''))
    (A2 : Hid (∀ w', Keep w w' → Calls Tryd.prog 13 #[.agg #[.int .i64 n, .int .i64 d], .int .i64 p] w' fun e w'' => e = .returned (.tuple #[.string S, .int .i64 Z]) ∧ Keep w' w''))
    (A : Hid (∀ w', Keep w w' → Calls Tryd.prog 11 #[] w' fun e w'' => e = .returned (.bool true) ∧ Keep w' w'')) :
    Calls Tryd.prog 4 #[.agg #[.int .i64 n, .int .i64 d], .int .i64 p] w fun e w' => e = .returned (.bool true) ∧ Keep w w' := by
  go_enter Tryd.func4, Tryd.ntmps4
  go_wp2_with fail
  (refine ((unhide A1) _ (by repeat (first | (with_reducible exact Keep.refl _) | apply keep_ext | apply Keep.alloc | apply Keep.drew))).mono ?_; rintro e w2 ⟨rfl, hk⟩; obtain ⟨o1, k1, rfl⟩ := hk.ext; clear hk)
  go_wp2_with fail
  (refine ((unhide A2) _ (by repeat (first | (with_reducible exact Keep.refl _) | apply keep_ext | apply Keep.alloc | apply Keep.drew))).mono ?_; rintro e w2 ⟨rfl, hk⟩; obtain ⟨o2, k2, rfl⟩ := hk.ext; clear hk)
  go_wp2_with fail
  (refine ((unhide A) _ (by repeat (first | (with_reducible exact Keep.refl _) | apply keep_ext | apply Keep.alloc | apply Keep.drew))).mono ?_; rintro e w2 ⟨rfl, hk⟩; obtain ⟨o5, k5, rfl⟩ := hk.ext; clear hk)
  go_wp2_with fail
  go_ret
  exact ⟨rfl, by repeat (first | (with_reducible exact Keep.refl _) | apply keep_ext | apply Keep.alloc | apply Keep.drew)⟩
end W
end Go.Proofs.YtnegcifbbbmlnaaDoor
