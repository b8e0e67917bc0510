/- Layer 9's laws over letters. -/
import Derived.Test.YtnegcifbbbmlnaaDoorDMath
import Derived.Test.YtnegcifbbbmlnaaDoorExt
import Derived.Test.YtnegcifbbbmlnaaDoorDLaw
import Derived.Deep.DrawnRows
import Derived.Deep.RegionHeld
namespace Go.Proofs.YtnegcifbbbmlnaaDoor
open Go.RowKit
attribute [local go_sem ↓] Go.wp_at_zero Go.wp_at_succ
set_option linter.unusedVariables false
set_option linter.unusedSimpArgs false
set_option maxRecDepth 10000
namespace W
set_option maxHeartbeats 4000000 in
theorem share_a (S0 : ByteArray) (n5 n6 n7 n8 n9 n10 : Int) (v s un ud pn pd X Y Z : Int) (w : World) (h : v < 0)
    (RT : Int → Int → Int → Int → Int → Prop) (KK : Hid (∀ v s X Y Z, RT v s X Y Z → ∀ w, Calls Tryd.prog 9 #[.agg #[.string S0, .int .i64 v, .int .i64 s, .int .i64 un, .int .i64 ud, .int .i64 n5, .int .i64 n6, .int .i64 n7, .int .i64 n8, .int .i64 n9, .int .i64 n10], .agg #[.int .i64 pn, .int .i64 pd]] w fun e w' => e = .returned (.tuple #[.agg #[.int .i64 X, .int .i64 Y], .int .i64 Z]) ∧ Keep w w')) (R1 : RT v s X Y Z)
    (A : Hid (∀ w', Keep w w' → Calls Tryd.prog 11 #[] w' fun e w'' => e = .returned (.bool true) ∧ Keep w' w'')) :
    Calls Tryd.prog 6 #[.agg #[.string S0, .int .i64 v, .int .i64 s, .int .i64 un, .int .i64 ud, .int .i64 n5, .int .i64 n6, .int .i64 n7, .int .i64 n8, .int .i64 n9, .int .i64 n10], .agg #[.int .i64 pn, .int .i64 pd]] w fun e w' => e = .returned (.bool true) ∧ Keep w w' := by
  go_enter Tryd.func6, Tryd.ntmps6
  go_wp2_with fail
  (refine ((unhide KK) _ _ _ _ _ R1 _).mono ?_; rintro e w2 ⟨rfl, hk⟩; obtain ⟨o1, k1, rfl⟩ := hk.ext; clear hk)
  go_wp2_with fail
  (refine ((unhide A) _ (by repeat (first | (with_reducible exact Keep.refl _) | apply keep_ext | apply Keep.alloc | apply Keep.drew))).mono ?_; rintro e w2 ⟨rfl, hk⟩; obtain ⟨o2, k2, rfl⟩ := hk.ext; clear hk)
  go_wp2_with fail
  go_ret
  exact ⟨rfl, by repeat (first | (with_reducible exact Keep.refl _) | apply keep_ext | apply Keep.alloc | apply Keep.drew)⟩
set_option maxHeartbeats 4000000 in
theorem share_b (S0 : ByteArray) (n5 n6 n7 n8 n9 n10 : Int) (v s un ud pn pd X Y Z : Int) (w : World) (h0 : ¬ v < 0) (h : 1000000000 < v)
    (RT : Int → Int → Int → Int → Int → Prop) (KK : Hid (∀ v s X Y Z, RT v s X Y Z → ∀ w, Calls Tryd.prog 9 #[.agg #[.string S0, .int .i64 v, .int .i64 s, .int .i64 un, .int .i64 ud, .int .i64 n5, .int .i64 n6, .int .i64 n7, .int .i64 n8, .int .i64 n9, .int .i64 n10], .agg #[.int .i64 pn, .int .i64 pd]] w fun e w' => e = .returned (.tuple #[.agg #[.int .i64 X, .int .i64 Y], .int .i64 Z]) ∧ Keep w w')) (R1 : RT v s X Y Z)
    (A : Hid (∀ w', Keep w w' → Calls Tryd.prog 11 #[] w' fun e w'' => e = .returned (.bool true) ∧ Keep w' w'')) :
    Calls Tryd.prog 6 #[.agg #[.string S0, .int .i64 v, .int .i64 s, .int .i64 un, .int .i64 ud, .int .i64 n5, .int .i64 n6, .int .i64 n7, .int .i64 n8, .int .i64 n9, .int .i64 n10], .agg #[.int .i64 pn, .int .i64 pd]] w fun e w' => e = .returned (.bool true) ∧ Keep w w' := by
  go_enter Tryd.func6, Tryd.ntmps6
  go_wp2_with fail
  (refine ((unhide KK) _ _ _ _ _ R1 _).mono ?_; rintro e w2 ⟨rfl, hk⟩; obtain ⟨o1, k1, rfl⟩ := hk.ext; clear hk)
  go_wp2_with fail
  (refine ((unhide A) _ (by repeat (first | (with_reducible exact Keep.refl _) | apply keep_ext | apply Keep.alloc | apply Keep.drew))).mono ?_; rintro e w2 ⟨rfl, hk⟩; obtain ⟨o2, k2, rfl⟩ := hk.ext; clear hk)
  go_wp2_with fail
  go_ret
  exact ⟨rfl, by repeat (first | (with_reducible exact Keep.refl _) | apply keep_ext | apply Keep.alloc | apply Keep.drew)⟩
set_option maxHeartbeats 8000000 in
theorem share_c (S0 : ByteArray) (n5 n6 n7 n8 n9 n10 : Int) (v s un ud pn pd X Y Z X2 Y2 Z2 X3 Y3 Z3 : Int) (w : World) (h0 : ¬ v < 0) (h1 : ¬ 1000000000 < v) (hz : ¬ Z = 0)
    (RT : Int → Int → Int → Int → Int → Prop) (KK : Hid (∀ v s X Y Z, RT v s X Y Z → ∀ w, Calls Tryd.prog 9 #[.agg #[.string S0, .int .i64 v, .int .i64 s, .int .i64 un, .int .i64 ud, .int .i64 n5, .int .i64 n6, .int .i64 n7, .int .i64 n8, .int .i64 n9, .int .i64 n10], .agg #[.int .i64 pn, .int .i64 pd]] w fun e w' => e = .returned (.tuple #[.agg #[.int .i64 X, .int .i64 Y], .int .i64 Z]) ∧ Keep w w')) (R1 : RT v s X Y Z) (R2 : RT (2 * v) s X2 Y2 Z2)
    (AD : Hid (∀ w, Calls Tryd.prog 15 #[.agg #[.int .i64 X, .int .i64 Y], .agg #[.int .i64 X, .int .i64 Y]] w fun e w' => e = .returned (.tuple #[.agg #[.int .i64 X3, .int .i64 Y3], .int .i64 Z3]) ∧ Keep w w'))
    (A : Hid (∀ w', Keep w w' → Calls Tryd.prog 11 #[] w' fun e w'' => e = .returned (.bool true) ∧ Keep w' w'')) :
    Calls Tryd.prog 6 #[.agg #[.string S0, .int .i64 v, .int .i64 s, .int .i64 un, .int .i64 ud, .int .i64 n5, .int .i64 n6, .int .i64 n7, .int .i64 n8, .int .i64 n9, .int .i64 n10], .agg #[.int .i64 pn, .int .i64 pd]] w fun e w' => e = .returned (.bool true) ∧ Keep w w' := by
  go_enter Tryd.func6, Tryd.ntmps6
  go_wp2_with fail
  refine ((unhide KK) _ _ _ _ _ R1 _).mono ?_
  rintro e w2 ⟨rfl, hk⟩
  have a0 := cl_9 hk (a := ⟨w.heap.size, 0, none⟩) (v := .string S0) (by simp [go_sem])
  have a1 := cl_9 hk (a := ⟨w.heap.size, 1, none⟩) (v := .int .i64 v) (by simp [go_sem])
  have a2 := cl_9 hk (a := ⟨w.heap.size, 2, none⟩) (v := .int .i64 s) (by simp [go_sem])
  have a3 := cl_9 hk (a := ⟨w.heap.size, 3, none⟩) (v := .int .i64 un) (by simp [go_sem])
  have a4 := cl_9 hk (a := ⟨w.heap.size, 4, none⟩) (v := .int .i64 ud) (by simp [go_sem])
  have a5 := cl_9 hk (a := ⟨w.heap.size, 5, none⟩) (v := .int .i64 n5) (by simp [go_sem])
  have a6 := cl_9 hk (a := ⟨w.heap.size, 6, none⟩) (v := .int .i64 n6) (by simp [go_sem])
  have a7 := cl_9 hk (a := ⟨w.heap.size, 7, none⟩) (v := .int .i64 n7) (by simp [go_sem])
  have a8 := cl_9 hk (a := ⟨w.heap.size, 8, none⟩) (v := .int .i64 n8) (by simp [go_sem])
  have a9 := cl_9 hk (a := ⟨w.heap.size, 9, none⟩) (v := .int .i64 n9) (by simp [go_sem])
  have a10 := cl_9 hk (a := ⟨w.heap.size, 10, none⟩) (v := .int .i64 n10) (by simp [go_sem])
  have b0 := cl_9 hk (a := ⟨w.heap.size + 1, 0, none⟩) (v := .int .i64 pn) (by simp [go_sem])
  have b1 := cl_9 hk (a := ⟨w.heap.size + 1, 1, none⟩) (v := .int .i64 pd) (by simp [go_sem])
  have HK2 : Hid (Keep w w2) := hide ((by repeat (first | (with_reducible exact Keep.refl _) | apply keep_ext | apply Keep.alloc | apply Keep.drew) : Keep w _).trans hk)
  have la0 : w.heap.size < w2.heap.size := World.block_lt_of_cell? w2 _ a0
  have lb0 : w.heap.size + 1 < w2.heap.size := World.block_lt_of_cell? w2 _ b0
  have m1 : w.heap.size < w2.heap.size := by omega
  have m2 : w.heap.size < w2.heap.size + 1 := by omega
  have m3 : w.heap.size + 1 < w2.heap.size := by omega
  have m4 : w.heap.size + 1 < w2.heap.size + 1 := by omega
  have m5 : w.heap.size < w2.heap.size + 1 + 1 := by omega
  have m6 : w.heap.size + 1 < w2.heap.size + 1 + 1 := by omega
  have HLT := hide (And.intro la0 lb0)
  clear hk la0 lb0
  go_wp2_with fail
  refine ((unhide KK) _ _ _ _ _ R2 _).mono ?_
  rintro e w3 ⟨rfl, hk⟩
  have c0 := cl_9 hk (a := ⟨w2.heap.size, 0, none⟩) (v := .int .i64 X) (by simp [go_sem])
  have c1 := cl_9 hk (a := ⟨w2.heap.size, 1, none⟩) (v := .int .i64 Y) (by simp [go_sem])
  have HK3 : Hid (Keep w w3) := hide (((unhide HK2).trans (by repeat (first | (with_reducible exact Keep.refl _) | apply keep_ext | apply Keep.alloc | apply Keep.drew | (refine keep_s9 _ _ _ (by simp [go_sem] <;> omega) ?_)))).trans hk)
  have lc0 : w2.heap.size < w3.heap.size := World.block_lt_of_cell? w3 _ c0
  have p1 : w2.heap.size < w3.heap.size := by omega
  clear hk lc0 HK2 HLT m1 m2 m3 m4 m5 m6 b0 b1 a0 a1 a2 a3 a4 a5 a6 a7 a8 a9 a10
  go_wp2_with fail
  refine ((unhide AD) _).mono ?_
  rintro e w4 ⟨rfl, hk⟩
  have d0 := cl_9 hk (a := ⟨w3.heap.size, 0, none⟩) (v := .int .i64 X2) (by simp [go_sem])
  have d1 := cl_9 hk (a := ⟨w3.heap.size, 1, none⟩) (v := .int .i64 Y2) (by simp [go_sem])
  have HK4 : Hid (Keep w w4) := hide (((unhide HK3).trans (by repeat (first | (with_reducible exact Keep.refl _) | apply keep_ext | apply Keep.alloc | apply Keep.drew | (refine keep_s9 _ _ _ (by simp [go_sem] <;> omega) ?_)))).trans hk)
  have ld0 : w3.heap.size < w4.heap.size := World.block_lt_of_cell? w4 _ d0
  have p2 : w3.heap.size < w4.heap.size := by omega
  clear hk ld0 HK3 p1 c0 c1
  go_wp2_with fail
  (refine ((unhide A) _ ((unhide HK4).trans (by repeat (first | (with_reducible exact Keep.refl _) | apply keep_ext | apply Keep.alloc | apply Keep.drew)))).mono ?_; rintro e w5 ⟨rfl, hk⟩)
  have HK5 : Hid (Keep w w5) := hide (((unhide HK4).trans (by repeat (first | (with_reducible exact Keep.refl _) | apply keep_ext | apply Keep.alloc | apply Keep.drew))).trans hk)
  clear hk
  go_wp2_with fail
  go_ret
  exact ⟨rfl, unhide HK5⟩
set_option maxHeartbeats 8000000 in
theorem share_d (S0 : ByteArray) (n5 n6 n7 n8 n9 n10 : Int) (v s un ud pn pd X Y Z X2 Y2 Z2 X3 Y3 Z3 : Int) (w : World) (h0 : ¬ v < 0) (h1 : ¬ 1000000000 < v) (hz : ¬ Z2 = 0)
    (RT : Int → Int → Int → Int → Int → Prop) (KK : Hid (∀ v s X Y Z, RT v s X Y Z → ∀ w, Calls Tryd.prog 9 #[.agg #[.string S0, .int .i64 v, .int .i64 s, .int .i64 un, .int .i64 ud, .int .i64 n5, .int .i64 n6, .int .i64 n7, .int .i64 n8, .int .i64 n9, .int .i64 n10], .agg #[.int .i64 pn, .int .i64 pd]] w fun e w' => e = .returned (.tuple #[.agg #[.int .i64 X, .int .i64 Y], .int .i64 Z]) ∧ Keep w w')) (R1 : RT v s X Y 0) (R2 : RT (2 * v) s X2 Y2 Z2)
    (AD : Hid (∀ w, Calls Tryd.prog 15 #[.agg #[.int .i64 X, .int .i64 Y], .agg #[.int .i64 X, .int .i64 Y]] w fun e w' => e = .returned (.tuple #[.agg #[.int .i64 X3, .int .i64 Y3], .int .i64 Z3]) ∧ Keep w w'))
    (A : Hid (∀ w', Keep w w' → Calls Tryd.prog 11 #[] w' fun e w'' => e = .returned (.bool true) ∧ Keep w' w'')) :
    Calls Tryd.prog 6 #[.agg #[.string S0, .int .i64 v, .int .i64 s, .int .i64 un, .int .i64 ud, .int .i64 n5, .int .i64 n6, .int .i64 n7, .int .i64 n8, .int .i64 n9, .int .i64 n10], .agg #[.int .i64 pn, .int .i64 pd]] w fun e w' => e = .returned (.bool true) ∧ Keep w w' := by
  go_enter Tryd.func6, Tryd.ntmps6
  go_wp2_with fail
  refine ((unhide KK) _ _ _ _ _ R1 _).mono ?_
  rintro e w2 ⟨rfl, hk⟩
  have a0 := cl_9 hk (a := ⟨w.heap.size, 0, none⟩) (v := .string S0) (by simp [go_sem])
  have a1 := cl_9 hk (a := ⟨w.heap.size, 1, none⟩) (v := .int .i64 v) (by simp [go_sem])
  have a2 := cl_9 hk (a := ⟨w.heap.size, 2, none⟩) (v := .int .i64 s) (by simp [go_sem])
  have a3 := cl_9 hk (a := ⟨w.heap.size, 3, none⟩) (v := .int .i64 un) (by simp [go_sem])
  have a4 := cl_9 hk (a := ⟨w.heap.size, 4, none⟩) (v := .int .i64 ud) (by simp [go_sem])
  have a5 := cl_9 hk (a := ⟨w.heap.size, 5, none⟩) (v := .int .i64 n5) (by simp [go_sem])
  have a6 := cl_9 hk (a := ⟨w.heap.size, 6, none⟩) (v := .int .i64 n6) (by simp [go_sem])
  have a7 := cl_9 hk (a := ⟨w.heap.size, 7, none⟩) (v := .int .i64 n7) (by simp [go_sem])
  have a8 := cl_9 hk (a := ⟨w.heap.size, 8, none⟩) (v := .int .i64 n8) (by simp [go_sem])
  have a9 := cl_9 hk (a := ⟨w.heap.size, 9, none⟩) (v := .int .i64 n9) (by simp [go_sem])
  have a10 := cl_9 hk (a := ⟨w.heap.size, 10, none⟩) (v := .int .i64 n10) (by simp [go_sem])
  have b0 := cl_9 hk (a := ⟨w.heap.size + 1, 0, none⟩) (v := .int .i64 pn) (by simp [go_sem])
  have b1 := cl_9 hk (a := ⟨w.heap.size + 1, 1, none⟩) (v := .int .i64 pd) (by simp [go_sem])
  have HK2 : Hid (Keep w w2) := hide ((by repeat (first | (with_reducible exact Keep.refl _) | apply keep_ext | apply Keep.alloc | apply Keep.drew) : Keep w _).trans hk)
  have la0 : w.heap.size < w2.heap.size := World.block_lt_of_cell? w2 _ a0
  have lb0 : w.heap.size + 1 < w2.heap.size := World.block_lt_of_cell? w2 _ b0
  have m1 : w.heap.size < w2.heap.size := by omega
  have m2 : w.heap.size < w2.heap.size + 1 := by omega
  have m3 : w.heap.size + 1 < w2.heap.size := by omega
  have m4 : w.heap.size + 1 < w2.heap.size + 1 := by omega
  have m5 : w.heap.size < w2.heap.size + 1 + 1 := by omega
  have m6 : w.heap.size + 1 < w2.heap.size + 1 + 1 := by omega
  have HLT := hide (And.intro la0 lb0)
  clear hk la0 lb0
  go_wp2_with fail
  refine ((unhide KK) _ _ _ _ _ R2 _).mono ?_
  rintro e w3 ⟨rfl, hk⟩
  have c0 := cl_9 hk (a := ⟨w2.heap.size, 0, none⟩) (v := .int .i64 X) (by simp [go_sem])
  have c1 := cl_9 hk (a := ⟨w2.heap.size, 1, none⟩) (v := .int .i64 Y) (by simp [go_sem])
  have HK3 : Hid (Keep w w3) := hide (((unhide HK2).trans (by repeat (first | (with_reducible exact Keep.refl _) | apply keep_ext | apply Keep.alloc | apply Keep.drew | (refine keep_s9 _ _ _ (by simp [go_sem] <;> omega) ?_)))).trans hk)
  have lc0 : w2.heap.size < w3.heap.size := World.block_lt_of_cell? w3 _ c0
  have p1 : w2.heap.size < w3.heap.size := by omega
  clear hk lc0 HK2 HLT m1 m2 m3 m4 m5 m6 b0 b1 a0 a1 a2 a3 a4 a5 a6 a7 a8 a9 a10
  go_wp2_with fail
  refine ((unhide AD) _).mono ?_
  rintro e w4 ⟨rfl, hk⟩
  have d0 := cl_9 hk (a := ⟨w3.heap.size, 0, none⟩) (v := .int .i64 X2) (by simp [go_sem])
  have d1 := cl_9 hk (a := ⟨w3.heap.size, 1, none⟩) (v := .int .i64 Y2) (by simp [go_sem])
  have HK4 : Hid (Keep w w4) := hide (((unhide HK3).trans (by repeat (first | (with_reducible exact Keep.refl _) | apply keep_ext | apply Keep.alloc | apply Keep.drew | (refine keep_s9 _ _ _ (by simp [go_sem] <;> omega) ?_)))).trans hk)
  have ld0 : w3.heap.size < w4.heap.size := World.block_lt_of_cell? w4 _ d0
  have p2 : w3.heap.size < w4.heap.size := by omega
  clear hk ld0 HK3 p1 c0 c1
  go_wp2_with fail
  (refine ((unhide A) _ ((unhide HK4).trans (by repeat (first | (with_reducible exact Keep.refl _) | apply keep_ext | apply Keep.alloc | apply Keep.drew)))).mono ?_; rintro e w5 ⟨rfl, hk⟩)
  have HK5 : Hid (Keep w w5) := hide (((unhide HK4).trans (by repeat (first | (with_reducible exact Keep.refl _) | apply keep_ext | apply Keep.alloc | apply Keep.drew))).trans hk)
  clear hk
  go_wp2_with fail
  go_ret
  exact ⟨rfl, unhide HK5⟩
set_option maxHeartbeats 8000000 in
theorem share_e (S0 : ByteArray) (n5 n6 n7 n8 n9 n10 : Int) (v s un ud pn pd X Y Z X2 Y2 Z2 X3 Y3 Z3 : Int) (w : World) (h0 : ¬ v < 0) (h1 : ¬ 1000000000 < v) 
    (RT : Int → Int → Int → Int → Int → Prop) (KK : Hid (∀ v s X Y Z, RT v s X Y Z → ∀ w, Calls Tryd.prog 9 #[.agg #[.string S0, .int .i64 v, .int .i64 s, .int .i64 un, .int .i64 ud, .int .i64 n5, .int .i64 n6, .int .i64 n7, .int .i64 n8, .int .i64 n9, .int .i64 n10], .agg #[.int .i64 pn, .int .i64 pd]] w fun e w' => e = .returned (.tuple #[.agg #[.int .i64 X, .int .i64 Y], .int .i64 Z]) ∧ Keep w w')) (R1 : RT v s X Y 0) (R2 : RT (2 * v) s X2 Y2 0)
    (AD : Hid (∀ w, Calls Tryd.prog 15 #[.agg #[.int .i64 X, .int .i64 Y], .agg #[.int .i64 X, .int .i64 Y]] w fun e w' => e = .returned (.tuple #[.agg #[.int .i64 X2, .int .i64 Y2], .int .i64 0]) ∧ Keep w w'))
    (A : Hid (∀ w', Keep w w' → Calls Tryd.prog 11 #[] w' fun e w'' => e = .returned (.bool true) ∧ Keep w' w'')) :
    Calls Tryd.prog 6 #[.agg #[.string S0, .int .i64 v, .int .i64 s, .int .i64 un, .int .i64 ud, .int .i64 n5, .int .i64 n6, .int .i64 n7, .int .i64 n8, .int .i64 n9, .int .i64 n10], .agg #[.int .i64 pn, .int .i64 pd]] w fun e w' => e = .returned (.bool true) ∧ Keep w w' := by
  go_enter Tryd.func6, Tryd.ntmps6
  go_wp2_with fail
  refine ((unhide KK) _ _ _ _ _ R1 _).mono ?_
  rintro e w2 ⟨rfl, hk⟩
  have a0 := cl_9 hk (a := ⟨w.heap.size, 0, none⟩) (v := .string S0) (by simp [go_sem])
  have a1 := cl_9 hk (a := ⟨w.heap.size, 1, none⟩) (v := .int .i64 v) (by simp [go_sem])
  have a2 := cl_9 hk (a := ⟨w.heap.size, 2, none⟩) (v := .int .i64 s) (by simp [go_sem])
  have a3 := cl_9 hk (a := ⟨w.heap.size, 3, none⟩) (v := .int .i64 un) (by simp [go_sem])
  have a4 := cl_9 hk (a := ⟨w.heap.size, 4, none⟩) (v := .int .i64 ud) (by simp [go_sem])
  have a5 := cl_9 hk (a := ⟨w.heap.size, 5, none⟩) (v := .int .i64 n5) (by simp [go_sem])
  have a6 := cl_9 hk (a := ⟨w.heap.size, 6, none⟩) (v := .int .i64 n6) (by simp [go_sem])
  have a7 := cl_9 hk (a := ⟨w.heap.size, 7, none⟩) (v := .int .i64 n7) (by simp [go_sem])
  have a8 := cl_9 hk (a := ⟨w.heap.size, 8, none⟩) (v := .int .i64 n8) (by simp [go_sem])
  have a9 := cl_9 hk (a := ⟨w.heap.size, 9, none⟩) (v := .int .i64 n9) (by simp [go_sem])
  have a10 := cl_9 hk (a := ⟨w.heap.size, 10, none⟩) (v := .int .i64 n10) (by simp [go_sem])
  have b0 := cl_9 hk (a := ⟨w.heap.size + 1, 0, none⟩) (v := .int .i64 pn) (by simp [go_sem])
  have b1 := cl_9 hk (a := ⟨w.heap.size + 1, 1, none⟩) (v := .int .i64 pd) (by simp [go_sem])
  have HK2 : Hid (Keep w w2) := hide ((by repeat (first | (with_reducible exact Keep.refl _) | apply keep_ext | apply Keep.alloc | apply Keep.drew) : Keep w _).trans hk)
  have la0 : w.heap.size < w2.heap.size := World.block_lt_of_cell? w2 _ a0
  have lb0 : w.heap.size + 1 < w2.heap.size := World.block_lt_of_cell? w2 _ b0
  have m1 : w.heap.size < w2.heap.size := by omega
  have m2 : w.heap.size < w2.heap.size + 1 := by omega
  have m3 : w.heap.size + 1 < w2.heap.size := by omega
  have m4 : w.heap.size + 1 < w2.heap.size + 1 := by omega
  have m5 : w.heap.size < w2.heap.size + 1 + 1 := by omega
  have m6 : w.heap.size + 1 < w2.heap.size + 1 + 1 := by omega
  have HLT := hide (And.intro la0 lb0)
  clear hk la0 lb0
  go_wp2_with fail
  refine ((unhide KK) _ _ _ _ _ R2 _).mono ?_
  rintro e w3 ⟨rfl, hk⟩
  have c0 := cl_9 hk (a := ⟨w2.heap.size, 0, none⟩) (v := .int .i64 X) (by simp [go_sem])
  have c1 := cl_9 hk (a := ⟨w2.heap.size, 1, none⟩) (v := .int .i64 Y) (by simp [go_sem])
  have HK3 : Hid (Keep w w3) := hide (((unhide HK2).trans (by repeat (first | (with_reducible exact Keep.refl _) | apply keep_ext | apply Keep.alloc | apply Keep.drew | (refine keep_s9 _ _ _ (by simp [go_sem] <;> omega) ?_)))).trans hk)
  have lc0 : w2.heap.size < w3.heap.size := World.block_lt_of_cell? w3 _ c0
  have p1 : w2.heap.size < w3.heap.size := by omega
  clear hk lc0 HK2 HLT m1 m2 m3 m4 m5 m6 b0 b1 a0 a1 a2 a3 a4 a5 a6 a7 a8 a9 a10
  go_wp2_with fail
  refine ((unhide AD) _).mono ?_
  rintro e w4 ⟨rfl, hk⟩
  have d0 := cl_9 hk (a := ⟨w3.heap.size, 0, none⟩) (v := .int .i64 X2) (by simp [go_sem])
  have d1 := cl_9 hk (a := ⟨w3.heap.size, 1, none⟩) (v := .int .i64 Y2) (by simp [go_sem])
  have HK4 : Hid (Keep w w4) := hide (((unhide HK3).trans (by repeat (first | (with_reducible exact Keep.refl _) | apply keep_ext | apply Keep.alloc | apply Keep.drew | (refine keep_s9 _ _ _ (by simp [go_sem] <;> omega) ?_)))).trans hk)
  have ld0 : w3.heap.size < w4.heap.size := World.block_lt_of_cell? w4 _ d0
  have p2 : w3.heap.size < w4.heap.size := by omega
  clear hk ld0 HK3 p1 c0 c1
  go_wp2_with fail
  (refine ((unhide A) _ ((unhide HK4).trans (by repeat (first | (with_reducible exact Keep.refl _) | apply keep_ext | apply Keep.alloc | apply Keep.drew)))).mono ?_; rintro e w5 ⟨rfl, hk⟩)
  have HK5 : Hid (Keep w w5) := hide (((unhide HK4).trans (by repeat (first | (with_reducible exact Keep.refl _) | apply keep_ext | apply Keep.alloc | apply Keep.drew))).trans hk)
  clear hk
  go_wp2_with fail
  go_ret
  exact ⟨rfl, unhide HK5⟩
end W
end Go.Proofs.YtnegcifbbbmlnaaDoor
