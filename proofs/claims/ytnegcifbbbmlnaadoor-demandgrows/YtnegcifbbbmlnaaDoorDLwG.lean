/- Layer 9's laws over letters. -/
import Derived.Test.YtnegcifbbbmlnaaDoorDMath
import Derived.Test.YtnegcifbbbmlnaaDoorExt
import Derived.Test.YtnegcifbbbmlnaaDoorDLaw
import Derived.Deep.DrawnRows
import Derived.Deep.RegionHeld
namespace Go.Proofs.YtnegcifbbbmlnaaDoor
open Go.RowKit
attribute [local go_sem ↓] Go.wp_at_zero Go.wp_at_succ
set_option linter.unusedVariables false
set_option linter.unusedSimpArgs false
set_option maxRecDepth 10000
namespace W
set_option maxHeartbeats 4000000 in
theorem grows_0 (S0 : ByteArray) (n5 n6 n7 n8 n9 n10 : Int) (v s un ud pn pd : Int) (w : World)  (g0 : v < 0)
    (A : Hid (∀ w', Keep w w' → Calls Tryd.prog 11 #[] w' fun e w'' => e = .returned (.bool true) ∧ Keep w' w'')) :
    Calls Tryd.prog 5 #[.agg #[.string S0, .int .i64 v, .int .i64 s, .int .i64 un, .int .i64 ud, .int .i64 n5, .int .i64 n6, .int .i64 n7, .int .i64 n8, .int .i64 n9, .int .i64 n10], .agg #[.int .i64 pn, .int .i64 pd]] w fun e w' => e = .returned (.bool true) ∧ Keep w w' := by
  go_enter Tryd.func5, Tryd.ntmps5
  go_wp2_with fail
  (refine ((unhide A) _ (by repeat (first | (with_reducible exact Keep.refl _) | apply keep_ext | apply Keep.alloc | apply Keep.drew))).mono ?_; rintro e w2 ⟨rfl, hk⟩; obtain ⟨o1, k1, rfl⟩ := hk.ext; clear hk)
  go_wp2_with fail
  go_ret
  exact ⟨rfl, by repeat (first | (with_reducible exact Keep.refl _) | apply keep_ext | apply Keep.alloc | apply Keep.drew)⟩
set_option maxHeartbeats 4000000 in
theorem grows_1 (S0 : ByteArray) (n5 n6 n7 n8 n9 n10 : Int) (v s un ud pn pd : Int) (w : World) (g0 : ¬ v < 0) (g1 : 1000000000 < v)
    (A : Hid (∀ w', Keep w w' → Calls Tryd.prog 11 #[] w' fun e w'' => e = .returned (.bool true) ∧ Keep w' w'')) :
    Calls Tryd.prog 5 #[.agg #[.string S0, .int .i64 v, .int .i64 s, .int .i64 un, .int .i64 ud, .int .i64 n5, .int .i64 n6, .int .i64 n7, .int .i64 n8, .int .i64 n9, .int .i64 n10], .agg #[.int .i64 pn, .int .i64 pd]] w fun e w' => e = .returned (.bool true) ∧ Keep w w' := by
  go_enter Tryd.func5, Tryd.ntmps5
  go_wp2_with fail
  (refine ((unhide A) _ (by repeat (first | (with_reducible exact Keep.refl _) | apply keep_ext | apply Keep.alloc | apply Keep.drew))).mono ?_; rintro e w2 ⟨rfl, hk⟩; obtain ⟨o1, k1, rfl⟩ := hk.ext; clear hk)
  go_wp2_with fail
  go_ret
  exact ⟨rfl, by repeat (first | (with_reducible exact Keep.refl _) | apply keep_ext | apply Keep.alloc | apply Keep.drew)⟩
set_option maxHeartbeats 4000000 in
theorem grows_2 (S0 : ByteArray) (n5 n6 n7 n8 n9 n10 : Int) (v s un ud pn pd : Int) (w : World) (g0 : ¬ v < 0) (g1 : ¬ 1000000000 < v) (g2 : s < 1)
    (A : Hid (∀ w', Keep w w' → Calls Tryd.prog 11 #[] w' fun e w'' => e = .returned (.bool true) ∧ Keep w' w'')) :
    Calls Tryd.prog 5 #[.agg #[.string S0, .int .i64 v, .int .i64 s, .int .i64 un, .int .i64 ud, .int .i64 n5, .int .i64 n6, .int .i64 n7, .int .i64 n8, .int .i64 n9, .int .i64 n10], .agg #[.int .i64 pn, .int .i64 pd]] w fun e w' => e = .returned (.bool true) ∧ Keep w w' := by
  go_enter Tryd.func5, Tryd.ntmps5
  go_wp2_with fail
  (refine ((unhide A) _ (by repeat (first | (with_reducible exact Keep.refl _) | apply keep_ext | apply Keep.alloc | apply Keep.drew))).mono ?_; rintro e w2 ⟨rfl, hk⟩; obtain ⟨o1, k1, rfl⟩ := hk.ext; clear hk)
  go_wp2_with fail
  go_ret
  exact ⟨rfl, by repeat (first | (with_reducible exact Keep.refl _) | apply keep_ext | apply Keep.alloc | apply Keep.drew)⟩
set_option maxHeartbeats 4000000 in
theorem grows_3 (S0 : ByteArray) (n5 n6 n7 n8 n9 n10 : Int) (v s un ud pn pd : Int) (w : World) (g0 : ¬ v < 0) (g1 : ¬ 1000000000 < v) (g2 : ¬ s < 1) (g3 : 1000000000 < s)
    (A : Hid (∀ w', Keep w w' → Calls Tryd.prog 11 #[] w' fun e w'' => e = .returned (.bool true) ∧ Keep w' w'')) :
    Calls Tryd.prog 5 #[.agg #[.string S0, .int .i64 v, .int .i64 s, .int .i64 un, .int .i64 ud, .int .i64 n5, .int .i64 n6, .int .i64 n7, .int .i64 n8, .int .i64 n9, .int .i64 n10], .agg #[.int .i64 pn, .int .i64 pd]] w fun e w' => e = .returned (.bool true) ∧ Keep w w' := by
  go_enter Tryd.func5, Tryd.ntmps5
  go_wp2_with fail
  (refine ((unhide A) _ (by repeat (first | (with_reducible exact Keep.refl _) | apply keep_ext | apply Keep.alloc | apply Keep.drew))).mono ?_; rintro e w2 ⟨rfl, hk⟩; obtain ⟨o1, k1, rfl⟩ := hk.ext; clear hk)
  go_wp2_with fail
  go_ret
  exact ⟨rfl, by repeat (first | (with_reducible exact Keep.refl _) | apply keep_ext | apply Keep.alloc | apply Keep.drew)⟩
set_option maxHeartbeats 4000000 in
theorem grows_4 (S0 : ByteArray) (n5 n6 n7 n8 n9 n10 : Int) (v s un ud pn pd : Int) (w : World) (g0 : ¬ v < 0) (g1 : ¬ 1000000000 < v) (g2 : ¬ s < 1) (g3 : ¬ 1000000000 < s) (g4 : un < 1)
    (A : Hid (∀ w', Keep w w' → Calls Tryd.prog 11 #[] w' fun e w'' => e = .returned (.bool true) ∧ Keep w' w'')) :
    Calls Tryd.prog 5 #[.agg #[.string S0, .int .i64 v, .int .i64 s, .int .i64 un, .int .i64 ud, .int .i64 n5, .int .i64 n6, .int .i64 n7, .int .i64 n8, .int .i64 n9, .int .i64 n10], .agg #[.int .i64 pn, .int .i64 pd]] w fun e w' => e = .returned (.bool true) ∧ Keep w w' := by
  go_enter Tryd.func5, Tryd.ntmps5
  go_wp2_with fail
  (refine ((unhide A) _ (by repeat (first | (with_reducible exact Keep.refl _) | apply keep_ext | apply Keep.alloc | apply Keep.drew))).mono ?_; rintro e w2 ⟨rfl, hk⟩; obtain ⟨o1, k1, rfl⟩ := hk.ext; clear hk)
  go_wp2_with fail
  go_ret
  exact ⟨rfl, by repeat (first | (with_reducible exact Keep.refl _) | apply keep_ext | apply Keep.alloc | apply Keep.drew)⟩
set_option maxHeartbeats 4000000 in
theorem grows_5 (S0 : ByteArray) (n5 n6 n7 n8 n9 n10 : Int) (v s un ud pn pd : Int) (w : World) (g0 : ¬ v < 0) (g1 : ¬ 1000000000 < v) (g2 : ¬ s < 1) (g3 : ¬ 1000000000 < s) (g4 : ¬ un < 1) (g5 : ud < 1)
    (A : Hid (∀ w', Keep w w' → Calls Tryd.prog 11 #[] w' fun e w'' => e = .returned (.bool true) ∧ Keep w' w'')) :
    Calls Tryd.prog 5 #[.agg #[.string S0, .int .i64 v, .int .i64 s, .int .i64 un, .int .i64 ud, .int .i64 n5, .int .i64 n6, .int .i64 n7, .int .i64 n8, .int .i64 n9, .int .i64 n10], .agg #[.int .i64 pn, .int .i64 pd]] w fun e w' => e = .returned (.bool true) ∧ Keep w w' := by
  go_enter Tryd.func5, Tryd.ntmps5
  go_wp2_with fail
  (refine ((unhide A) _ (by repeat (first | (with_reducible exact Keep.refl _) | apply keep_ext | apply Keep.alloc | apply Keep.drew))).mono ?_; rintro e w2 ⟨rfl, hk⟩; obtain ⟨o1, k1, rfl⟩ := hk.ext; clear hk)
  go_wp2_with fail
  go_ret
  exact ⟨rfl, by repeat (first | (with_reducible exact Keep.refl _) | apply keep_ext | apply Keep.alloc | apply Keep.drew)⟩
set_option maxHeartbeats 4000000 in
theorem grows_6 (S0 : ByteArray) (n5 n6 n7 n8 n9 n10 : Int) (v s un ud pn pd : Int) (w : World) (g0 : ¬ v < 0) (g1 : ¬ 1000000000 < v) (g2 : ¬ s < 1) (g3 : ¬ 1000000000 < s) (g4 : ¬ un < 1) (g5 : ¬ ud < 1) (g6 : pn < 1)
    (A : Hid (∀ w', Keep w w' → Calls Tryd.prog 11 #[] w' fun e w'' => e = .returned (.bool true) ∧ Keep w' w'')) :
    Calls Tryd.prog 5 #[.agg #[.string S0, .int .i64 v, .int .i64 s, .int .i64 un, .int .i64 ud, .int .i64 n5, .int .i64 n6, .int .i64 n7, .int .i64 n8, .int .i64 n9, .int .i64 n10], .agg #[.int .i64 pn, .int .i64 pd]] w fun e w' => e = .returned (.bool true) ∧ Keep w w' := by
  go_enter Tryd.func5, Tryd.ntmps5
  go_wp2_with fail
  (refine ((unhide A) _ (by repeat (first | (with_reducible exact Keep.refl _) | apply keep_ext | apply Keep.alloc | apply Keep.drew))).mono ?_; rintro e w2 ⟨rfl, hk⟩; obtain ⟨o1, k1, rfl⟩ := hk.ext; clear hk)
  go_wp2_with fail
  go_ret
  exact ⟨rfl, by repeat (first | (with_reducible exact Keep.refl _) | apply keep_ext | apply Keep.alloc | apply Keep.drew)⟩
set_option maxHeartbeats 4000000 in
theorem grows_7 (S0 : ByteArray) (n5 n6 n7 n8 n9 n10 : Int) (v s un ud pn pd : Int) (w : World) (g0 : ¬ v < 0) (g1 : ¬ 1000000000 < v) (g2 : ¬ s < 1) (g3 : ¬ 1000000000 < s) (g4 : ¬ un < 1) (g5 : ¬ ud < 1) (g6 : ¬ pn < 1) (g7 : pd < 1)
    (A : Hid (∀ w', Keep w w' → Calls Tryd.prog 11 #[] w' fun e w'' => e = .returned (.bool true) ∧ Keep w' w'')) :
    Calls Tryd.prog 5 #[.agg #[.string S0, .int .i64 v, .int .i64 s, .int .i64 un, .int .i64 ud, .int .i64 n5, .int .i64 n6, .int .i64 n7, .int .i64 n8, .int .i64 n9, .int .i64 n10], .agg #[.int .i64 pn, .int .i64 pd]] w fun e w' => e = .returned (.bool true) ∧ Keep w w' := by
  go_enter Tryd.func5, Tryd.ntmps5
  go_wp2_with fail
  (refine ((unhide A) _ (by repeat (first | (with_reducible exact Keep.refl _) | apply keep_ext | apply Keep.alloc | apply Keep.drew))).mono ?_; rintro e w2 ⟨rfl, hk⟩; obtain ⟨o1, k1, rfl⟩ := hk.ext; clear hk)
  go_wp2_with fail
  go_ret
  exact ⟨rfl, by repeat (first | (with_reducible exact Keep.refl _) | apply keep_ext | apply Keep.alloc | apply Keep.drew)⟩
set_option maxHeartbeats 16000000 in
theorem grows_x (S0 : ByteArray) (n5 n6 n7 n8 n9 n10 : Int) (v s un ud pn pd X Y Z X2 Y2 Z2 X3 Y3 Z3 Y4 c1 c2 : Int) (w : World) (g0 : ¬ v < 0) (g1 : ¬ 1000000000 < v) (g2 : ¬ s < 1) (g3 : ¬ 1000000000 < s) (g4 : ¬ un < 1) (g5 : ¬ ud < 1) (g6 : ¬ pn < 1) (g7 : ¬ pd < 1) (hz : ¬ Z = 0)
    (RT : Int → Int → Int → Int → Int → Prop) (KK : Hid (∀ v s X Y Z, RT v s X Y Z → ∀ w, Calls Tryd.prog 9 #[.agg #[.string S0, .int .i64 v, .int .i64 s, .int .i64 un, .int .i64 ud, .int .i64 n5, .int .i64 n6, .int .i64 n7, .int .i64 n8, .int .i64 n9, .int .i64 n10], .agg #[.int .i64 pn, .int .i64 pd]] w fun e w' => e = .returned (.tuple #[.agg #[.int .i64 X, .int .i64 Y], .int .i64 Z]) ∧ Keep w w')) (R1 : RT v s X Y Z) (R2 : RT (v + 1) s X2 Y2 Z2) (R3 : RT v (s + 1) X3 Y3 Z3) (R4 : RT 0 s 0 Y4 0)
    (A : Hid (∀ w', Keep w w' → Calls Tryd.prog 11 #[] w' fun e w'' => e = .returned (.bool true) ∧ Keep w' w'')) :
    Calls Tryd.prog 5 #[.agg #[.string S0, .int .i64 v, .int .i64 s, .int .i64 un, .int .i64 ud, .int .i64 n5, .int .i64 n6, .int .i64 n7, .int .i64 n8, .int .i64 n9, .int .i64 n10], .agg #[.int .i64 pn, .int .i64 pd]] w fun e w' => e = .returned (.bool true) ∧ Keep w w' := by
  go_enter Tryd.func5, Tryd.ntmps5
  go_wp2_with fail
  refine ((unhide KK) _ _ _ _ _ R1 _).mono ?_
  rintro e w2 ⟨rfl, hk⟩
  have a0 := cl_9 hk (a := ⟨w.heap.size, 0, none⟩) (v := .string S0) (by simp [go_sem])
  have a1 := cl_9 hk (a := ⟨w.heap.size, 1, none⟩) (v := .int .i64 v) (by simp [go_sem])
  have a2 := cl_9 hk (a := ⟨w.heap.size, 2, none⟩) (v := .int .i64 s) (by simp [go_sem])
  have a3 := cl_9 hk (a := ⟨w.heap.size, 3, none⟩) (v := .int .i64 un) (by simp [go_sem])
  have a4 := cl_9 hk (a := ⟨w.heap.size, 4, none⟩) (v := .int .i64 ud) (by simp [go_sem])
  have a5 := cl_9 hk (a := ⟨w.heap.size, 5, none⟩) (v := .int .i64 n5) (by simp [go_sem])
  have a6 := cl_9 hk (a := ⟨w.heap.size, 6, none⟩) (v := .int .i64 n6) (by simp [go_sem])
  have a7 := cl_9 hk (a := ⟨w.heap.size, 7, none⟩) (v := .int .i64 n7) (by simp [go_sem])
  have a8 := cl_9 hk (a := ⟨w.heap.size, 8, none⟩) (v := .int .i64 n8) (by simp [go_sem])
  have a9 := cl_9 hk (a := ⟨w.heap.size, 9, none⟩) (v := .int .i64 n9) (by simp [go_sem])
  have a10 := cl_9 hk (a := ⟨w.heap.size, 10, none⟩) (v := .int .i64 n10) (by simp [go_sem])
  have b0 := cl_9 hk (a := ⟨w.heap.size + 1, 0, none⟩) (v := .int .i64 pn) (by simp [go_sem])
  have b1 := cl_9 hk (a := ⟨w.heap.size + 1, 1, none⟩) (v := .int .i64 pd) (by simp [go_sem])
  have HK2 : Hid (Keep w w2) := hide ((by repeat (first | (with_reducible exact Keep.refl _) | apply keep_ext | apply Keep.alloc | apply Keep.drew) : Keep w _).trans hk)
  have la0 : w.heap.size < w2.heap.size := World.block_lt_of_cell? w2 _ a0
  have lb0 : w.heap.size + 1 < w2.heap.size := World.block_lt_of_cell? w2 _ b0
  have m1 : w.heap.size < w2.heap.size := by omega
  have m2 : w.heap.size < w2.heap.size + 1 := by omega
  have m3 : w.heap.size + 1 < w2.heap.size := by omega
  have m4 : w.heap.size + 1 < w2.heap.size + 1 := by omega
  have m5 : w.heap.size < w2.heap.size + 1 + 1 := by omega
  have m6 : w.heap.size + 1 < w2.heap.size + 1 + 1 := by omega
  have HLT := hide (And.intro la0 lb0)
  clear hk la0 lb0
  go_wp2_with fail
  refine ((unhide KK) _ _ _ _ _ R2 _).mono ?_
  rintro e w3 ⟨rfl, hk⟩
  have A0 := cl_9 hk (a := ⟨w.heap.size, 0, none⟩) (v := .string S0) (by simp [go_sem, a0, m1, m2, m3, m4, m5, m6])
  have A1 := cl_9 hk (a := ⟨w.heap.size, 1, none⟩) (v := .int .i64 v) (by simp [go_sem, a1, m1, m2, m3, m4, m5, m6])
  have A2 := cl_9 hk (a := ⟨w.heap.size, 2, none⟩) (v := .int .i64 s) (by simp [go_sem, a2, m1, m2, m3, m4, m5, m6])
  have A3 := cl_9 hk (a := ⟨w.heap.size, 3, none⟩) (v := .int .i64 un) (by simp [go_sem, a3, m1, m2, m3, m4, m5, m6])
  have A4 := cl_9 hk (a := ⟨w.heap.size, 4, none⟩) (v := .int .i64 ud) (by simp [go_sem, a4, m1, m2, m3, m4, m5, m6])
  have A5 := cl_9 hk (a := ⟨w.heap.size, 5, none⟩) (v := .int .i64 n5) (by simp [go_sem, a5, m1, m2, m3, m4, m5, m6])
  have A6 := cl_9 hk (a := ⟨w.heap.size, 6, none⟩) (v := .int .i64 n6) (by simp [go_sem, a6, m1, m2, m3, m4, m5, m6])
  have A7 := cl_9 hk (a := ⟨w.heap.size, 7, none⟩) (v := .int .i64 n7) (by simp [go_sem, a7, m1, m2, m3, m4, m5, m6])
  have A8 := cl_9 hk (a := ⟨w.heap.size, 8, none⟩) (v := .int .i64 n8) (by simp [go_sem, a8, m1, m2, m3, m4, m5, m6])
  have A9 := cl_9 hk (a := ⟨w.heap.size, 9, none⟩) (v := .int .i64 n9) (by simp [go_sem, a9, m1, m2, m3, m4, m5, m6])
  have A10 := cl_9 hk (a := ⟨w.heap.size, 10, none⟩) (v := .int .i64 n10) (by simp [go_sem, a10, m1, m2, m3, m4, m5, m6])
  have B0 := cl_9 hk (a := ⟨w.heap.size + 1, 0, none⟩) (v := .int .i64 pn) (by simp [go_sem, b0, m1, m2, m3, m4, m5, m6])
  have B1 := cl_9 hk (a := ⟨w.heap.size + 1, 1, none⟩) (v := .int .i64 pd) (by simp [go_sem, b1, m1, m2, m3, m4, m5, m6])
  have c0 := cl_9 hk (a := ⟨w2.heap.size, 0, none⟩) (v := .int .i64 X) (by simp [go_sem])
  have c1 := cl_9 hk (a := ⟨w2.heap.size, 1, none⟩) (v := .int .i64 Y) (by simp [go_sem])
  have HK3 : Hid (Keep w w3) := hide (((unhide HK2).trans (by repeat (first | (with_reducible exact Keep.refl _) | apply keep_ext | apply Keep.alloc | apply Keep.drew | (refine keep_s9 _ _ _ (by simp [go_sem] <;> omega) ?_)))).trans hk)
  have la0 : w.heap.size < w3.heap.size := World.block_lt_of_cell? w3 _ A0
  have lb0 : w.heap.size + 1 < w3.heap.size := World.block_lt_of_cell? w3 _ B0
  clear m1 m2 m3 m4 m5 m6 b0 b1 a0 a1 a2 a3 a4 a5 a6 a7 a8 a9 a10
  have a0 := A0
  have a1 := A1
  have a2 := A2
  have a3 := A3
  have a4 := A4
  have a5 := A5
  have a6 := A6
  have a7 := A7
  have a8 := A8
  have a9 := A9
  have a10 := A10
  have b0 := B0
  have b1 := B1
  clear B0 B1 A0 A1 A2 A3 A4 A5 A6 A7 A8 A9 A10
  have m1 : w.heap.size < w3.heap.size := by omega
  have m2 : w.heap.size < w3.heap.size + 1 := by omega
  have m3 : w.heap.size + 1 < w3.heap.size := by omega
  have m4 : w.heap.size + 1 < w3.heap.size + 1 := by omega
  have m5 : w.heap.size < w3.heap.size + 1 + 1 := by omega
  have m6 : w.heap.size + 1 < w3.heap.size + 1 + 1 := by omega
  have lc0 : w2.heap.size < w3.heap.size := World.block_lt_of_cell? w3 _ c0
  have p1 : w2.heap.size < w3.heap.size := by omega
  have p2 : w2.heap.size < w3.heap.size + 1 := by omega
  clear hk lc0 la0 lb0 HK2 HLT
  go_wp2_with fail
  refine ((unhide KK) _ _ _ _ _ R3 _).mono ?_
  rintro e w4 ⟨rfl, hk⟩
  have A0 := cl_9 hk (a := ⟨w.heap.size, 0, none⟩) (v := .string S0) (by simp [go_sem, a0, m1, m2, m3, m4, m5, m6])
  have A1 := cl_9 hk (a := ⟨w.heap.size, 1, none⟩) (v := .int .i64 v) (by simp [go_sem, a1, m1, m2, m3, m4, m5, m6])
  have A2 := cl_9 hk (a := ⟨w.heap.size, 2, none⟩) (v := .int .i64 s) (by simp [go_sem, a2, m1, m2, m3, m4, m5, m6])
  have A3 := cl_9 hk (a := ⟨w.heap.size, 3, none⟩) (v := .int .i64 un) (by simp [go_sem, a3, m1, m2, m3, m4, m5, m6])
  have A4 := cl_9 hk (a := ⟨w.heap.size, 4, none⟩) (v := .int .i64 ud) (by simp [go_sem, a4, m1, m2, m3, m4, m5, m6])
  have A5 := cl_9 hk (a := ⟨w.heap.size, 5, none⟩) (v := .int .i64 n5) (by simp [go_sem, a5, m1, m2, m3, m4, m5, m6])
  have A6 := cl_9 hk (a := ⟨w.heap.size, 6, none⟩) (v := .int .i64 n6) (by simp [go_sem, a6, m1, m2, m3, m4, m5, m6])
  have A7 := cl_9 hk (a := ⟨w.heap.size, 7, none⟩) (v := .int .i64 n7) (by simp [go_sem, a7, m1, m2, m3, m4, m5, m6])
  have A8 := cl_9 hk (a := ⟨w.heap.size, 8, none⟩) (v := .int .i64 n8) (by simp [go_sem, a8, m1, m2, m3, m4, m5, m6])
  have A9 := cl_9 hk (a := ⟨w.heap.size, 9, none⟩) (v := .int .i64 n9) (by simp [go_sem, a9, m1, m2, m3, m4, m5, m6])
  have A10 := cl_9 hk (a := ⟨w.heap.size, 10, none⟩) (v := .int .i64 n10) (by simp [go_sem, a10, m1, m2, m3, m4, m5, m6])
  have B0 := cl_9 hk (a := ⟨w.heap.size + 1, 0, none⟩) (v := .int .i64 pn) (by simp [go_sem, b0, m1, m2, m3, m4, m5, m6])
  have B1 := cl_9 hk (a := ⟨w.heap.size + 1, 1, none⟩) (v := .int .i64 pd) (by simp [go_sem, b1, m1, m2, m3, m4, m5, m6])
  have e0 := cl_9 hk (a := ⟨w2.heap.size, 0, none⟩) (v := .int .i64 X) (by simp [go_sem, c0, p1, p2])
  have e1 := cl_9 hk (a := ⟨w2.heap.size, 1, none⟩) (v := .int .i64 Y) (by simp [go_sem, c1, p1, p2])
  have d0 := cl_9 hk (a := ⟨w3.heap.size, 0, none⟩) (v := .int .i64 X2) (by simp [go_sem])
  have d1 := cl_9 hk (a := ⟨w3.heap.size, 1, none⟩) (v := .int .i64 Y2) (by simp [go_sem])
  have HK4 : Hid (Keep w w4) := hide (((unhide HK3).trans (by repeat (first | (with_reducible exact Keep.refl _) | apply keep_ext | apply Keep.alloc | apply Keep.drew | (refine keep_s9 _ _ _ (by simp [go_sem] <;> omega) ?_)))).trans hk)
  have la0 : w.heap.size < w4.heap.size := World.block_lt_of_cell? w4 _ A0
  have lb0 : w.heap.size + 1 < w4.heap.size := World.block_lt_of_cell? w4 _ B0
  clear m1 m2 m3 m4 m5 m6 b0 b1 a0 a1 a2 a3 a4 a5 a6 a7 a8 a9 a10
  have a0 := A0
  have a1 := A1
  have a2 := A2
  have a3 := A3
  have a4 := A4
  have a5 := A5
  have a6 := A6
  have a7 := A7
  have a8 := A8
  have a9 := A9
  have a10 := A10
  have b0 := B0
  have b1 := B1
  clear B0 B1 A0 A1 A2 A3 A4 A5 A6 A7 A8 A9 A10
  have m1 : w.heap.size < w4.heap.size := by omega
  have m2 : w.heap.size < w4.heap.size + 1 := by omega
  have m3 : w.heap.size + 1 < w4.heap.size := by omega
  have m4 : w.heap.size + 1 < w4.heap.size + 1 := by omega
  have m5 : w.heap.size < w4.heap.size + 1 + 1 := by omega
  have m6 : w.heap.size + 1 < w4.heap.size + 1 + 1 := by omega
  have le0 : w2.heap.size < w4.heap.size := World.block_lt_of_cell? w4 _ e0
  have ld0 : w3.heap.size < w4.heap.size := World.block_lt_of_cell? w4 _ d0
  have p3 : w2.heap.size < w4.heap.size := by omega
  have p4 : w3.heap.size < w4.heap.size := by omega
  have HL4 := hide (And.intro le0 ld0)
  clear hk le0 ld0 la0 lb0 HK3 c0 c1 p1 p2
  go_wp2_with fail
  refine ((unhide KK) _ _ _ _ _ R4 _).mono ?_
  rintro e w7 ⟨rfl, hk⟩
  have HK7 : Hid (Keep w w7) := hide (((unhide HK4).trans (by repeat (first | (with_reducible exact Keep.refl _) | apply keep_ext | apply Keep.alloc | apply Keep.drew | (refine keep_s9 _ _ _ (by simp [go_sem] <;> omega) ?_)))).trans hk)
  clear hk
  go_wp2_with fail
  (refine ((unhide A) _ ((unhide HK7).trans (by repeat (first | (with_reducible exact Keep.refl _) | apply keep_ext | apply Keep.alloc | apply Keep.drew)))).mono ?_; rintro e w8 ⟨rfl, hk⟩)
  have HK8 : Hid (Keep w w8) := hide (((unhide HK7).trans (by repeat (first | (with_reducible exact Keep.refl _) | apply keep_ext | apply Keep.alloc | apply Keep.drew))).trans hk)
  clear hk
  go_wp2_with fail
  go_ret
  exact ⟨rfl, unhide HK8⟩
set_option maxHeartbeats 16000000 in
theorem grows_y (S0 : ByteArray) (n5 n6 n7 n8 n9 n10 : Int) (v s un ud pn pd X Y Z X2 Y2 Z2 X3 Y3 Z3 Y4 c1 c2 : Int) (w : World) (g0 : ¬ v < 0) (g1 : ¬ 1000000000 < v) (g2 : ¬ s < 1) (g3 : ¬ 1000000000 < s) (g4 : ¬ un < 1) (g5 : ¬ ud < 1) (g6 : ¬ pn < 1) (g7 : ¬ pd < 1) (hz2 : ¬ Z2 = 0) (hz3 : ¬ Z3 = 0)
    (RT : Int → Int → Int → Int → Int → Prop) (KK : Hid (∀ v s X Y Z, RT v s X Y Z → ∀ w, Calls Tryd.prog 9 #[.agg #[.string S0, .int .i64 v, .int .i64 s, .int .i64 un, .int .i64 ud, .int .i64 n5, .int .i64 n6, .int .i64 n7, .int .i64 n8, .int .i64 n9, .int .i64 n10], .agg #[.int .i64 pn, .int .i64 pd]] w fun e w' => e = .returned (.tuple #[.agg #[.int .i64 X, .int .i64 Y], .int .i64 Z]) ∧ Keep w w')) (R1 : RT v s X Y 0) (R2 : RT (v + 1) s X2 Y2 Z2) (R3 : RT v (s + 1) X3 Y3 Z3) (R4 : RT 0 s 0 Y4 0)
    (A : Hid (∀ w', Keep w w' → Calls Tryd.prog 11 #[] w' fun e w'' => e = .returned (.bool true) ∧ Keep w' w'')) :
    Calls Tryd.prog 5 #[.agg #[.string S0, .int .i64 v, .int .i64 s, .int .i64 un, .int .i64 ud, .int .i64 n5, .int .i64 n6, .int .i64 n7, .int .i64 n8, .int .i64 n9, .int .i64 n10], .agg #[.int .i64 pn, .int .i64 pd]] w fun e w' => e = .returned (.bool true) ∧ Keep w w' := by
  go_enter Tryd.func5, Tryd.ntmps5
  go_wp2_with fail
  refine ((unhide KK) _ _ _ _ _ R1 _).mono ?_
  rintro e w2 ⟨rfl, hk⟩
  have a0 := cl_9 hk (a := ⟨w.heap.size, 0, none⟩) (v := .string S0) (by simp [go_sem])
  have a1 := cl_9 hk (a := ⟨w.heap.size, 1, none⟩) (v := .int .i64 v) (by simp [go_sem])
  have a2 := cl_9 hk (a := ⟨w.heap.size, 2, none⟩) (v := .int .i64 s) (by simp [go_sem])
  have a3 := cl_9 hk (a := ⟨w.heap.size, 3, none⟩) (v := .int .i64 un) (by simp [go_sem])
  have a4 := cl_9 hk (a := ⟨w.heap.size, 4, none⟩) (v := .int .i64 ud) (by simp [go_sem])
  have a5 := cl_9 hk (a := ⟨w.heap.size, 5, none⟩) (v := .int .i64 n5) (by simp [go_sem])
  have a6 := cl_9 hk (a := ⟨w.heap.size, 6, none⟩) (v := .int .i64 n6) (by simp [go_sem])
  have a7 := cl_9 hk (a := ⟨w.heap.size, 7, none⟩) (v := .int .i64 n7) (by simp [go_sem])
  have a8 := cl_9 hk (a := ⟨w.heap.size, 8, none⟩) (v := .int .i64 n8) (by simp [go_sem])
  have a9 := cl_9 hk (a := ⟨w.heap.size, 9, none⟩) (v := .int .i64 n9) (by simp [go_sem])
  have a10 := cl_9 hk (a := ⟨w.heap.size, 10, none⟩) (v := .int .i64 n10) (by simp [go_sem])
  have b0 := cl_9 hk (a := ⟨w.heap.size + 1, 0, none⟩) (v := .int .i64 pn) (by simp [go_sem])
  have b1 := cl_9 hk (a := ⟨w.heap.size + 1, 1, none⟩) (v := .int .i64 pd) (by simp [go_sem])
  have HK2 : Hid (Keep w w2) := hide ((by repeat (first | (with_reducible exact Keep.refl _) | apply keep_ext | apply Keep.alloc | apply Keep.drew) : Keep w _).trans hk)
  have la0 : w.heap.size < w2.heap.size := World.block_lt_of_cell? w2 _ a0
  have lb0 : w.heap.size + 1 < w2.heap.size := World.block_lt_of_cell? w2 _ b0
  have m1 : w.heap.size < w2.heap.size := by omega
  have m2 : w.heap.size < w2.heap.size + 1 := by omega
  have m3 : w.heap.size + 1 < w2.heap.size := by omega
  have m4 : w.heap.size + 1 < w2.heap.size + 1 := by omega
  have m5 : w.heap.size < w2.heap.size + 1 + 1 := by omega
  have m6 : w.heap.size + 1 < w2.heap.size + 1 + 1 := by omega
  have HLT := hide (And.intro la0 lb0)
  clear hk la0 lb0
  go_wp2_with fail
  refine ((unhide KK) _ _ _ _ _ R2 _).mono ?_
  rintro e w3 ⟨rfl, hk⟩
  have A0 := cl_9 hk (a := ⟨w.heap.size, 0, none⟩) (v := .string S0) (by simp [go_sem, a0, m1, m2, m3, m4, m5, m6])
  have A1 := cl_9 hk (a := ⟨w.heap.size, 1, none⟩) (v := .int .i64 v) (by simp [go_sem, a1, m1, m2, m3, m4, m5, m6])
  have A2 := cl_9 hk (a := ⟨w.heap.size, 2, none⟩) (v := .int .i64 s) (by simp [go_sem, a2, m1, m2, m3, m4, m5, m6])
  have A3 := cl_9 hk (a := ⟨w.heap.size, 3, none⟩) (v := .int .i64 un) (by simp [go_sem, a3, m1, m2, m3, m4, m5, m6])
  have A4 := cl_9 hk (a := ⟨w.heap.size, 4, none⟩) (v := .int .i64 ud) (by simp [go_sem, a4, m1, m2, m3, m4, m5, m6])
  have A5 := cl_9 hk (a := ⟨w.heap.size, 5, none⟩) (v := .int .i64 n5) (by simp [go_sem, a5, m1, m2, m3, m4, m5, m6])
  have A6 := cl_9 hk (a := ⟨w.heap.size, 6, none⟩) (v := .int .i64 n6) (by simp [go_sem, a6, m1, m2, m3, m4, m5, m6])
  have A7 := cl_9 hk (a := ⟨w.heap.size, 7, none⟩) (v := .int .i64 n7) (by simp [go_sem, a7, m1, m2, m3, m4, m5, m6])
  have A8 := cl_9 hk (a := ⟨w.heap.size, 8, none⟩) (v := .int .i64 n8) (by simp [go_sem, a8, m1, m2, m3, m4, m5, m6])
  have A9 := cl_9 hk (a := ⟨w.heap.size, 9, none⟩) (v := .int .i64 n9) (by simp [go_sem, a9, m1, m2, m3, m4, m5, m6])
  have A10 := cl_9 hk (a := ⟨w.heap.size, 10, none⟩) (v := .int .i64 n10) (by simp [go_sem, a10, m1, m2, m3, m4, m5, m6])
  have B0 := cl_9 hk (a := ⟨w.heap.size + 1, 0, none⟩) (v := .int .i64 pn) (by simp [go_sem, b0, m1, m2, m3, m4, m5, m6])
  have B1 := cl_9 hk (a := ⟨w.heap.size + 1, 1, none⟩) (v := .int .i64 pd) (by simp [go_sem, b1, m1, m2, m3, m4, m5, m6])
  have c0 := cl_9 hk (a := ⟨w2.heap.size, 0, none⟩) (v := .int .i64 X) (by simp [go_sem])
  have c1 := cl_9 hk (a := ⟨w2.heap.size, 1, none⟩) (v := .int .i64 Y) (by simp [go_sem])
  have HK3 : Hid (Keep w w3) := hide (((unhide HK2).trans (by repeat (first | (with_reducible exact Keep.refl _) | apply keep_ext | apply Keep.alloc | apply Keep.drew | (refine keep_s9 _ _ _ (by simp [go_sem] <;> omega) ?_)))).trans hk)
  have la0 : w.heap.size < w3.heap.size := World.block_lt_of_cell? w3 _ A0
  have lb0 : w.heap.size + 1 < w3.heap.size := World.block_lt_of_cell? w3 _ B0
  clear m1 m2 m3 m4 m5 m6 b0 b1 a0 a1 a2 a3 a4 a5 a6 a7 a8 a9 a10
  have a0 := A0
  have a1 := A1
  have a2 := A2
  have a3 := A3
  have a4 := A4
  have a5 := A5
  have a6 := A6
  have a7 := A7
  have a8 := A8
  have a9 := A9
  have a10 := A10
  have b0 := B0
  have b1 := B1
  clear B0 B1 A0 A1 A2 A3 A4 A5 A6 A7 A8 A9 A10
  have m1 : w.heap.size < w3.heap.size := by omega
  have m2 : w.heap.size < w3.heap.size + 1 := by omega
  have m3 : w.heap.size + 1 < w3.heap.size := by omega
  have m4 : w.heap.size + 1 < w3.heap.size + 1 := by omega
  have m5 : w.heap.size < w3.heap.size + 1 + 1 := by omega
  have m6 : w.heap.size + 1 < w3.heap.size + 1 + 1 := by omega
  have lc0 : w2.heap.size < w3.heap.size := World.block_lt_of_cell? w3 _ c0
  have p1 : w2.heap.size < w3.heap.size := by omega
  have p2 : w2.heap.size < w3.heap.size + 1 := by omega
  clear hk lc0 la0 lb0 HK2 HLT
  go_wp2_with fail
  refine ((unhide KK) _ _ _ _ _ R3 _).mono ?_
  rintro e w4 ⟨rfl, hk⟩
  have A0 := cl_9 hk (a := ⟨w.heap.size, 0, none⟩) (v := .string S0) (by simp [go_sem, a0, m1, m2, m3, m4, m5, m6])
  have A1 := cl_9 hk (a := ⟨w.heap.size, 1, none⟩) (v := .int .i64 v) (by simp [go_sem, a1, m1, m2, m3, m4, m5, m6])
  have A2 := cl_9 hk (a := ⟨w.heap.size, 2, none⟩) (v := .int .i64 s) (by simp [go_sem, a2, m1, m2, m3, m4, m5, m6])
  have A3 := cl_9 hk (a := ⟨w.heap.size, 3, none⟩) (v := .int .i64 un) (by simp [go_sem, a3, m1, m2, m3, m4, m5, m6])
  have A4 := cl_9 hk (a := ⟨w.heap.size, 4, none⟩) (v := .int .i64 ud) (by simp [go_sem, a4, m1, m2, m3, m4, m5, m6])
  have A5 := cl_9 hk (a := ⟨w.heap.size, 5, none⟩) (v := .int .i64 n5) (by simp [go_sem, a5, m1, m2, m3, m4, m5, m6])
  have A6 := cl_9 hk (a := ⟨w.heap.size, 6, none⟩) (v := .int .i64 n6) (by simp [go_sem, a6, m1, m2, m3, m4, m5, m6])
  have A7 := cl_9 hk (a := ⟨w.heap.size, 7, none⟩) (v := .int .i64 n7) (by simp [go_sem, a7, m1, m2, m3, m4, m5, m6])
  have A8 := cl_9 hk (a := ⟨w.heap.size, 8, none⟩) (v := .int .i64 n8) (by simp [go_sem, a8, m1, m2, m3, m4, m5, m6])
  have A9 := cl_9 hk (a := ⟨w.heap.size, 9, none⟩) (v := .int .i64 n9) (by simp [go_sem, a9, m1, m2, m3, m4, m5, m6])
  have A10 := cl_9 hk (a := ⟨w.heap.size, 10, none⟩) (v := .int .i64 n10) (by simp [go_sem, a10, m1, m2, m3, m4, m5, m6])
  have B0 := cl_9 hk (a := ⟨w.heap.size + 1, 0, none⟩) (v := .int .i64 pn) (by simp [go_sem, b0, m1, m2, m3, m4, m5, m6])
  have B1 := cl_9 hk (a := ⟨w.heap.size + 1, 1, none⟩) (v := .int .i64 pd) (by simp [go_sem, b1, m1, m2, m3, m4, m5, m6])
  have e0 := cl_9 hk (a := ⟨w2.heap.size, 0, none⟩) (v := .int .i64 X) (by simp [go_sem, c0, p1, p2])
  have e1 := cl_9 hk (a := ⟨w2.heap.size, 1, none⟩) (v := .int .i64 Y) (by simp [go_sem, c1, p1, p2])
  have d0 := cl_9 hk (a := ⟨w3.heap.size, 0, none⟩) (v := .int .i64 X2) (by simp [go_sem])
  have d1 := cl_9 hk (a := ⟨w3.heap.size, 1, none⟩) (v := .int .i64 Y2) (by simp [go_sem])
  have HK4 : Hid (Keep w w4) := hide (((unhide HK3).trans (by repeat (first | (with_reducible exact Keep.refl _) | apply keep_ext | apply Keep.alloc | apply Keep.drew | (refine keep_s9 _ _ _ (by simp [go_sem] <;> omega) ?_)))).trans hk)
  have la0 : w.heap.size < w4.heap.size := World.block_lt_of_cell? w4 _ A0
  have lb0 : w.heap.size + 1 < w4.heap.size := World.block_lt_of_cell? w4 _ B0
  clear m1 m2 m3 m4 m5 m6 b0 b1 a0 a1 a2 a3 a4 a5 a6 a7 a8 a9 a10
  have a0 := A0
  have a1 := A1
  have a2 := A2
  have a3 := A3
  have a4 := A4
  have a5 := A5
  have a6 := A6
  have a7 := A7
  have a8 := A8
  have a9 := A9
  have a10 := A10
  have b0 := B0
  have b1 := B1
  clear B0 B1 A0 A1 A2 A3 A4 A5 A6 A7 A8 A9 A10
  have m1 : w.heap.size < w4.heap.size := by omega
  have m2 : w.heap.size < w4.heap.size + 1 := by omega
  have m3 : w.heap.size + 1 < w4.heap.size := by omega
  have m4 : w.heap.size + 1 < w4.heap.size + 1 := by omega
  have m5 : w.heap.size < w4.heap.size + 1 + 1 := by omega
  have m6 : w.heap.size + 1 < w4.heap.size + 1 + 1 := by omega
  have le0 : w2.heap.size < w4.heap.size := World.block_lt_of_cell? w4 _ e0
  have ld0 : w3.heap.size < w4.heap.size := World.block_lt_of_cell? w4 _ d0
  have p3 : w2.heap.size < w4.heap.size := by omega
  have p4 : w3.heap.size < w4.heap.size := by omega
  have HL4 := hide (And.intro le0 ld0)
  clear hk le0 ld0 la0 lb0 HK3 c0 c1 p1 p2
  go_wp2_with fail
  refine ((unhide KK) _ _ _ _ _ R4 _).mono ?_
  rintro e w7 ⟨rfl, hk⟩
  have HK7 : Hid (Keep w w7) := hide (((unhide HK4).trans (by repeat (first | (with_reducible exact Keep.refl _) | apply keep_ext | apply Keep.alloc | apply Keep.drew | (refine keep_s9 _ _ _ (by simp [go_sem] <;> omega) ?_)))).trans hk)
  clear hk
  go_wp2_with fail
  (refine ((unhide A) _ ((unhide HK7).trans (by repeat (first | (with_reducible exact Keep.refl _) | apply keep_ext | apply Keep.alloc | apply Keep.drew)))).mono ?_; rintro e w8 ⟨rfl, hk⟩)
  have HK8 : Hid (Keep w w8) := hide (((unhide HK7).trans (by repeat (first | (with_reducible exact Keep.refl _) | apply keep_ext | apply Keep.alloc | apply Keep.drew))).trans hk)
  clear hk
  go_wp2_with fail
  go_ret
  exact ⟨rfl, unhide HK8⟩
set_option maxHeartbeats 16000000 in
theorem grows_z (S0 : ByteArray) (n5 n6 n7 n8 n9 n10 : Int) (v s un ud pn pd X Y Z X2 Y2 Z2 X3 Y3 Z3 Y4 c1 c2 : Int) (w : World) (g0 : ¬ v < 0) (g1 : ¬ 1000000000 < v) (g2 : ¬ s < 1) (g3 : ¬ 1000000000 < s) (g4 : ¬ un < 1) (g5 : ¬ ud < 1) (g6 : ¬ pn < 1) (g7 : ¬ pd < 1) (hz3 : ¬ Z3 = 0)
    (RT : Int → Int → Int → Int → Int → Prop) (KK : Hid (∀ v s X Y Z, RT v s X Y Z → ∀ w, Calls Tryd.prog 9 #[.agg #[.string S0, .int .i64 v, .int .i64 s, .int .i64 un, .int .i64 ud, .int .i64 n5, .int .i64 n6, .int .i64 n7, .int .i64 n8, .int .i64 n9, .int .i64 n10], .agg #[.int .i64 pn, .int .i64 pd]] w fun e w' => e = .returned (.tuple #[.agg #[.int .i64 X, .int .i64 Y], .int .i64 Z]) ∧ Keep w w')) (R1 : RT v s X Y 0) (R2 : RT (v + 1) s X2 Y2 0) (R3 : RT v (s + 1) X3 Y3 Z3) (R4 : RT 0 s 0 Y4 0)
    (CM : Int → Int → Int → Int → Int → Prop) (CC : Hid (∀ a b c d x, CM a b c d x → ∀ w, Calls Tryd.prog 14 #[.agg #[.int .i64 a, .int .i64 b], .agg #[.int .i64 c, .int .i64 d]] w fun e w' => e = .returned (.int .i64 x) ∧ Keep w w')) (C1 : CM X Y X2 Y2 c1) (h1 : ¬ 0 < c1)
    (A : Hid (∀ w', Keep w w' → Calls Tryd.prog 11 #[] w' fun e w'' => e = .returned (.bool true) ∧ Keep w' w'')) :
    Calls Tryd.prog 5 #[.agg #[.string S0, .int .i64 v, .int .i64 s, .int .i64 un, .int .i64 ud, .int .i64 n5, .int .i64 n6, .int .i64 n7, .int .i64 n8, .int .i64 n9, .int .i64 n10], .agg #[.int .i64 pn, .int .i64 pd]] w fun e w' => e = .returned (.bool true) ∧ Keep w w' := by
  go_enter Tryd.func5, Tryd.ntmps5
  go_wp2_with fail
  refine ((unhide KK) _ _ _ _ _ R1 _).mono ?_
  rintro e w2 ⟨rfl, hk⟩
  have a0 := cl_9 hk (a := ⟨w.heap.size, 0, none⟩) (v := .string S0) (by simp [go_sem])
  have a1 := cl_9 hk (a := ⟨w.heap.size, 1, none⟩) (v := .int .i64 v) (by simp [go_sem])
  have a2 := cl_9 hk (a := ⟨w.heap.size, 2, none⟩) (v := .int .i64 s) (by simp [go_sem])
  have a3 := cl_9 hk (a := ⟨w.heap.size, 3, none⟩) (v := .int .i64 un) (by simp [go_sem])
  have a4 := cl_9 hk (a := ⟨w.heap.size, 4, none⟩) (v := .int .i64 ud) (by simp [go_sem])
  have a5 := cl_9 hk (a := ⟨w.heap.size, 5, none⟩) (v := .int .i64 n5) (by simp [go_sem])
  have a6 := cl_9 hk (a := ⟨w.heap.size, 6, none⟩) (v := .int .i64 n6) (by simp [go_sem])
  have a7 := cl_9 hk (a := ⟨w.heap.size, 7, none⟩) (v := .int .i64 n7) (by simp [go_sem])
  have a8 := cl_9 hk (a := ⟨w.heap.size, 8, none⟩) (v := .int .i64 n8) (by simp [go_sem])
  have a9 := cl_9 hk (a := ⟨w.heap.size, 9, none⟩) (v := .int .i64 n9) (by simp [go_sem])
  have a10 := cl_9 hk (a := ⟨w.heap.size, 10, none⟩) (v := .int .i64 n10) (by simp [go_sem])
  have b0 := cl_9 hk (a := ⟨w.heap.size + 1, 0, none⟩) (v := .int .i64 pn) (by simp [go_sem])
  have b1 := cl_9 hk (a := ⟨w.heap.size + 1, 1, none⟩) (v := .int .i64 pd) (by simp [go_sem])
  have HK2 : Hid (Keep w w2) := hide ((by repeat (first | (with_reducible exact Keep.refl _) | apply keep_ext | apply Keep.alloc | apply Keep.drew) : Keep w _).trans hk)
  have la0 : w.heap.size < w2.heap.size := World.block_lt_of_cell? w2 _ a0
  have lb0 : w.heap.size + 1 < w2.heap.size := World.block_lt_of_cell? w2 _ b0
  have m1 : w.heap.size < w2.heap.size := by omega
  have m2 : w.heap.size < w2.heap.size + 1 := by omega
  have m3 : w.heap.size + 1 < w2.heap.size := by omega
  have m4 : w.heap.size + 1 < w2.heap.size + 1 := by omega
  have m5 : w.heap.size < w2.heap.size + 1 + 1 := by omega
  have m6 : w.heap.size + 1 < w2.heap.size + 1 + 1 := by omega
  have HLT := hide (And.intro la0 lb0)
  clear hk la0 lb0
  go_wp2_with fail
  refine ((unhide KK) _ _ _ _ _ R2 _).mono ?_
  rintro e w3 ⟨rfl, hk⟩
  have A0 := cl_9 hk (a := ⟨w.heap.size, 0, none⟩) (v := .string S0) (by simp [go_sem, a0, m1, m2, m3, m4, m5, m6])
  have A1 := cl_9 hk (a := ⟨w.heap.size, 1, none⟩) (v := .int .i64 v) (by simp [go_sem, a1, m1, m2, m3, m4, m5, m6])
  have A2 := cl_9 hk (a := ⟨w.heap.size, 2, none⟩) (v := .int .i64 s) (by simp [go_sem, a2, m1, m2, m3, m4, m5, m6])
  have A3 := cl_9 hk (a := ⟨w.heap.size, 3, none⟩) (v := .int .i64 un) (by simp [go_sem, a3, m1, m2, m3, m4, m5, m6])
  have A4 := cl_9 hk (a := ⟨w.heap.size, 4, none⟩) (v := .int .i64 ud) (by simp [go_sem, a4, m1, m2, m3, m4, m5, m6])
  have A5 := cl_9 hk (a := ⟨w.heap.size, 5, none⟩) (v := .int .i64 n5) (by simp [go_sem, a5, m1, m2, m3, m4, m5, m6])
  have A6 := cl_9 hk (a := ⟨w.heap.size, 6, none⟩) (v := .int .i64 n6) (by simp [go_sem, a6, m1, m2, m3, m4, m5, m6])
  have A7 := cl_9 hk (a := ⟨w.heap.size, 7, none⟩) (v := .int .i64 n7) (by simp [go_sem, a7, m1, m2, m3, m4, m5, m6])
  have A8 := cl_9 hk (a := ⟨w.heap.size, 8, none⟩) (v := .int .i64 n8) (by simp [go_sem, a8, m1, m2, m3, m4, m5, m6])
  have A9 := cl_9 hk (a := ⟨w.heap.size, 9, none⟩) (v := .int .i64 n9) (by simp [go_sem, a9, m1, m2, m3, m4, m5, m6])
  have A10 := cl_9 hk (a := ⟨w.heap.size, 10, none⟩) (v := .int .i64 n10) (by simp [go_sem, a10, m1, m2, m3, m4, m5, m6])
  have B0 := cl_9 hk (a := ⟨w.heap.size + 1, 0, none⟩) (v := .int .i64 pn) (by simp [go_sem, b0, m1, m2, m3, m4, m5, m6])
  have B1 := cl_9 hk (a := ⟨w.heap.size + 1, 1, none⟩) (v := .int .i64 pd) (by simp [go_sem, b1, m1, m2, m3, m4, m5, m6])
  have c0 := cl_9 hk (a := ⟨w2.heap.size, 0, none⟩) (v := .int .i64 X) (by simp [go_sem])
  have c1 := cl_9 hk (a := ⟨w2.heap.size, 1, none⟩) (v := .int .i64 Y) (by simp [go_sem])
  have HK3 : Hid (Keep w w3) := hide (((unhide HK2).trans (by repeat (first | (with_reducible exact Keep.refl _) | apply keep_ext | apply Keep.alloc | apply Keep.drew | (refine keep_s9 _ _ _ (by simp [go_sem] <;> omega) ?_)))).trans hk)
  have la0 : w.heap.size < w3.heap.size := World.block_lt_of_cell? w3 _ A0
  have lb0 : w.heap.size + 1 < w3.heap.size := World.block_lt_of_cell? w3 _ B0
  clear m1 m2 m3 m4 m5 m6 b0 b1 a0 a1 a2 a3 a4 a5 a6 a7 a8 a9 a10
  have a0 := A0
  have a1 := A1
  have a2 := A2
  have a3 := A3
  have a4 := A4
  have a5 := A5
  have a6 := A6
  have a7 := A7
  have a8 := A8
  have a9 := A9
  have a10 := A10
  have b0 := B0
  have b1 := B1
  clear B0 B1 A0 A1 A2 A3 A4 A5 A6 A7 A8 A9 A10
  have m1 : w.heap.size < w3.heap.size := by omega
  have m2 : w.heap.size < w3.heap.size + 1 := by omega
  have m3 : w.heap.size + 1 < w3.heap.size := by omega
  have m4 : w.heap.size + 1 < w3.heap.size + 1 := by omega
  have m5 : w.heap.size < w3.heap.size + 1 + 1 := by omega
  have m6 : w.heap.size + 1 < w3.heap.size + 1 + 1 := by omega
  have lc0 : w2.heap.size < w3.heap.size := World.block_lt_of_cell? w3 _ c0
  have p1 : w2.heap.size < w3.heap.size := by omega
  have p2 : w2.heap.size < w3.heap.size + 1 := by omega
  clear hk lc0 la0 lb0 HK2 HLT
  go_wp2_with fail
  refine ((unhide KK) _ _ _ _ _ R3 _).mono ?_
  rintro e w4 ⟨rfl, hk⟩
  have A0 := cl_9 hk (a := ⟨w.heap.size, 0, none⟩) (v := .string S0) (by simp [go_sem, a0, m1, m2, m3, m4, m5, m6])
  have A1 := cl_9 hk (a := ⟨w.heap.size, 1, none⟩) (v := .int .i64 v) (by simp [go_sem, a1, m1, m2, m3, m4, m5, m6])
  have A2 := cl_9 hk (a := ⟨w.heap.size, 2, none⟩) (v := .int .i64 s) (by simp [go_sem, a2, m1, m2, m3, m4, m5, m6])
  have A3 := cl_9 hk (a := ⟨w.heap.size, 3, none⟩) (v := .int .i64 un) (by simp [go_sem, a3, m1, m2, m3, m4, m5, m6])
  have A4 := cl_9 hk (a := ⟨w.heap.size, 4, none⟩) (v := .int .i64 ud) (by simp [go_sem, a4, m1, m2, m3, m4, m5, m6])
  have A5 := cl_9 hk (a := ⟨w.heap.size, 5, none⟩) (v := .int .i64 n5) (by simp [go_sem, a5, m1, m2, m3, m4, m5, m6])
  have A6 := cl_9 hk (a := ⟨w.heap.size, 6, none⟩) (v := .int .i64 n6) (by simp [go_sem, a6, m1, m2, m3, m4, m5, m6])
  have A7 := cl_9 hk (a := ⟨w.heap.size, 7, none⟩) (v := .int .i64 n7) (by simp [go_sem, a7, m1, m2, m3, m4, m5, m6])
  have A8 := cl_9 hk (a := ⟨w.heap.size, 8, none⟩) (v := .int .i64 n8) (by simp [go_sem, a8, m1, m2, m3, m4, m5, m6])
  have A9 := cl_9 hk (a := ⟨w.heap.size, 9, none⟩) (v := .int .i64 n9) (by simp [go_sem, a9, m1, m2, m3, m4, m5, m6])
  have A10 := cl_9 hk (a := ⟨w.heap.size, 10, none⟩) (v := .int .i64 n10) (by simp [go_sem, a10, m1, m2, m3, m4, m5, m6])
  have B0 := cl_9 hk (a := ⟨w.heap.size + 1, 0, none⟩) (v := .int .i64 pn) (by simp [go_sem, b0, m1, m2, m3, m4, m5, m6])
  have B1 := cl_9 hk (a := ⟨w.heap.size + 1, 1, none⟩) (v := .int .i64 pd) (by simp [go_sem, b1, m1, m2, m3, m4, m5, m6])
  have e0 := cl_9 hk (a := ⟨w2.heap.size, 0, none⟩) (v := .int .i64 X) (by simp [go_sem, c0, p1, p2])
  have e1 := cl_9 hk (a := ⟨w2.heap.size, 1, none⟩) (v := .int .i64 Y) (by simp [go_sem, c1, p1, p2])
  have d0 := cl_9 hk (a := ⟨w3.heap.size, 0, none⟩) (v := .int .i64 X2) (by simp [go_sem])
  have d1 := cl_9 hk (a := ⟨w3.heap.size, 1, none⟩) (v := .int .i64 Y2) (by simp [go_sem])
  have HK4 : Hid (Keep w w4) := hide (((unhide HK3).trans (by repeat (first | (with_reducible exact Keep.refl _) | apply keep_ext | apply Keep.alloc | apply Keep.drew | (refine keep_s9 _ _ _ (by simp [go_sem] <;> omega) ?_)))).trans hk)
  have la0 : w.heap.size < w4.heap.size := World.block_lt_of_cell? w4 _ A0
  have lb0 : w.heap.size + 1 < w4.heap.size := World.block_lt_of_cell? w4 _ B0
  clear m1 m2 m3 m4 m5 m6 b0 b1 a0 a1 a2 a3 a4 a5 a6 a7 a8 a9 a10
  have a0 := A0
  have a1 := A1
  have a2 := A2
  have a3 := A3
  have a4 := A4
  have a5 := A5
  have a6 := A6
  have a7 := A7
  have a8 := A8
  have a9 := A9
  have a10 := A10
  have b0 := B0
  have b1 := B1
  clear B0 B1 A0 A1 A2 A3 A4 A5 A6 A7 A8 A9 A10
  have m1 : w.heap.size < w4.heap.size := by omega
  have m2 : w.heap.size < w4.heap.size + 1 := by omega
  have m3 : w.heap.size + 1 < w4.heap.size := by omega
  have m4 : w.heap.size + 1 < w4.heap.size + 1 := by omega
  have m5 : w.heap.size < w4.heap.size + 1 + 1 := by omega
  have m6 : w.heap.size + 1 < w4.heap.size + 1 + 1 := by omega
  have le0 : w2.heap.size < w4.heap.size := World.block_lt_of_cell? w4 _ e0
  have ld0 : w3.heap.size < w4.heap.size := World.block_lt_of_cell? w4 _ d0
  have p3 : w2.heap.size < w4.heap.size := by omega
  have p4 : w3.heap.size < w4.heap.size := by omega
  have HL4 := hide (And.intro le0 ld0)
  clear hk le0 ld0 la0 lb0 HK3 c0 c1 p1 p2
  go_wp2_with fail
  refine ((unhide CC) _ _ _ _ _ C1 _).mono ?_
  rintro e w5 ⟨rfl, hk⟩
  have A0 := cl_9 hk (a := ⟨w.heap.size, 0, none⟩) (v := .string S0) (by simp [go_sem, a0, m1, m2, m3, m4, m5, m6])
  have A1 := cl_9 hk (a := ⟨w.heap.size, 1, none⟩) (v := .int .i64 v) (by simp [go_sem, a1, m1, m2, m3, m4, m5, m6])
  have A2 := cl_9 hk (a := ⟨w.heap.size, 2, none⟩) (v := .int .i64 s) (by simp [go_sem, a2, m1, m2, m3, m4, m5, m6])
  have A3 := cl_9 hk (a := ⟨w.heap.size, 3, none⟩) (v := .int .i64 un) (by simp [go_sem, a3, m1, m2, m3, m4, m5, m6])
  have A4 := cl_9 hk (a := ⟨w.heap.size, 4, none⟩) (v := .int .i64 ud) (by simp [go_sem, a4, m1, m2, m3, m4, m5, m6])
  have A5 := cl_9 hk (a := ⟨w.heap.size, 5, none⟩) (v := .int .i64 n5) (by simp [go_sem, a5, m1, m2, m3, m4, m5, m6])
  have A6 := cl_9 hk (a := ⟨w.heap.size, 6, none⟩) (v := .int .i64 n6) (by simp [go_sem, a6, m1, m2, m3, m4, m5, m6])
  have A7 := cl_9 hk (a := ⟨w.heap.size, 7, none⟩) (v := .int .i64 n7) (by simp [go_sem, a7, m1, m2, m3, m4, m5, m6])
  have A8 := cl_9 hk (a := ⟨w.heap.size, 8, none⟩) (v := .int .i64 n8) (by simp [go_sem, a8, m1, m2, m3, m4, m5, m6])
  have A9 := cl_9 hk (a := ⟨w.heap.size, 9, none⟩) (v := .int .i64 n9) (by simp [go_sem, a9, m1, m2, m3, m4, m5, m6])
  have A10 := cl_9 hk (a := ⟨w.heap.size, 10, none⟩) (v := .int .i64 n10) (by simp [go_sem, a10, m1, m2, m3, m4, m5, m6])
  have B0 := cl_9 hk (a := ⟨w.heap.size + 1, 0, none⟩) (v := .int .i64 pn) (by simp [go_sem, b0, m1, m2, m3, m4, m5, m6])
  have B1 := cl_9 hk (a := ⟨w.heap.size + 1, 1, none⟩) (v := .int .i64 pd) (by simp [go_sem, b1, m1, m2, m3, m4, m5, m6])
  have HK5 : Hid (Keep w w5) := hide (((unhide HK4).trans (by repeat (first | (with_reducible exact Keep.refl _) | apply keep_ext | apply Keep.alloc | apply Keep.drew | (refine keep_s9 _ _ _ (by simp [go_sem] <;> omega) ?_)))).trans hk)
  have la0 : w.heap.size < w5.heap.size := World.block_lt_of_cell? w5 _ A0
  have lb0 : w.heap.size + 1 < w5.heap.size := World.block_lt_of_cell? w5 _ B0
  clear m1 m2 m3 m4 m5 m6 b0 b1 a0 a1 a2 a3 a4 a5 a6 a7 a8 a9 a10
  have a0 := A0
  have a1 := A1
  have a2 := A2
  have a3 := A3
  have a4 := A4
  have a5 := A5
  have a6 := A6
  have a7 := A7
  have a8 := A8
  have a9 := A9
  have a10 := A10
  have b0 := B0
  have b1 := B1
  clear B0 B1 A0 A1 A2 A3 A4 A5 A6 A7 A8 A9 A10
  have m1 : w.heap.size < w5.heap.size := by omega
  have m2 : w.heap.size < w5.heap.size + 1 := by omega
  have m3 : w.heap.size + 1 < w5.heap.size := by omega
  have m4 : w.heap.size + 1 < w5.heap.size + 1 := by omega
  have m5 : w.heap.size < w5.heap.size + 1 + 1 := by omega
  have m6 : w.heap.size + 1 < w5.heap.size + 1 + 1 := by omega
  clear hk la0 lb0
  go_wp2_with fail
  refine ((unhide KK) _ _ _ _ _ R4 _).mono ?_
  rintro e w7 ⟨rfl, hk⟩
  have HK7 : Hid (Keep w w7) := hide (((unhide HK5).trans (by repeat (first | (with_reducible exact Keep.refl _) | apply keep_ext | apply Keep.alloc | apply Keep.drew | (refine keep_s9 _ _ _ (by simp [go_sem] <;> omega) ?_)))).trans hk)
  clear hk
  go_wp2_with fail
  (refine ((unhide A) _ ((unhide HK7).trans (by repeat (first | (with_reducible exact Keep.refl _) | apply keep_ext | apply Keep.alloc | apply Keep.drew)))).mono ?_; rintro e w8 ⟨rfl, hk⟩)
  have HK8 : Hid (Keep w w8) := hide (((unhide HK7).trans (by repeat (first | (with_reducible exact Keep.refl _) | apply keep_ext | apply Keep.alloc | apply Keep.drew))).trans hk)
  clear hk
  go_wp2_with fail
  go_ret
  exact ⟨rfl, unhide HK8⟩
set_option maxHeartbeats 16000000 in
theorem grows_u (S0 : ByteArray) (n5 n6 n7 n8 n9 n10 : Int) (v s un ud pn pd X Y Z X2 Y2 Z2 X3 Y3 Z3 Y4 c1 c2 : Int) (w : World) (g0 : ¬ v < 0) (g1 : ¬ 1000000000 < v) (g2 : ¬ s < 1) (g3 : ¬ 1000000000 < s) (g4 : ¬ un < 1) (g5 : ¬ ud < 1) (g6 : ¬ pn < 1) (g7 : ¬ pd < 1) (hz2 : ¬ Z2 = 0)
    (RT : Int → Int → Int → Int → Int → Prop) (KK : Hid (∀ v s X Y Z, RT v s X Y Z → ∀ w, Calls Tryd.prog 9 #[.agg #[.string S0, .int .i64 v, .int .i64 s, .int .i64 un, .int .i64 ud, .int .i64 n5, .int .i64 n6, .int .i64 n7, .int .i64 n8, .int .i64 n9, .int .i64 n10], .agg #[.int .i64 pn, .int .i64 pd]] w fun e w' => e = .returned (.tuple #[.agg #[.int .i64 X, .int .i64 Y], .int .i64 Z]) ∧ Keep w w')) (R1 : RT v s X Y 0) (R2 : RT (v + 1) s X2 Y2 Z2) (R3 : RT v (s + 1) X3 Y3 0) (R4 : RT 0 s 0 Y4 0)
    (CM : Int → Int → Int → Int → Int → Prop) (CC : Hid (∀ a b c d x, CM a b c d x → ∀ w, Calls Tryd.prog 14 #[.agg #[.int .i64 a, .int .i64 b], .agg #[.int .i64 c, .int .i64 d]] w fun e w' => e = .returned (.int .i64 x) ∧ Keep w w')) (C2 : CM X3 Y3 X Y c2) (h2 : ¬ 0 < c2)
    (A : Hid (∀ w', Keep w w' → Calls Tryd.prog 11 #[] w' fun e w'' => e = .returned (.bool true) ∧ Keep w' w'')) :
    Calls Tryd.prog 5 #[.agg #[.string S0, .int .i64 v, .int .i64 s, .int .i64 un, .int .i64 ud, .int .i64 n5, .int .i64 n6, .int .i64 n7, .int .i64 n8, .int .i64 n9, .int .i64 n10], .agg #[.int .i64 pn, .int .i64 pd]] w fun e w' => e = .returned (.bool true) ∧ Keep w w' := by
  go_enter Tryd.func5, Tryd.ntmps5
  go_wp2_with fail
  refine ((unhide KK) _ _ _ _ _ R1 _).mono ?_
  rintro e w2 ⟨rfl, hk⟩
  have a0 := cl_9 hk (a := ⟨w.heap.size, 0, none⟩) (v := .string S0) (by simp [go_sem])
  have a1 := cl_9 hk (a := ⟨w.heap.size, 1, none⟩) (v := .int .i64 v) (by simp [go_sem])
  have a2 := cl_9 hk (a := ⟨w.heap.size, 2, none⟩) (v := .int .i64 s) (by simp [go_sem])
  have a3 := cl_9 hk (a := ⟨w.heap.size, 3, none⟩) (v := .int .i64 un) (by simp [go_sem])
  have a4 := cl_9 hk (a := ⟨w.heap.size, 4, none⟩) (v := .int .i64 ud) (by simp [go_sem])
  have a5 := cl_9 hk (a := ⟨w.heap.size, 5, none⟩) (v := .int .i64 n5) (by simp [go_sem])
  have a6 := cl_9 hk (a := ⟨w.heap.size, 6, none⟩) (v := .int .i64 n6) (by simp [go_sem])
  have a7 := cl_9 hk (a := ⟨w.heap.size, 7, none⟩) (v := .int .i64 n7) (by simp [go_sem])
  have a8 := cl_9 hk (a := ⟨w.heap.size, 8, none⟩) (v := .int .i64 n8) (by simp [go_sem])
  have a9 := cl_9 hk (a := ⟨w.heap.size, 9, none⟩) (v := .int .i64 n9) (by simp [go_sem])
  have a10 := cl_9 hk (a := ⟨w.heap.size, 10, none⟩) (v := .int .i64 n10) (by simp [go_sem])
  have b0 := cl_9 hk (a := ⟨w.heap.size + 1, 0, none⟩) (v := .int .i64 pn) (by simp [go_sem])
  have b1 := cl_9 hk (a := ⟨w.heap.size + 1, 1, none⟩) (v := .int .i64 pd) (by simp [go_sem])
  have HK2 : Hid (Keep w w2) := hide ((by repeat (first | (with_reducible exact Keep.refl _) | apply keep_ext | apply Keep.alloc | apply Keep.drew) : Keep w _).trans hk)
  have la0 : w.heap.size < w2.heap.size := World.block_lt_of_cell? w2 _ a0
  have lb0 : w.heap.size + 1 < w2.heap.size := World.block_lt_of_cell? w2 _ b0
  have m1 : w.heap.size < w2.heap.size := by omega
  have m2 : w.heap.size < w2.heap.size + 1 := by omega
  have m3 : w.heap.size + 1 < w2.heap.size := by omega
  have m4 : w.heap.size + 1 < w2.heap.size + 1 := by omega
  have m5 : w.heap.size < w2.heap.size + 1 + 1 := by omega
  have m6 : w.heap.size + 1 < w2.heap.size + 1 + 1 := by omega
  have HLT := hide (And.intro la0 lb0)
  clear hk la0 lb0
  go_wp2_with fail
  refine ((unhide KK) _ _ _ _ _ R2 _).mono ?_
  rintro e w3 ⟨rfl, hk⟩
  have A0 := cl_9 hk (a := ⟨w.heap.size, 0, none⟩) (v := .string S0) (by simp [go_sem, a0, m1, m2, m3, m4, m5, m6])
  have A1 := cl_9 hk (a := ⟨w.heap.size, 1, none⟩) (v := .int .i64 v) (by simp [go_sem, a1, m1, m2, m3, m4, m5, m6])
  have A2 := cl_9 hk (a := ⟨w.heap.size, 2, none⟩) (v := .int .i64 s) (by simp [go_sem, a2, m1, m2, m3, m4, m5, m6])
  have A3 := cl_9 hk (a := ⟨w.heap.size, 3, none⟩) (v := .int .i64 un) (by simp [go_sem, a3, m1, m2, m3, m4, m5, m6])
  have A4 := cl_9 hk (a := ⟨w.heap.size, 4, none⟩) (v := .int .i64 ud) (by simp [go_sem, a4, m1, m2, m3, m4, m5, m6])
  have A5 := cl_9 hk (a := ⟨w.heap.size, 5, none⟩) (v := .int .i64 n5) (by simp [go_sem, a5, m1, m2, m3, m4, m5, m6])
  have A6 := cl_9 hk (a := ⟨w.heap.size, 6, none⟩) (v := .int .i64 n6) (by simp [go_sem, a6, m1, m2, m3, m4, m5, m6])
  have A7 := cl_9 hk (a := ⟨w.heap.size, 7, none⟩) (v := .int .i64 n7) (by simp [go_sem, a7, m1, m2, m3, m4, m5, m6])
  have A8 := cl_9 hk (a := ⟨w.heap.size, 8, none⟩) (v := .int .i64 n8) (by simp [go_sem, a8, m1, m2, m3, m4, m5, m6])
  have A9 := cl_9 hk (a := ⟨w.heap.size, 9, none⟩) (v := .int .i64 n9) (by simp [go_sem, a9, m1, m2, m3, m4, m5, m6])
  have A10 := cl_9 hk (a := ⟨w.heap.size, 10, none⟩) (v := .int .i64 n10) (by simp [go_sem, a10, m1, m2, m3, m4, m5, m6])
  have B0 := cl_9 hk (a := ⟨w.heap.size + 1, 0, none⟩) (v := .int .i64 pn) (by simp [go_sem, b0, m1, m2, m3, m4, m5, m6])
  have B1 := cl_9 hk (a := ⟨w.heap.size + 1, 1, none⟩) (v := .int .i64 pd) (by simp [go_sem, b1, m1, m2, m3, m4, m5, m6])
  have c0 := cl_9 hk (a := ⟨w2.heap.size, 0, none⟩) (v := .int .i64 X) (by simp [go_sem])
  have c1 := cl_9 hk (a := ⟨w2.heap.size, 1, none⟩) (v := .int .i64 Y) (by simp [go_sem])
  have HK3 : Hid (Keep w w3) := hide (((unhide HK2).trans (by repeat (first | (with_reducible exact Keep.refl _) | apply keep_ext | apply Keep.alloc | apply Keep.drew | (refine keep_s9 _ _ _ (by simp [go_sem] <;> omega) ?_)))).trans hk)
  have la0 : w.heap.size < w3.heap.size := World.block_lt_of_cell? w3 _ A0
  have lb0 : w.heap.size + 1 < w3.heap.size := World.block_lt_of_cell? w3 _ B0
  clear m1 m2 m3 m4 m5 m6 b0 b1 a0 a1 a2 a3 a4 a5 a6 a7 a8 a9 a10
  have a0 := A0
  have a1 := A1
  have a2 := A2
  have a3 := A3
  have a4 := A4
  have a5 := A5
  have a6 := A6
  have a7 := A7
  have a8 := A8
  have a9 := A9
  have a10 := A10
  have b0 := B0
  have b1 := B1
  clear B0 B1 A0 A1 A2 A3 A4 A5 A6 A7 A8 A9 A10
  have m1 : w.heap.size < w3.heap.size := by omega
  have m2 : w.heap.size < w3.heap.size + 1 := by omega
  have m3 : w.heap.size + 1 < w3.heap.size := by omega
  have m4 : w.heap.size + 1 < w3.heap.size + 1 := by omega
  have m5 : w.heap.size < w3.heap.size + 1 + 1 := by omega
  have m6 : w.heap.size + 1 < w3.heap.size + 1 + 1 := by omega
  have lc0 : w2.heap.size < w3.heap.size := World.block_lt_of_cell? w3 _ c0
  have p1 : w2.heap.size < w3.heap.size := by omega
  have p2 : w2.heap.size < w3.heap.size + 1 := by omega
  clear hk lc0 la0 lb0 HK2 HLT
  go_wp2_with fail
  refine ((unhide KK) _ _ _ _ _ R3 _).mono ?_
  rintro e w4 ⟨rfl, hk⟩
  have A0 := cl_9 hk (a := ⟨w.heap.size, 0, none⟩) (v := .string S0) (by simp [go_sem, a0, m1, m2, m3, m4, m5, m6])
  have A1 := cl_9 hk (a := ⟨w.heap.size, 1, none⟩) (v := .int .i64 v) (by simp [go_sem, a1, m1, m2, m3, m4, m5, m6])
  have A2 := cl_9 hk (a := ⟨w.heap.size, 2, none⟩) (v := .int .i64 s) (by simp [go_sem, a2, m1, m2, m3, m4, m5, m6])
  have A3 := cl_9 hk (a := ⟨w.heap.size, 3, none⟩) (v := .int .i64 un) (by simp [go_sem, a3, m1, m2, m3, m4, m5, m6])
  have A4 := cl_9 hk (a := ⟨w.heap.size, 4, none⟩) (v := .int .i64 ud) (by simp [go_sem, a4, m1, m2, m3, m4, m5, m6])
  have A5 := cl_9 hk (a := ⟨w.heap.size, 5, none⟩) (v := .int .i64 n5) (by simp [go_sem, a5, m1, m2, m3, m4, m5, m6])
  have A6 := cl_9 hk (a := ⟨w.heap.size, 6, none⟩) (v := .int .i64 n6) (by simp [go_sem, a6, m1, m2, m3, m4, m5, m6])
  have A7 := cl_9 hk (a := ⟨w.heap.size, 7, none⟩) (v := .int .i64 n7) (by simp [go_sem, a7, m1, m2, m3, m4, m5, m6])
  have A8 := cl_9 hk (a := ⟨w.heap.size, 8, none⟩) (v := .int .i64 n8) (by simp [go_sem, a8, m1, m2, m3, m4, m5, m6])
  have A9 := cl_9 hk (a := ⟨w.heap.size, 9, none⟩) (v := .int .i64 n9) (by simp [go_sem, a9, m1, m2, m3, m4, m5, m6])
  have A10 := cl_9 hk (a := ⟨w.heap.size, 10, none⟩) (v := .int .i64 n10) (by simp [go_sem, a10, m1, m2, m3, m4, m5, m6])
  have B0 := cl_9 hk (a := ⟨w.heap.size + 1, 0, none⟩) (v := .int .i64 pn) (by simp [go_sem, b0, m1, m2, m3, m4, m5, m6])
  have B1 := cl_9 hk (a := ⟨w.heap.size + 1, 1, none⟩) (v := .int .i64 pd) (by simp [go_sem, b1, m1, m2, m3, m4, m5, m6])
  have e0 := cl_9 hk (a := ⟨w2.heap.size, 0, none⟩) (v := .int .i64 X) (by simp [go_sem, c0, p1, p2])
  have e1 := cl_9 hk (a := ⟨w2.heap.size, 1, none⟩) (v := .int .i64 Y) (by simp [go_sem, c1, p1, p2])
  have d0 := cl_9 hk (a := ⟨w3.heap.size, 0, none⟩) (v := .int .i64 X2) (by simp [go_sem])
  have d1 := cl_9 hk (a := ⟨w3.heap.size, 1, none⟩) (v := .int .i64 Y2) (by simp [go_sem])
  have HK4 : Hid (Keep w w4) := hide (((unhide HK3).trans (by repeat (first | (with_reducible exact Keep.refl _) | apply keep_ext | apply Keep.alloc | apply Keep.drew | (refine keep_s9 _ _ _ (by simp [go_sem] <;> omega) ?_)))).trans hk)
  have la0 : w.heap.size < w4.heap.size := World.block_lt_of_cell? w4 _ A0
  have lb0 : w.heap.size + 1 < w4.heap.size := World.block_lt_of_cell? w4 _ B0
  clear m1 m2 m3 m4 m5 m6 b0 b1 a0 a1 a2 a3 a4 a5 a6 a7 a8 a9 a10
  have a0 := A0
  have a1 := A1
  have a2 := A2
  have a3 := A3
  have a4 := A4
  have a5 := A5
  have a6 := A6
  have a7 := A7
  have a8 := A8
  have a9 := A9
  have a10 := A10
  have b0 := B0
  have b1 := B1
  clear B0 B1 A0 A1 A2 A3 A4 A5 A6 A7 A8 A9 A10
  have m1 : w.heap.size < w4.heap.size := by omega
  have m2 : w.heap.size < w4.heap.size + 1 := by omega
  have m3 : w.heap.size + 1 < w4.heap.size := by omega
  have m4 : w.heap.size + 1 < w4.heap.size + 1 := by omega
  have m5 : w.heap.size < w4.heap.size + 1 + 1 := by omega
  have m6 : w.heap.size + 1 < w4.heap.size + 1 + 1 := by omega
  have le0 : w2.heap.size < w4.heap.size := World.block_lt_of_cell? w4 _ e0
  have ld0 : w3.heap.size < w4.heap.size := World.block_lt_of_cell? w4 _ d0
  have p3 : w2.heap.size < w4.heap.size := by omega
  have p4 : w3.heap.size < w4.heap.size := by omega
  have HL4 := hide (And.intro le0 ld0)
  clear hk le0 ld0 la0 lb0 HK3 c0 c1 p1 p2
  go_wp2_with fail
  refine ((unhide CC) _ _ _ _ _ C2 _).mono ?_
  rintro e w6 ⟨rfl, hk⟩
  have A0 := cl_9 hk (a := ⟨w.heap.size, 0, none⟩) (v := .string S0) (by simp [go_sem, a0, m1, m2, m3, m4, m5, m6])
  have A1 := cl_9 hk (a := ⟨w.heap.size, 1, none⟩) (v := .int .i64 v) (by simp [go_sem, a1, m1, m2, m3, m4, m5, m6])
  have A2 := cl_9 hk (a := ⟨w.heap.size, 2, none⟩) (v := .int .i64 s) (by simp [go_sem, a2, m1, m2, m3, m4, m5, m6])
  have A3 := cl_9 hk (a := ⟨w.heap.size, 3, none⟩) (v := .int .i64 un) (by simp [go_sem, a3, m1, m2, m3, m4, m5, m6])
  have A4 := cl_9 hk (a := ⟨w.heap.size, 4, none⟩) (v := .int .i64 ud) (by simp [go_sem, a4, m1, m2, m3, m4, m5, m6])
  have A5 := cl_9 hk (a := ⟨w.heap.size, 5, none⟩) (v := .int .i64 n5) (by simp [go_sem, a5, m1, m2, m3, m4, m5, m6])
  have A6 := cl_9 hk (a := ⟨w.heap.size, 6, none⟩) (v := .int .i64 n6) (by simp [go_sem, a6, m1, m2, m3, m4, m5, m6])
  have A7 := cl_9 hk (a := ⟨w.heap.size, 7, none⟩) (v := .int .i64 n7) (by simp [go_sem, a7, m1, m2, m3, m4, m5, m6])
  have A8 := cl_9 hk (a := ⟨w.heap.size, 8, none⟩) (v := .int .i64 n8) (by simp [go_sem, a8, m1, m2, m3, m4, m5, m6])
  have A9 := cl_9 hk (a := ⟨w.heap.size, 9, none⟩) (v := .int .i64 n9) (by simp [go_sem, a9, m1, m2, m3, m4, m5, m6])
  have A10 := cl_9 hk (a := ⟨w.heap.size, 10, none⟩) (v := .int .i64 n10) (by simp [go_sem, a10, m1, m2, m3, m4, m5, m6])
  have B0 := cl_9 hk (a := ⟨w.heap.size + 1, 0, none⟩) (v := .int .i64 pn) (by simp [go_sem, b0, m1, m2, m3, m4, m5, m6])
  have B1 := cl_9 hk (a := ⟨w.heap.size + 1, 1, none⟩) (v := .int .i64 pd) (by simp [go_sem, b1, m1, m2, m3, m4, m5, m6])
  have HK6 : Hid (Keep w w6) := hide (((unhide HK4).trans (by repeat (first | (with_reducible exact Keep.refl _) | apply keep_ext | apply Keep.alloc | apply Keep.drew | (refine keep_s9 _ _ _ (by simp [go_sem] <;> omega) ?_)))).trans hk)
  have la0 : w.heap.size < w6.heap.size := World.block_lt_of_cell? w6 _ A0
  have lb0 : w.heap.size + 1 < w6.heap.size := World.block_lt_of_cell? w6 _ B0
  clear m1 m2 m3 m4 m5 m6 b0 b1 a0 a1 a2 a3 a4 a5 a6 a7 a8 a9 a10
  have a0 := A0
  have a1 := A1
  have a2 := A2
  have a3 := A3
  have a4 := A4
  have a5 := A5
  have a6 := A6
  have a7 := A7
  have a8 := A8
  have a9 := A9
  have a10 := A10
  have b0 := B0
  have b1 := B1
  clear B0 B1 A0 A1 A2 A3 A4 A5 A6 A7 A8 A9 A10
  have m1 : w.heap.size < w6.heap.size := by omega
  have m2 : w.heap.size < w6.heap.size + 1 := by omega
  have m3 : w.heap.size + 1 < w6.heap.size := by omega
  have m4 : w.heap.size + 1 < w6.heap.size + 1 := by omega
  have m5 : w.heap.size < w6.heap.size + 1 + 1 := by omega
  have m6 : w.heap.size + 1 < w6.heap.size + 1 + 1 := by omega
  clear hk la0 lb0
  go_wp2_with fail
  refine ((unhide KK) _ _ _ _ _ R4 _).mono ?_
  rintro e w7 ⟨rfl, hk⟩
  have HK7 : Hid (Keep w w7) := hide (((unhide HK6).trans (by repeat (first | (with_reducible exact Keep.refl _) | apply keep_ext | apply Keep.alloc | apply Keep.drew | (refine keep_s9 _ _ _ (by simp [go_sem] <;> omega) ?_)))).trans hk)
  clear hk
  go_wp2_with fail
  (refine ((unhide A) _ ((unhide HK7).trans (by repeat (first | (with_reducible exact Keep.refl _) | apply keep_ext | apply Keep.alloc | apply Keep.drew)))).mono ?_; rintro e w8 ⟨rfl, hk⟩)
  have HK8 : Hid (Keep w w8) := hide (((unhide HK7).trans (by repeat (first | (with_reducible exact Keep.refl _) | apply keep_ext | apply Keep.alloc | apply Keep.drew))).trans hk)
  clear hk
  go_wp2_with fail
  go_ret
  exact ⟨rfl, unhide HK8⟩
set_option maxHeartbeats 16000000 in
theorem grows_w (S0 : ByteArray) (n5 n6 n7 n8 n9 n10 : Int) (v s un ud pn pd X Y Z X2 Y2 Z2 X3 Y3 Z3 Y4 c1 c2 : Int) (w : World) (g0 : ¬ v < 0) (g1 : ¬ 1000000000 < v) (g2 : ¬ s < 1) (g3 : ¬ 1000000000 < s) (g4 : ¬ un < 1) (g5 : ¬ ud < 1) (g6 : ¬ pn < 1) (g7 : ¬ pd < 1) 
    (RT : Int → Int → Int → Int → Int → Prop) (KK : Hid (∀ v s X Y Z, RT v s X Y Z → ∀ w, Calls Tryd.prog 9 #[.agg #[.string S0, .int .i64 v, .int .i64 s, .int .i64 un, .int .i64 ud, .int .i64 n5, .int .i64 n6, .int .i64 n7, .int .i64 n8, .int .i64 n9, .int .i64 n10], .agg #[.int .i64 pn, .int .i64 pd]] w fun e w' => e = .returned (.tuple #[.agg #[.int .i64 X, .int .i64 Y], .int .i64 Z]) ∧ Keep w w')) (R1 : RT v s X Y 0) (R2 : RT (v + 1) s X2 Y2 0) (R3 : RT v (s + 1) X3 Y3 0) (R4 : RT 0 s 0 Y4 0)
    (CM : Int → Int → Int → Int → Int → Prop) (CC : Hid (∀ a b c d x, CM a b c d x → ∀ w, Calls Tryd.prog 14 #[.agg #[.int .i64 a, .int .i64 b], .agg #[.int .i64 c, .int .i64 d]] w fun e w' => e = .returned (.int .i64 x) ∧ Keep w w')) (C1 : CM X Y X2 Y2 c1) (h1 : ¬ 0 < c1) (C2 : CM X3 Y3 X Y c2) (h2 : ¬ 0 < c2)
    (A : Hid (∀ w', Keep w w' → Calls Tryd.prog 11 #[] w' fun e w'' => e = .returned (.bool true) ∧ Keep w' w'')) :
    Calls Tryd.prog 5 #[.agg #[.string S0, .int .i64 v, .int .i64 s, .int .i64 un, .int .i64 ud, .int .i64 n5, .int .i64 n6, .int .i64 n7, .int .i64 n8, .int .i64 n9, .int .i64 n10], .agg #[.int .i64 pn, .int .i64 pd]] w fun e w' => e = .returned (.bool true) ∧ Keep w w' := by
  go_enter Tryd.func5, Tryd.ntmps5
  go_wp2_with fail
  refine ((unhide KK) _ _ _ _ _ R1 _).mono ?_
  rintro e w2 ⟨rfl, hk⟩
  have a0 := cl_9 hk (a := ⟨w.heap.size, 0, none⟩) (v := .string S0) (by simp [go_sem])
  have a1 := cl_9 hk (a := ⟨w.heap.size, 1, none⟩) (v := .int .i64 v) (by simp [go_sem])
  have a2 := cl_9 hk (a := ⟨w.heap.size, 2, none⟩) (v := .int .i64 s) (by simp [go_sem])
  have a3 := cl_9 hk (a := ⟨w.heap.size, 3, none⟩) (v := .int .i64 un) (by simp [go_sem])
  have a4 := cl_9 hk (a := ⟨w.heap.size, 4, none⟩) (v := .int .i64 ud) (by simp [go_sem])
  have a5 := cl_9 hk (a := ⟨w.heap.size, 5, none⟩) (v := .int .i64 n5) (by simp [go_sem])
  have a6 := cl_9 hk (a := ⟨w.heap.size, 6, none⟩) (v := .int .i64 n6) (by simp [go_sem])
  have a7 := cl_9 hk (a := ⟨w.heap.size, 7, none⟩) (v := .int .i64 n7) (by simp [go_sem])
  have a8 := cl_9 hk (a := ⟨w.heap.size, 8, none⟩) (v := .int .i64 n8) (by simp [go_sem])
  have a9 := cl_9 hk (a := ⟨w.heap.size, 9, none⟩) (v := .int .i64 n9) (by simp [go_sem])
  have a10 := cl_9 hk (a := ⟨w.heap.size, 10, none⟩) (v := .int .i64 n10) (by simp [go_sem])
  have b0 := cl_9 hk (a := ⟨w.heap.size + 1, 0, none⟩) (v := .int .i64 pn) (by simp [go_sem])
  have b1 := cl_9 hk (a := ⟨w.heap.size + 1, 1, none⟩) (v := .int .i64 pd) (by simp [go_sem])
  have HK2 : Hid (Keep w w2) := hide ((by repeat (first | (with_reducible exact Keep.refl _) | apply keep_ext | apply Keep.alloc | apply Keep.drew) : Keep w _).trans hk)
  have la0 : w.heap.size < w2.heap.size := World.block_lt_of_cell? w2 _ a0
  have lb0 : w.heap.size + 1 < w2.heap.size := World.block_lt_of_cell? w2 _ b0
  have m1 : w.heap.size < w2.heap.size := by omega
  have m2 : w.heap.size < w2.heap.size + 1 := by omega
  have m3 : w.heap.size + 1 < w2.heap.size := by omega
  have m4 : w.heap.size + 1 < w2.heap.size + 1 := by omega
  have m5 : w.heap.size < w2.heap.size + 1 + 1 := by omega
  have m6 : w.heap.size + 1 < w2.heap.size + 1 + 1 := by omega
  have HLT := hide (And.intro la0 lb0)
  clear hk la0 lb0
  go_wp2_with fail
  refine ((unhide KK) _ _ _ _ _ R2 _).mono ?_
  rintro e w3 ⟨rfl, hk⟩
  have A0 := cl_9 hk (a := ⟨w.heap.size, 0, none⟩) (v := .string S0) (by simp [go_sem, a0, m1, m2, m3, m4, m5, m6])
  have A1 := cl_9 hk (a := ⟨w.heap.size, 1, none⟩) (v := .int .i64 v) (by simp [go_sem, a1, m1, m2, m3, m4, m5, m6])
  have A2 := cl_9 hk (a := ⟨w.heap.size, 2, none⟩) (v := .int .i64 s) (by simp [go_sem, a2, m1, m2, m3, m4, m5, m6])
  have A3 := cl_9 hk (a := ⟨w.heap.size, 3, none⟩) (v := .int .i64 un) (by simp [go_sem, a3, m1, m2, m3, m4, m5, m6])
  have A4 := cl_9 hk (a := ⟨w.heap.size, 4, none⟩) (v := .int .i64 ud) (by simp [go_sem, a4, m1, m2, m3, m4, m5, m6])
  have A5 := cl_9 hk (a := ⟨w.heap.size, 5, none⟩) (v := .int .i64 n5) (by simp [go_sem, a5, m1, m2, m3, m4, m5, m6])
  have A6 := cl_9 hk (a := ⟨w.heap.size, 6, none⟩) (v := .int .i64 n6) (by simp [go_sem, a6, m1, m2, m3, m4, m5, m6])
  have A7 := cl_9 hk (a := ⟨w.heap.size, 7, none⟩) (v := .int .i64 n7) (by simp [go_sem, a7, m1, m2, m3, m4, m5, m6])
  have A8 := cl_9 hk (a := ⟨w.heap.size, 8, none⟩) (v := .int .i64 n8) (by simp [go_sem, a8, m1, m2, m3, m4, m5, m6])
  have A9 := cl_9 hk (a := ⟨w.heap.size, 9, none⟩) (v := .int .i64 n9) (by simp [go_sem, a9, m1, m2, m3, m4, m5, m6])
  have A10 := cl_9 hk (a := ⟨w.heap.size, 10, none⟩) (v := .int .i64 n10) (by simp [go_sem, a10, m1, m2, m3, m4, m5, m6])
  have B0 := cl_9 hk (a := ⟨w.heap.size + 1, 0, none⟩) (v := .int .i64 pn) (by simp [go_sem, b0, m1, m2, m3, m4, m5, m6])
  have B1 := cl_9 hk (a := ⟨w.heap.size + 1, 1, none⟩) (v := .int .i64 pd) (by simp [go_sem, b1, m1, m2, m3, m4, m5, m6])
  have c0 := cl_9 hk (a := ⟨w2.heap.size, 0, none⟩) (v := .int .i64 X) (by simp [go_sem])
  have c1 := cl_9 hk (a := ⟨w2.heap.size, 1, none⟩) (v := .int .i64 Y) (by simp [go_sem])
  have HK3 : Hid (Keep w w3) := hide (((unhide HK2).trans (by repeat (first | (with_reducible exact Keep.refl _) | apply keep_ext | apply Keep.alloc | apply Keep.drew | (refine keep_s9 _ _ _ (by simp [go_sem] <;> omega) ?_)))).trans hk)
  have la0 : w.heap.size < w3.heap.size := World.block_lt_of_cell? w3 _ A0
  have lb0 : w.heap.size + 1 < w3.heap.size := World.block_lt_of_cell? w3 _ B0
  clear m1 m2 m3 m4 m5 m6 b0 b1 a0 a1 a2 a3 a4 a5 a6 a7 a8 a9 a10
  have a0 := A0
  have a1 := A1
  have a2 := A2
  have a3 := A3
  have a4 := A4
  have a5 := A5
  have a6 := A6
  have a7 := A7
  have a8 := A8
  have a9 := A9
  have a10 := A10
  have b0 := B0
  have b1 := B1
  clear B0 B1 A0 A1 A2 A3 A4 A5 A6 A7 A8 A9 A10
  have m1 : w.heap.size < w3.heap.size := by omega
  have m2 : w.heap.size < w3.heap.size + 1 := by omega
  have m3 : w.heap.size + 1 < w3.heap.size := by omega
  have m4 : w.heap.size + 1 < w3.heap.size + 1 := by omega
  have m5 : w.heap.size < w3.heap.size + 1 + 1 := by omega
  have m6 : w.heap.size + 1 < w3.heap.size + 1 + 1 := by omega
  have lc0 : w2.heap.size < w3.heap.size := World.block_lt_of_cell? w3 _ c0
  have p1 : w2.heap.size < w3.heap.size := by omega
  have p2 : w2.heap.size < w3.heap.size + 1 := by omega
  clear hk lc0 la0 lb0 HK2 HLT
  go_wp2_with fail
  refine ((unhide KK) _ _ _ _ _ R3 _).mono ?_
  rintro e w4 ⟨rfl, hk⟩
  have A0 := cl_9 hk (a := ⟨w.heap.size, 0, none⟩) (v := .string S0) (by simp [go_sem, a0, m1, m2, m3, m4, m5, m6])
  have A1 := cl_9 hk (a := ⟨w.heap.size, 1, none⟩) (v := .int .i64 v) (by simp [go_sem, a1, m1, m2, m3, m4, m5, m6])
  have A2 := cl_9 hk (a := ⟨w.heap.size, 2, none⟩) (v := .int .i64 s) (by simp [go_sem, a2, m1, m2, m3, m4, m5, m6])
  have A3 := cl_9 hk (a := ⟨w.heap.size, 3, none⟩) (v := .int .i64 un) (by simp [go_sem, a3, m1, m2, m3, m4, m5, m6])
  have A4 := cl_9 hk (a := ⟨w.heap.size, 4, none⟩) (v := .int .i64 ud) (by simp [go_sem, a4, m1, m2, m3, m4, m5, m6])
  have A5 := cl_9 hk (a := ⟨w.heap.size, 5, none⟩) (v := .int .i64 n5) (by simp [go_sem, a5, m1, m2, m3, m4, m5, m6])
  have A6 := cl_9 hk (a := ⟨w.heap.size, 6, none⟩) (v := .int .i64 n6) (by simp [go_sem, a6, m1, m2, m3, m4, m5, m6])
  have A7 := cl_9 hk (a := ⟨w.heap.size, 7, none⟩) (v := .int .i64 n7) (by simp [go_sem, a7, m1, m2, m3, m4, m5, m6])
  have A8 := cl_9 hk (a := ⟨w.heap.size, 8, none⟩) (v := .int .i64 n8) (by simp [go_sem, a8, m1, m2, m3, m4, m5, m6])
  have A9 := cl_9 hk (a := ⟨w.heap.size, 9, none⟩) (v := .int .i64 n9) (by simp [go_sem, a9, m1, m2, m3, m4, m5, m6])
  have A10 := cl_9 hk (a := ⟨w.heap.size, 10, none⟩) (v := .int .i64 n10) (by simp [go_sem, a10, m1, m2, m3, m4, m5, m6])
  have B0 := cl_9 hk (a := ⟨w.heap.size + 1, 0, none⟩) (v := .int .i64 pn) (by simp [go_sem, b0, m1, m2, m3, m4, m5, m6])
  have B1 := cl_9 hk (a := ⟨w.heap.size + 1, 1, none⟩) (v := .int .i64 pd) (by simp [go_sem, b1, m1, m2, m3, m4, m5, m6])
  have e0 := cl_9 hk (a := ⟨w2.heap.size, 0, none⟩) (v := .int .i64 X) (by simp [go_sem, c0, p1, p2])
  have e1 := cl_9 hk (a := ⟨w2.heap.size, 1, none⟩) (v := .int .i64 Y) (by simp [go_sem, c1, p1, p2])
  have d0 := cl_9 hk (a := ⟨w3.heap.size, 0, none⟩) (v := .int .i64 X2) (by simp [go_sem])
  have d1 := cl_9 hk (a := ⟨w3.heap.size, 1, none⟩) (v := .int .i64 Y2) (by simp [go_sem])
  have HK4 : Hid (Keep w w4) := hide (((unhide HK3).trans (by repeat (first | (with_reducible exact Keep.refl _) | apply keep_ext | apply Keep.alloc | apply Keep.drew | (refine keep_s9 _ _ _ (by simp [go_sem] <;> omega) ?_)))).trans hk)
  have la0 : w.heap.size < w4.heap.size := World.block_lt_of_cell? w4 _ A0
  have lb0 : w.heap.size + 1 < w4.heap.size := World.block_lt_of_cell? w4 _ B0
  clear m1 m2 m3 m4 m5 m6 b0 b1 a0 a1 a2 a3 a4 a5 a6 a7 a8 a9 a10
  have a0 := A0
  have a1 := A1
  have a2 := A2
  have a3 := A3
  have a4 := A4
  have a5 := A5
  have a6 := A6
  have a7 := A7
  have a8 := A8
  have a9 := A9
  have a10 := A10
  have b0 := B0
  have b1 := B1
  clear B0 B1 A0 A1 A2 A3 A4 A5 A6 A7 A8 A9 A10
  have m1 : w.heap.size < w4.heap.size := by omega
  have m2 : w.heap.size < w4.heap.size + 1 := by omega
  have m3 : w.heap.size + 1 < w4.heap.size := by omega
  have m4 : w.heap.size + 1 < w4.heap.size + 1 := by omega
  have m5 : w.heap.size < w4.heap.size + 1 + 1 := by omega
  have m6 : w.heap.size + 1 < w4.heap.size + 1 + 1 := by omega
  have le0 : w2.heap.size < w4.heap.size := World.block_lt_of_cell? w4 _ e0
  have ld0 : w3.heap.size < w4.heap.size := World.block_lt_of_cell? w4 _ d0
  have p3 : w2.heap.size < w4.heap.size := by omega
  have p4 : w3.heap.size < w4.heap.size := by omega
  have HL4 := hide (And.intro le0 ld0)
  clear hk le0 ld0 la0 lb0 HK3 c0 c1 p1 p2
  go_wp2_with fail
  refine ((unhide CC) _ _ _ _ _ C1 _).mono ?_
  rintro e w5 ⟨rfl, hk⟩
  have A0 := cl_9 hk (a := ⟨w.heap.size, 0, none⟩) (v := .string S0) (by simp [go_sem, a0, m1, m2, m3, m4, m5, m6])
  have A1 := cl_9 hk (a := ⟨w.heap.size, 1, none⟩) (v := .int .i64 v) (by simp [go_sem, a1, m1, m2, m3, m4, m5, m6])
  have A2 := cl_9 hk (a := ⟨w.heap.size, 2, none⟩) (v := .int .i64 s) (by simp [go_sem, a2, m1, m2, m3, m4, m5, m6])
  have A3 := cl_9 hk (a := ⟨w.heap.size, 3, none⟩) (v := .int .i64 un) (by simp [go_sem, a3, m1, m2, m3, m4, m5, m6])
  have A4 := cl_9 hk (a := ⟨w.heap.size, 4, none⟩) (v := .int .i64 ud) (by simp [go_sem, a4, m1, m2, m3, m4, m5, m6])
  have A5 := cl_9 hk (a := ⟨w.heap.size, 5, none⟩) (v := .int .i64 n5) (by simp [go_sem, a5, m1, m2, m3, m4, m5, m6])
  have A6 := cl_9 hk (a := ⟨w.heap.size, 6, none⟩) (v := .int .i64 n6) (by simp [go_sem, a6, m1, m2, m3, m4, m5, m6])
  have A7 := cl_9 hk (a := ⟨w.heap.size, 7, none⟩) (v := .int .i64 n7) (by simp [go_sem, a7, m1, m2, m3, m4, m5, m6])
  have A8 := cl_9 hk (a := ⟨w.heap.size, 8, none⟩) (v := .int .i64 n8) (by simp [go_sem, a8, m1, m2, m3, m4, m5, m6])
  have A9 := cl_9 hk (a := ⟨w.heap.size, 9, none⟩) (v := .int .i64 n9) (by simp [go_sem, a9, m1, m2, m3, m4, m5, m6])
  have A10 := cl_9 hk (a := ⟨w.heap.size, 10, none⟩) (v := .int .i64 n10) (by simp [go_sem, a10, m1, m2, m3, m4, m5, m6])
  have B0 := cl_9 hk (a := ⟨w.heap.size + 1, 0, none⟩) (v := .int .i64 pn) (by simp [go_sem, b0, m1, m2, m3, m4, m5, m6])
  have B1 := cl_9 hk (a := ⟨w.heap.size + 1, 1, none⟩) (v := .int .i64 pd) (by simp [go_sem, b1, m1, m2, m3, m4, m5, m6])
  have x0 := cl_9 hk (a := ⟨w2.heap.size, 0, none⟩) (v := .int .i64 X) (by simp [go_sem, e0, p3])
  have x1 := cl_9 hk (a := ⟨w2.heap.size, 1, none⟩) (v := .int .i64 Y) (by simp [go_sem, e1, p3])
  have y0 := cl_9 hk (a := ⟨w4.heap.size, 0, none⟩) (v := .int .i64 X3) (by simp [go_sem])
  have y1 := cl_9 hk (a := ⟨w4.heap.size, 1, none⟩) (v := .int .i64 Y3) (by simp [go_sem])
  have HK5 : Hid (Keep w w5) := hide (((unhide HK4).trans (by repeat (first | (with_reducible exact Keep.refl _) | apply keep_ext | apply Keep.alloc | apply Keep.drew | (refine keep_s9 _ _ _ (by simp [go_sem] <;> omega) ?_)))).trans hk)
  have la0 : w.heap.size < w5.heap.size := World.block_lt_of_cell? w5 _ A0
  have lb0 : w.heap.size + 1 < w5.heap.size := World.block_lt_of_cell? w5 _ B0
  clear m1 m2 m3 m4 m5 m6 b0 b1 a0 a1 a2 a3 a4 a5 a6 a7 a8 a9 a10
  have a0 := A0
  have a1 := A1
  have a2 := A2
  have a3 := A3
  have a4 := A4
  have a5 := A5
  have a6 := A6
  have a7 := A7
  have a8 := A8
  have a9 := A9
  have a10 := A10
  have b0 := B0
  have b1 := B1
  clear B0 B1 A0 A1 A2 A3 A4 A5 A6 A7 A8 A9 A10
  have m1 : w.heap.size < w5.heap.size := by omega
  have m2 : w.heap.size < w5.heap.size + 1 := by omega
  have m3 : w.heap.size + 1 < w5.heap.size := by omega
  have m4 : w.heap.size + 1 < w5.heap.size + 1 := by omega
  have m5 : w.heap.size < w5.heap.size + 1 + 1 := by omega
  have m6 : w.heap.size + 1 < w5.heap.size + 1 + 1 := by omega
  clear hk la0 lb0
  go_wp2_with fail
  refine ((unhide CC) _ _ _ _ _ C2 _).mono ?_
  rintro e w6 ⟨rfl, hk⟩
  have A0 := cl_9 hk (a := ⟨w.heap.size, 0, none⟩) (v := .string S0) (by simp [go_sem, a0, m1, m2, m3, m4, m5, m6])
  have A1 := cl_9 hk (a := ⟨w.heap.size, 1, none⟩) (v := .int .i64 v) (by simp [go_sem, a1, m1, m2, m3, m4, m5, m6])
  have A2 := cl_9 hk (a := ⟨w.heap.size, 2, none⟩) (v := .int .i64 s) (by simp [go_sem, a2, m1, m2, m3, m4, m5, m6])
  have A3 := cl_9 hk (a := ⟨w.heap.size, 3, none⟩) (v := .int .i64 un) (by simp [go_sem, a3, m1, m2, m3, m4, m5, m6])
  have A4 := cl_9 hk (a := ⟨w.heap.size, 4, none⟩) (v := .int .i64 ud) (by simp [go_sem, a4, m1, m2, m3, m4, m5, m6])
  have A5 := cl_9 hk (a := ⟨w.heap.size, 5, none⟩) (v := .int .i64 n5) (by simp [go_sem, a5, m1, m2, m3, m4, m5, m6])
  have A6 := cl_9 hk (a := ⟨w.heap.size, 6, none⟩) (v := .int .i64 n6) (by simp [go_sem, a6, m1, m2, m3, m4, m5, m6])
  have A7 := cl_9 hk (a := ⟨w.heap.size, 7, none⟩) (v := .int .i64 n7) (by simp [go_sem, a7, m1, m2, m3, m4, m5, m6])
  have A8 := cl_9 hk (a := ⟨w.heap.size, 8, none⟩) (v := .int .i64 n8) (by simp [go_sem, a8, m1, m2, m3, m4, m5, m6])
  have A9 := cl_9 hk (a := ⟨w.heap.size, 9, none⟩) (v := .int .i64 n9) (by simp [go_sem, a9, m1, m2, m3, m4, m5, m6])
  have A10 := cl_9 hk (a := ⟨w.heap.size, 10, none⟩) (v := .int .i64 n10) (by simp [go_sem, a10, m1, m2, m3, m4, m5, m6])
  have B0 := cl_9 hk (a := ⟨w.heap.size + 1, 0, none⟩) (v := .int .i64 pn) (by simp [go_sem, b0, m1, m2, m3, m4, m5, m6])
  have B1 := cl_9 hk (a := ⟨w.heap.size + 1, 1, none⟩) (v := .int .i64 pd) (by simp [go_sem, b1, m1, m2, m3, m4, m5, m6])
  have HK6 : Hid (Keep w w6) := hide (((unhide HK5).trans (by repeat (first | (with_reducible exact Keep.refl _) | apply keep_ext | apply Keep.alloc | apply Keep.drew | (refine keep_s9 _ _ _ (by simp [go_sem] <;> omega) ?_)))).trans hk)
  have la0 : w.heap.size < w6.heap.size := World.block_lt_of_cell? w6 _ A0
  have lb0 : w.heap.size + 1 < w6.heap.size := World.block_lt_of_cell? w6 _ B0
  clear m1 m2 m3 m4 m5 m6 b0 b1 a0 a1 a2 a3 a4 a5 a6 a7 a8 a9 a10
  have a0 := A0
  have a1 := A1
  have a2 := A2
  have a3 := A3
  have a4 := A4
  have a5 := A5
  have a6 := A6
  have a7 := A7
  have a8 := A8
  have a9 := A9
  have a10 := A10
  have b0 := B0
  have b1 := B1
  clear B0 B1 A0 A1 A2 A3 A4 A5 A6 A7 A8 A9 A10
  have m1 : w.heap.size < w6.heap.size := by omega
  have m2 : w.heap.size < w6.heap.size + 1 := by omega
  have m3 : w.heap.size + 1 < w6.heap.size := by omega
  have m4 : w.heap.size + 1 < w6.heap.size + 1 := by omega
  have m5 : w.heap.size < w6.heap.size + 1 + 1 := by omega
  have m6 : w.heap.size + 1 < w6.heap.size + 1 + 1 := by omega
  clear hk la0 lb0
  go_wp2_with fail
  refine ((unhide KK) _ _ _ _ _ R4 _).mono ?_
  rintro e w7 ⟨rfl, hk⟩
  have HK7 : Hid (Keep w w7) := hide (((unhide HK6).trans (by repeat (first | (with_reducible exact Keep.refl _) | apply keep_ext | apply Keep.alloc | apply Keep.drew | (refine keep_s9 _ _ _ (by simp [go_sem] <;> omega) ?_)))).trans hk)
  clear hk
  go_wp2_with fail
  (refine ((unhide A) _ ((unhide HK7).trans (by repeat (first | (with_reducible exact Keep.refl _) | apply keep_ext | apply Keep.alloc | apply Keep.drew)))).mono ?_; rintro e w8 ⟨rfl, hk⟩)
  have HK8 : Hid (Keep w w8) := hide (((unhide HK7).trans (by repeat (first | (with_reducible exact Keep.refl _) | apply keep_ext | apply Keep.alloc | apply Keep.drew))).trans hk)
  clear hk
  go_wp2_with fail
  go_ret
  exact ⟨rfl, unhide HK8⟩
end W
end Go.Proofs.YtnegcifbbbmlnaaDoor
