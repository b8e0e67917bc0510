/- The document's volumes and ratios. -/
import Derived.Test.YtnegcifbbbmlnaaGreatDoorDWk
import Derived.Test.YtnegcifbbbmlnaaGreatDoorRefP
namespace Go.Proofs.YtnegcifbbbmlnaaGreatDoor
open Go.RowKit
attribute [local go_sem ↓] Go.wp_at_zero Go.wp_at_succ
set_option linter.unusedVariables false
set_option linter.unusedSimpArgs false
set_option maxRecDepth 10000
namespace W
set_option maxHeartbeats 2000000 in
theorem rvol_a (u0 u5 u6 u7 u8 u9 u10 : Value) (v s un ud pn pd : Int) (z : Int) (w : World) (hz : ¬ z = 0)
    (T1 : Hid (∀ w, Calls Tryz.prog 25 #[.int .i64 un, .int .i64 ud] w fun e w' => e = .returned (.tuple #[.agg #[.int .i64 0, .int .i64 0], .int .i64 z]) ∧ Keep w w')) :
    Calls Tryz.prog 15 #[.agg #[u0, .int .i64 v, .int .i64 s, .int .i64 un, .int .i64 ud, u5, u6, u7, u8, u9, u10], .agg #[.int .i64 pn, .int .i64 pd]] w fun e w' => e = .returned (.tuple #[.agg #[.int .i64 0, .int .i64 0], .int .i64 z]) ∧ Keep w w' := by
  go_enter Tryz.func15, Tryz.ntmps15
  go_wp2_with fail
  (refine ((uq T1) _).mono ?_; rintro e w2 ⟨rfl, hk⟩; obtain ⟨o1, k1, rfl⟩ := hk.ext; clear hk)
  go_wp2_with fail
  exact bodyPost_ret (v := .tuple #[.agg #[.int .i64 0, .int .i64 0], .int .i64 z]) (by simp [results, Tryz.results15, go_sem]) rfl ⟨rfl, by repeat (first | (with_reducible exact Keep.refl _) | apply keep_ext | apply Keep.alloc | apply Keep.drew | (refine keep_st _ _ _ (by simp [go_sem] <;> omega) ?_))⟩
set_option maxHeartbeats 2000000 in
theorem rvol_b (u0 u5 u6 u7 u8 u9 u10 : Value) (v s un ud pn pd : Int) (x1 y1 z : Int) (w : World) (hz : ¬ z = 0)
    (T1 : Hid (∀ w, Calls Tryz.prog 25 #[.int .i64 un, .int .i64 ud] w fun e w' => e = .returned (.tuple #[.agg #[.int .i64 x1, .int .i64 y1], .int .i64 0]) ∧ Keep w w'))
    (T2 : Hid (∀ w, Calls Tryz.prog 26 #[.agg #[.int .i64 x1, .int .i64 y1], .agg #[.int .i64 v, .int .i64 1]] w fun e w' => e = .returned (.tuple #[.agg #[.int .i64 0, .int .i64 0], .int .i64 z]) ∧ Keep w w')) :
    Calls Tryz.prog 15 #[.agg #[u0, .int .i64 v, .int .i64 s, .int .i64 un, .int .i64 ud, u5, u6, u7, u8, u9, u10], .agg #[.int .i64 pn, .int .i64 pd]] w fun e w' => e = .returned (.tuple #[.agg #[.int .i64 0, .int .i64 0], .int .i64 z]) ∧ Keep w w' := by
  go_enter Tryz.func15, Tryz.ntmps15
  go_wp2_with fail
  (refine ((uq T1) _).mono ?_; rintro e w2 ⟨rfl, hk⟩; obtain ⟨o1, k1, rfl⟩ := hk.ext; clear hk)
  go_wp2_with fail
  (refine ((uq T2) _).mono ?_; rintro e w2 ⟨rfl, hk⟩; obtain ⟨o2, k2, rfl⟩ := hk.ext; clear hk)
  go_wp2_with fail
  exact bodyPost_ret (v := .tuple #[.agg #[.int .i64 0, .int .i64 0], .int .i64 z]) (by simp [results, Tryz.results15, go_sem]) rfl ⟨rfl, by repeat (first | (with_reducible exact Keep.refl _) | apply keep_ext | apply Keep.alloc | apply Keep.drew | (refine keep_st _ _ _ (by simp [go_sem] <;> omega) ?_))⟩
set_option maxHeartbeats 2000000 in
theorem rvol_c (u0 u5 u6 u7 u8 u9 u10 : Value) (v s un ud pn pd : Int) (x1 y1 x2 y2 z : Int) (w : World) (hz : ¬ z = 0)
    (Of : Int → Int → Int → Int → Int → Prop) (OO : Hid (∀ n d x y z, Of n d x y z → ∀ w, Calls Tryz.prog 25 #[.int .i64 n, .int .i64 d] w fun e w' => e = .returned (.tuple #[.agg #[.int .i64 x, .int .i64 y], .int .i64 z]) ∧ Keep w w')) (O1 : Of un ud x1 y1 0) (O2 : Of pn pd 0 0 z)
    (T2 : Hid (∀ w, Calls Tryz.prog 26 #[.agg #[.int .i64 x1, .int .i64 y1], .agg #[.int .i64 v, .int .i64 1]] w fun e w' => e = .returned (.tuple #[.agg #[.int .i64 x2, .int .i64 y2], .int .i64 0]) ∧ Keep w w')) :
    Calls Tryz.prog 15 #[.agg #[u0, .int .i64 v, .int .i64 s, .int .i64 un, .int .i64 ud, u5, u6, u7, u8, u9, u10], .agg #[.int .i64 pn, .int .i64 pd]] w fun e w' => e = .returned (.tuple #[.agg #[.int .i64 0, .int .i64 0], .int .i64 z]) ∧ Keep w w' := by
  go_enter Tryz.func15, Tryz.ntmps15
  go_wp2_with fail
  (refine ((uq OO) _ _ _ _ _ O1 _).mono ?_; rintro e w2 ⟨rfl, hk⟩; obtain ⟨o1, k1, rfl⟩ := hk.ext; clear hk)
  go_wp2_with fail
  (refine ((uq T2) _).mono ?_; rintro e w2 ⟨rfl, hk⟩; obtain ⟨o2, k2, rfl⟩ := hk.ext; clear hk)
  go_wp2_with fail
  (refine ((uq OO) _ _ _ _ _ O2 _).mono ?_; rintro e w2 ⟨rfl, hk⟩; obtain ⟨o3, k3, rfl⟩ := hk.ext; clear hk)
  go_wp2_with fail
  exact bodyPost_ret (v := .tuple #[.agg #[.int .i64 0, .int .i64 0], .int .i64 z]) (by simp [results, Tryz.results15, go_sem]) rfl ⟨rfl, by repeat (first | (with_reducible exact Keep.refl _) | apply keep_ext | apply Keep.alloc | apply Keep.drew | (refine keep_st _ _ _ (by simp [go_sem] <;> omega) ?_))⟩
set_option maxHeartbeats 2000000 in
theorem rvol_d (u0 u5 u6 u7 u8 u9 u10 : Value) (v s un ud pn pd : Int) (x1 y1 x2 y2 x3 y3 X Y Z : Int) (w : World)
    (Of : Int → Int → Int → Int → Int → Prop) (OO : Hid (∀ n d x y z, Of n d x y z → ∀ w, Calls Tryz.prog 25 #[.int .i64 n, .int .i64 d] w fun e w' => e = .returned (.tuple #[.agg #[.int .i64 x, .int .i64 y], .int .i64 z]) ∧ Keep w w')) (O1 : Of un ud x1 y1 0) (O2 : Of pn pd x3 y3 0)
    (T2 : Hid (∀ w, Calls Tryz.prog 26 #[.agg #[.int .i64 x1, .int .i64 y1], .agg #[.int .i64 v, .int .i64 1]] w fun e w' => e = .returned (.tuple #[.agg #[.int .i64 x2, .int .i64 y2], .int .i64 0]) ∧ Keep w w'))
    (T4 : Hid (∀ w, Calls Tryz.prog 16 #[.agg #[.int .i64 x2, .int .i64 y2], .agg #[.int .i64 x3, .int .i64 y3]] w fun e w' => e = .returned (.tuple #[.agg #[.int .i64 X, .int .i64 Y], .int .i64 Z]) ∧ Keep w w')) :
    Calls Tryz.prog 15 #[.agg #[u0, .int .i64 v, .int .i64 s, .int .i64 un, .int .i64 ud, u5, u6, u7, u8, u9, u10], .agg #[.int .i64 pn, .int .i64 pd]] w fun e w' => e = .returned (.tuple #[.agg #[.int .i64 X, .int .i64 Y], .int .i64 Z]) ∧ Keep w w' := by
  go_enter Tryz.func15, Tryz.ntmps15
  go_wp2_with fail
  (refine ((uq OO) _ _ _ _ _ O1 _).mono ?_; rintro e w2 ⟨rfl, hk⟩; obtain ⟨o1, k1, rfl⟩ := hk.ext; clear hk)
  go_wp2_with fail
  (refine ((uq T2) _).mono ?_; rintro e w2 ⟨rfl, hk⟩; obtain ⟨o2, k2, rfl⟩ := hk.ext; clear hk)
  go_wp2_with fail
  (refine ((uq OO) _ _ _ _ _ O2 _).mono ?_; rintro e w2 ⟨rfl, hk⟩; obtain ⟨o3, k3, rfl⟩ := hk.ext; clear hk)
  go_wp2_with fail
  (refine ((uq T4) _).mono ?_; rintro e w2 ⟨rfl, hk⟩; obtain ⟨o4, k4, rfl⟩ := hk.ext; clear hk)
  go_wp2_with fail
  exact bodyPost_ret (v := .tuple #[.agg #[.int .i64 X, .int .i64 Y], .int .i64 Z]) (by simp [results, Tryz.results15, go_sem]) rfl ⟨rfl, by repeat (first | (with_reducible exact Keep.refl _) | apply keep_ext | apply Keep.alloc | apply Keep.drew | (refine keep_st _ _ _ (by simp [go_sem] <;> omega) ?_))⟩
set_option maxHeartbeats 2000000 in
theorem rrat_a (u0 u5 u6 u7 u8 u9 u10 : Value) (v s un ud pn pd : Int) (x y z : Int) (w : World) (hz : ¬ z = 0)
    (T1 : Hid (∀ w, Calls Tryz.prog 15 #[.agg #[u0, .int .i64 v, .int .i64 s, .int .i64 un, .int .i64 ud, u5, u6, u7, u8, u9, u10], .agg #[.int .i64 pn, .int .i64 pd]] w fun e w' => e = .returned (.tuple #[.agg #[.int .i64 x, .int .i64 y], .int .i64 z]) ∧ Keep w w')) :
    Calls Tryz.prog 11 #[.agg #[u0, .int .i64 v, .int .i64 s, .int .i64 un, .int .i64 ud, u5, u6, u7, u8, u9, u10], .agg #[.int .i64 pn, .int .i64 pd]] w fun e w' => e = .returned (.tuple #[.agg #[.int .i64 0, .int .i64 0], .int .i64 z]) ∧ Keep w w' := by
  go_enter Tryz.func11, Tryz.ntmps11
  go_wp2_with fail
  (refine ((uq T1) _).mono ?_; rintro e w2 ⟨rfl, hk⟩; obtain ⟨o1, k1, rfl⟩ := hk.ext; clear hk)
  go_wp2_with fail
  exact bodyPost_ret (v := .tuple #[.agg #[.int .i64 0, .int .i64 0], .int .i64 z]) (by simp [results, Tryz.results11, go_sem]) rfl ⟨rfl, by repeat (first | (with_reducible exact Keep.refl _) | apply keep_ext | apply Keep.alloc | apply Keep.drew | (refine keep_st _ _ _ (by simp [go_sem] <;> omega) ?_))⟩
set_option maxHeartbeats 2000000 in
theorem rrat_b (u0 u5 u6 u7 u8 u9 u10 : Value) (v s un ud pn pd : Int) (x y X Y Z : Int) (w : World)
    (T1 : Hid (∀ w, Calls Tryz.prog 15 #[.agg #[u0, .int .i64 v, .int .i64 s, .int .i64 un, .int .i64 ud, u5, u6, u7, u8, u9, u10], .agg #[.int .i64 pn, .int .i64 pd]] w fun e w' => e = .returned (.tuple #[.agg #[.int .i64 x, .int .i64 y], .int .i64 0]) ∧ Keep w w'))
    (T2 : Hid (∀ w, Calls Tryz.prog 16 #[.agg #[.int .i64 x, .int .i64 y], .agg #[.int .i64 s, .int .i64 1]] w fun e w' => e = .returned (.tuple #[.agg #[.int .i64 X, .int .i64 Y], .int .i64 Z]) ∧ Keep w w')) :
    Calls Tryz.prog 11 #[.agg #[u0, .int .i64 v, .int .i64 s, .int .i64 un, .int .i64 ud, u5, u6, u7, u8, u9, u10], .agg #[.int .i64 pn, .int .i64 pd]] w fun e w' => e = .returned (.tuple #[.agg #[.int .i64 X, .int .i64 Y], .int .i64 Z]) ∧ Keep w w' := by
  go_enter Tryz.func11, Tryz.ntmps11
  go_wp2_with fail
  (refine ((uq T1) _).mono ?_; rintro e w2 ⟨rfl, hk⟩; obtain ⟨o1, k1, rfl⟩ := hk.ext; clear hk)
  go_wp2_with fail
  (refine ((uq T2) _).mono ?_; rintro e w2 ⟨rfl, hk⟩; obtain ⟨o2, k2, rfl⟩ := hk.ext; clear hk)
  go_wp2_with fail
  exact bodyPost_ret (v := .tuple #[.agg #[.int .i64 X, .int .i64 Y], .int .i64 Z]) (by simp [results, Tryz.results11, go_sem]) rfl ⟨rfl, by repeat (first | (with_reducible exact Keep.refl _) | apply keep_ext | apply Keep.alloc | apply Keep.drew | (refine keep_st _ _ _ (by simp [go_sem] <;> omega) ?_))⟩
theorem rof_is (n d : Int) (h1 : i64 n) (h2 : i64 d) (w : World) : Calls Tryz.prog 25 #[.int .i64 n, .int .i64 d] w fun e w' => e = .returned (.tuple #[.agg #[.int .i64 (ofF n d).1, .int .i64 (ofF n d).2.1], .int .i64 (ofF n d).2.2]) ∧ Keep w w' := by
  unfold ofF
  by_cases hz : d = 0
  · rw [if_pos hz]
    subst hz
    exact r2of_zero n w
  · rw [if_neg hz]
    exact r2of_any n d w h1.1 h1.2 h2.1 h2.2 hz
theorem rmul_is {a b c d : Int} (h1 : i64 a) (h2 : i64 b) (h3 : i64 c) (h4 : i64 d) (w : World) : Calls Tryz.prog 26 #[.agg #[.int .i64 a, .int .i64 b], .agg #[.int .i64 c, .int .i64 d]] w fun e w' => e = .returned (.tuple #[.agg #[.int .i64 (mulF a b c d).1, .int .i64 (mulF a b c d).2.1], .int .i64 (mulF a b c d).2.2]) ∧ Keep w w' :=
  rfmul_any a b c d w h1.1 h1.2 h2.1 h2.2 h3.1 h3.2 h4.1 h4.2
theorem rdiv_is {a b c d : Int} (h1 : i64 a) (h2 : i64 b) (h3 : i64 c) (h4 : i64 d) (w : World) : Calls Tryz.prog 16 #[.agg #[.int .i64 a, .int .i64 b], .agg #[.int .i64 c, .int .i64 d]] w fun e w' => e = .returned (.tuple #[.agg #[.int .i64 (divF a b c d).1, .int .i64 (divF a b c d).2.1], .int .i64 (divF a b c d).2.2]) ∧ Keep w w' := by
  unfold divF
  by_cases hz : cn c d = 0
  · rw [if_pos hz]
    exact rfdiv_zero a b c d w h1.1 h1.2 h2.1 h2.2 h3.1 h3.2 h4.1 h4.2 hz
  · rw [if_neg hz]
    exact rfdiv_any a b c d w h1.1 h1.2 h2.1 h2.2 h3.1 h3.2 h4.1 h4.2 hz
theorem rvolume_any (u0 u5 u6 u7 u8 u9 u10 : Value) {v s un ud pn pd : Int} (hv : i64 v) (hu : i64 un) (hd : i64 ud) (hp : i64 pn) (hq : i64 pd) (w : World) :
    Calls Tryz.prog 15 #[.agg #[u0, .int .i64 v, .int .i64 s, .int .i64 un, .int .i64 ud, u5, u6, u7, u8, u9, u10], .agg #[.int .i64 pn, .int .i64 pd]] w fun e w' => e = .returned (.tuple #[.agg #[.int .i64 (volF v un ud pn pd).1, .int .i64 (volF v un ud pn pd).2.1], .int .i64 (volF v un ud pn pd).2.2]) ∧ Keep w w' := by
  have i1 : i64 1 := ⟨by omega, by omega⟩
  rw [vol_doc hv]
  unfold dvolF
  have O1 := rof_is un ud hu hd
  have k1 := ofF_ok un ud
  by_cases h1 : (ofF un ud).2.2 = 0
  · rw [if_neg (by simpa using h1)]
    have O2 := rmul_is k1.in1 k1.in2 hv i1
    have k2 := mulF_ok (ofF un ud).1 (ofF un ud).2.1 v 1
    rw [h1] at O1
    by_cases h2 : (mulF (ofF un ud).1 (ofF un ud).2.1 v 1).2.2 = 0
    · rw [if_neg (by simpa using h2)]
      rw [h2] at O2
      have O3 := rof_is pn pd hp hq
      have k3 := ofF_ok pn pd
      by_cases h3 : (ofF pn pd).2.2 = 0
      · rw [if_neg (by simpa using h3)]
        rw [h3] at O3
        exact rvol_d u0 u5 u6 u7 u8 u9 u10 v s un ud pn pd _ _ _ _ _ _ _ _ _ w (fun n d x y z => ∀ w, Calls Tryz.prog 25 #[.int .i64 n, .int .i64 d] w fun e w' => e = .returned (.tuple #[.agg #[.int .i64 x, .int .i64 y], .int .i64 z]) ∧ Keep w w') (hide fun n d x y z h => h) O1 O3 (hide O2) (hide (rdiv_is k2.in1 k2.in2 k3.in1 k3.in2))
      · rw [if_pos h3]
        rw [k3.zero h3] at O3
        exact rvol_c u0 u5 u6 u7 u8 u9 u10 v s un ud pn pd _ _ _ _ _ w h3 (fun n d x y z => ∀ w, Calls Tryz.prog 25 #[.int .i64 n, .int .i64 d] w fun e w' => e = .returned (.tuple #[.agg #[.int .i64 x, .int .i64 y], .int .i64 z]) ∧ Keep w w') (hide fun n d x y z h => h) O1 O3 (hide O2)
    · rw [if_pos h2]
      rw [k2.zero h2] at O2
      exact rvol_b u0 u5 u6 u7 u8 u9 u10 v s un ud pn pd _ _ _ w h2 (hide O1) (hide O2)
  · rw [if_pos h1]
    rw [k1.zero h1] at O1
    exact rvol_a u0 u5 u6 u7 u8 u9 u10 v s un ud pn pd _ w h1 (hide O1)
theorem rratio_any (u0 u5 u6 u7 u8 u9 u10 : Value) {v s un ud pn pd : Int} (hv : i64 v) (hs : i64 s) (hu : i64 un) (hd : i64 ud) (hp : i64 pn) (hq : i64 pd) (w : World) :
    Calls Tryz.prog 11 #[.agg #[u0, .int .i64 v, .int .i64 s, .int .i64 un, .int .i64 ud, u5, u6, u7, u8, u9, u10], .agg #[.int .i64 pn, .int .i64 pd]] w fun e w' => e = .returned (.tuple #[.agg #[.int .i64 (ratF v s un ud pn pd).1, .int .i64 (ratF v s un ud pn pd).2.1], .int .i64 (ratF v s un ud pn pd).2.2]) ∧ Keep w w' := by
  have i1 : i64 1 := ⟨by omega, by omega⟩
  have O1 := fun w => rvolume_any u0 u5 u6 u7 u8 u9 u10 (s := s) hv hu hd hp hq w
  have k1 := vol_ok v un ud pn pd
  rw [rat_doc hv hs]
  unfold dratF
  rw [← vol_doc hv]
  by_cases h1 : (volF v un ud pn pd).2.2 = 0
  · rw [if_neg (by simpa using h1)]
    rw [h1] at O1
    exact rrat_b u0 u5 u6 u7 u8 u9 u10 v s un ud pn pd _ _ _ _ _ w (hide O1) (hide (rdiv_is k1.in1 k1.in2 hs i1))
  · rw [if_pos h1]
    exact rrat_a u0 u5 u6 u7 u8 u9 u10 v s un ud pn pd _ _ _ w h1 (hide O1)
end W
end Go.Proofs.YtnegcifbbbmlnaaGreatDoor
