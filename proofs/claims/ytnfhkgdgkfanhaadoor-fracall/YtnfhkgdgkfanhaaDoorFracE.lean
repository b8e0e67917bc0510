/- Package frac: Cmp, Floor, Ceil, and a text of small numbers. -/
import Derived.Test.YtnfhkgdgkfanhaaDoorFracP0
import Derived.Test.YtnfhkgdgkfanhaaDoorWholeQ
namespace Go.Proofs.YtnfhkgdgkfanhaaDoor
open Go.RowKit
set_option linter.unusedVariables false
set_option maxRecDepth 10000
set_option maxHeartbeats 1000000 in
theorem cmp_core (n d n2 d2 x y x2 y2 v : Int) (w : World) (Cn : Int → Int → Int → Int → Prop) (K1 : Cn n d x y) (K2 : Cn n2 d2 x2 y2)
    (T1 : Hid (∀ (n d x y : Int), Cn n d x y → ∀ w, Calls Tryd.prog 56 #[.agg #[.int .i64 n, .int .i64 d]] w fun e w' => e = .returned (.agg #[.int .i64 x, .int .i64 y]) ∧ Keep w w'))
    (T2 : Hid (∀ w, Calls Tryd.prog 57 #[.int .i64 x, .int .i64 y2, .int .i64 x2, .int .i64 y] w fun e w' => e = .returned (.int .i64 v) ∧ Keep w w')) :
    Calls Tryd.prog 23 #[.agg #[.int .i64 n, .int .i64 d], .agg #[.int .i64 n2, .int .i64 d2]] w fun e w' => e = .returned (.int .i64 v) ∧ Keep w w' := by
  go_enter Tryd.func23, Tryd.ntmps23
  go_upto_region 1 with fail
  go_cut [] (fun wc => Keep ((w.alloc (.cells #[.int .i64 x, .int .i64 y] 23)).alloc (.cells #[.int .i64 x2, .int .i64 y2] 23)) wc)
  case first =>
    go_region_with (go_at_call 56; refine ((unhide T1) _ _ _ _ (by assumption) _).mono ?_; rintro e w2 ⟨rfl, hk⟩; obtain ⟨o1, k1, rfl⟩ := hk.ext; clear hk)
    all_goals
      go_wp2_with fail
      go_meet
      exact by repeat (first | apply keep_ext | apply Keep.drew | exact Keep.refl _)
  case rest =>
    obtain ⟨o2, k2, rfl⟩ := hcut.ext
    clear hcut
    go_wp2_with fail
    (refine ((unhide T2) _).mono ?_; rintro e w2 ⟨rfl, hk⟩; obtain ⟨o3, k3, rfl⟩ := hk.ext; clear hk)
    go_wp2_with fail
    go_ret
    exact ⟨rfl, by repeat (first | apply keep_ext | apply Keep.alloc | apply Keep.drew | (refine keep_set _ _ _ (by omega) ?_) | assumption | exact Keep.refl _)⟩
theorem fcmp_any (n d n2 d2 : Int) (w : World) (h1 : -9223372036854775808 ≤ n) (h2 : n ≤ 9223372036854775807) (h3 : -9223372036854775808 ≤ d) (h4 : d ≤ 9223372036854775807) (k1 : -9223372036854775808 ≤ n2) (k2 : n2 ≤ 9223372036854775807) (k3 : -9223372036854775808 ≤ d2) (k4 : d2 ≤ 9223372036854775807) :
    Calls Tryd.prog 23 #[.agg #[.int .i64 n, .int .i64 d], .agg #[.int .i64 n2, .int .i64 d2]] w fun e w' => e = .returned (.int .i64 (cm (cn n d * cd n2 d2) (cn n2 d2 * cd n d))) ∧ Keep w w' := by
  obtain ⟨r1, r2, r3, r4, r5⟩ := rt_counted n d h1 h2 h4
  obtain ⟨s1, s2, s3, s4, s5⟩ := rt_counted n2 d2 k1 k2 k4
  exact cmp_core n d n2 d2 _ _ _ _ _ w (fun n d x y => ∀ w, Calls Tryd.prog 56 #[.agg #[.int .i64 n, .int .i64 d]] w fun e w' => e = .returned (.agg #[.int .i64 x, .int .i64 y]) ∧ Keep w w')
    (fun w => counted_any n d w h1 h2 h3 h4) (fun w => counted_any n2 d2 w k1 k2 k3 k4) (hide fun n d x y h => h) (hide fun w => compare_any _ _ _ _ w r3 r4 (by omega) s5 s3 s4 (by omega) r5)
set_option maxHeartbeats 400000 in
theorem ffloor_core (n d x y v e0 : Int) (w : World) (T1 : Hid (∀ w, Calls Tryd.prog 56 #[.agg #[.int .i64 n, .int .i64 d]] w fun e w' => e = .returned (.agg #[.int .i64 x, .int .i64 y]) ∧ Keep w w'))
    (T2 : Hid (∀ w, Calls Tryd.prog 59 #[.int .i64 x, .int .i64 y] w fun e w' => e = .returned (.tuple #[.int .i64 v, .int .i64 e0]) ∧ w' = w)) :
    Calls Tryd.prog 25 #[.agg #[.int .i64 n, .int .i64 d]] w fun e w' => e = .returned (.int .i64 v) ∧ Keep w w' := by
  go_enter Tryd.func25, Tryd.ntmps25
  go_wp2_with fail
  (refine ((unhide T1) _).mono ?_; rintro e w2 ⟨rfl, hk⟩; obtain ⟨o1, k1, rfl⟩ := hk.ext; clear hk)
  go_wp2_with fail
  refine ((unhide T2) _).mono ?_
  rintro e w2 ⟨rfl, rfl⟩
  go_wp2_with fail
  go_ret
  exact ⟨rfl, by repeat (first | apply keep_ext | apply Keep.alloc | apply Keep.drew | (refine keep_set _ _ _ (by omega) ?_) | assumption | exact Keep.refl _)⟩
theorem ffloor_any (n d : Int) (w : World) (h1 : -9223372036854775808 ≤ n) (h2 : n ≤ 9223372036854775807) (h3 : -9223372036854775808 ≤ d) (h4 : d ≤ 9223372036854775807) :
    Calls Tryd.prog 25 #[.agg #[.int .i64 n, .int .i64 d]] w fun e w' => e = .returned (.int .i64 (flA (cn n d) (cd n d))) ∧ Keep w w' := by
  obtain ⟨r1, r2, r3, r4, r5⟩ := rt_counted n d h1 h2 h4
  exact ffloor_core n d _ _ _ _ w (hide fun w => counted_any n d w h1 h2 h3 h4) (hide fun w => floor_any _ _ w r3 r4 (by omega) r5)
set_option maxHeartbeats 400000 in
theorem fceil_core (n d x y v e0 : Int) (w : World) (T1 : Hid (∀ w, Calls Tryd.prog 56 #[.agg #[.int .i64 n, .int .i64 d]] w fun e w' => e = .returned (.agg #[.int .i64 x, .int .i64 y]) ∧ Keep w w'))
    (T2 : Hid (∀ w, Calls Tryd.prog 61 #[.int .i64 x, .int .i64 y] w fun e w' => e = .returned (.tuple #[.int .i64 v, .int .i64 e0]) ∧ w' = w)) :
    Calls Tryd.prog 27 #[.agg #[.int .i64 n, .int .i64 d]] w fun e w' => e = .returned (.int .i64 v) ∧ Keep w w' := by
  go_enter Tryd.func27, Tryd.ntmps27
  go_wp2_with fail
  (refine ((unhide T1) _).mono ?_; rintro e w2 ⟨rfl, hk⟩; obtain ⟨o1, k1, rfl⟩ := hk.ext; clear hk)
  go_wp2_with fail
  refine ((unhide T2) _).mono ?_
  rintro e w2 ⟨rfl, rfl⟩
  go_wp2_with fail
  go_ret
  exact ⟨rfl, by repeat (first | apply keep_ext | apply Keep.alloc | apply Keep.drew | (refine keep_set _ _ _ (by omega) ?_) | assumption | exact Keep.refl _)⟩
theorem fceil_any (n d : Int) (w : World) (h1 : -9223372036854775808 ≤ n) (h2 : n ≤ 9223372036854775807) (h3 : -9223372036854775808 ≤ d) (h4 : d ≤ 9223372036854775807) :
    Calls Tryd.prog 27 #[.agg #[.int .i64 n, .int .i64 d]] w fun e w' => e = .returned (.int .i64 (ceA (cn n d) (cd n d))) ∧ Keep w w' := by
  obtain ⟨r1, r2, r3, r4, r5⟩ := rt_counted n d h1 h2 h4
  exact fceil_core n d _ _ _ _ w (hide fun w => counted_any n d w h1 h2 h3 h4) (hide fun w => ceil_any _ _ w r3 r4 (by omega) r5)

set_option maxHeartbeats 1000000 in
theorem print_core (w : World) (T1 : Hid (∀ w, Calls Tryd.prog 56 #[.agg #[.int .i64 4, .int .i64 15]] w fun e w' => e = .returned (.agg #[.int .i64 4, .int .i64 15]) ∧ Keep w w'))
    (Pt : Int → Array UInt8 → Prop) (P1 : Pt 4 #[52]) (P2 : Pt 15 #[49, 53])
    (T2 : Hid (∀ (i : Int) s, Pt i s → ∀ w, Calls Tryd.prog 63 #[.int .i64 i, .int .i64 10] w fun e w' => e = .returned (.string ⟨s⟩) ∧ w' = w)) :
    Calls Tryd.prog 29 #[.agg #[.int .i64 4, .int .i64 15]] w fun e w' => e = .returned (.string ⟨#[52, 47, 49, 53]⟩) ∧ Keep w w' := by
  go_enter Tryd.func29, Tryd.ntmps29
  go_wp2_with fail
  (refine ((unhide T1) _).mono ?_; rintro e w2 ⟨rfl, hk⟩; obtain ⟨o1, k1, rfl⟩ := hk.ext; clear hk)
  go_wp2_with fail
  go_region_held3 (fun w' => w'.cell? ⟨w.heap.size, 0, none⟩ = some (.int .i64 4) ∧ w'.cell? ⟨w.heap.size, 1, none⟩ = some (.int .i64 15)) (simp [go_sem]) (first | (go_at_call 63; refine ((unhide T2) _ _ (by assumption) _).mono ?_; rintro e w2 ⟨rfl, rfl⟩))
  all_goals go_wp2_with fail
  all_goals go_ret
  all_goals exact ⟨rfl, by repeat (first | apply keep_ext | apply Keep.alloc | apply Keep.drew | exact Keep.refl _)⟩
theorem dig4 : (Lib.decDigits 4).toArray = #[52] := by first | decide | kernel_rfl | simp [Lib.decDigits]
theorem dig15 : (Lib.decDigits 15).toArray = #[49, 53] := by first | decide | kernel_rfl | simp [Lib.decDigits]
theorem print_c (w : World) : Calls Tryd.prog 29 #[.agg #[.int .i64 4, .int .i64 15]] w fun e w' => e = .returned (.string ⟨#[52, 47, 49, 53]⟩) ∧ Keep w w' := by
  refine print_core w (hide fun w => ?_) (fun i s => ∀ w, Calls Tryd.prog 63 #[.int .i64 i, .int .i64 10] w fun e w' => e = .returned (.string ⟨s⟩) ∧ w' = w) (fun w => ?_) (fun w => ?_) (hide fun i s h => h)
  · exact counted_any 4 15 w (by omega) (by omega) (by omega) (by omega)
  · have h := Tryd.strconv_FormatInt_10_small 4 (by omega) w
    rw [dig4] at h
    exact h
  · have h := Tryd.strconv_FormatInt_10_small 15 (by omega) w
    rw [dig15] at h
    exact h
end Go.Proofs.YtnfhkgdgkfanhaaDoor
