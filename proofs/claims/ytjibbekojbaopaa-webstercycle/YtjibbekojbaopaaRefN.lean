/- The document's answer for fractions: sums and differences. -/
import Derived.Test.YtjibbekojbaopaaRefL
import Derived.Test.YtjibbekojbaopaaLMath
namespace Go.Proofs.Ytjibbekojbaopaa
open Go.RowKit
attribute [local go_sem ↓] Go.wp_at_zero Go.wp_at_succ
set_option linter.unusedVariables false
set_option linter.unusedSimpArgs false
set_option maxRecDepth 10000
theorem fa_start0 (w : World) (T : TypeId) (x y x2 y2 : Int) :
    Fa w (((w.alloc (.cells #[.int .i64 x, .int .i64 y] T)).alloc (.cells #[.int .i64 x2, .int .i64 y2] T)).alloc (.cells #[.int .i64 0, .int .i64 0] T)) x y x2 y2 := by
  refine ⟨by repeat (first | apply keep_ext | apply Keep.alloc | exact Keep.refl _), by simp, ?_, ?_, ?_, ?_, ?_, ?_, ?_, ?_⟩ <;> simp [go_sem]
set_option maxHeartbeats 1000000 in
theorem radd2_few (n d n2 d2 x y x2 y2 p1 p2 p t X Y Z : Int) (w : World) (e1 : wrap64 (x * y2) = p1) (e2 : wrap64 (x2 * y) = p2) (e3 : wrap64 (p1 + p2) = p) (e4 : wrap64 (y * y2) = t) (Cn : Int → Int → Int → Int → Prop) (K1 : Cn n d x y) (K2 : Cn n2 d2 x2 y2)
    (N1 : Hid (∀ (n d x y : Int), Cn n d x y → ∀ w, Calls Try.prog 38 #[.agg #[.int .i64 n, .int .i64 d]] w fun e w' => e = .returned (.agg #[.int .i64 x, .int .i64 y]) ∧ Keep w w'))
    (FW : Hid (∀ w, Calls Try.prog 39 #[.agg #[.int .i64 x, .int .i64 y], .agg #[.int .i64 x2, .int .i64 y2]] w fun e w' => e = .returned (.bool true) ∧ Keep w w'))
    (T2 : Hid (∀ w, Calls Try.prog 17 #[.int .i64 p, .int .i64 t] w fun e w' => e = .returned (.tuple #[.agg #[.int .i64 X, .int .i64 Y], .int .i64 Z]) ∧ Keep w w')) :
    Calls Try.prog 53 #[.agg #[.int .i64 n, .int .i64 d], .agg #[.int .i64 n2, .int .i64 d2]] w fun e w' => e = .returned (.tuple #[.agg #[.int .i64 X, .int .i64 Y], .int .i64 Z]) ∧ Keep w w' := by
  go_enter Try.func53, Try.ntmps53
  go_wp2_with fail
  (refine ((uq N1) _ _ _ _ K1 _).mono ?_; rintro e w2 ⟨rfl, hk⟩; obtain ⟨o1, k1, rfl⟩ := hk.ext; clear hk)
  go_wp2_with fail
  (refine ((uq N1) _ _ _ _ K2 _).mono ?_; rintro e w2 ⟨rfl, hk⟩; obtain ⟨o2, k2, rfl⟩ := hk.ext; clear hk)
  go_wp2_with fail
  (refine ((uq FW) _).mono ?_; rintro e w2 ⟨rfl, hk⟩; obtain ⟨o3, k3, rfl⟩ := hk.ext; clear hk)
  go_wp2_with fail
  (refine ((uq T2) _).mono ?_; rintro e w2 ⟨rfl, hk⟩; obtain ⟨o4, k4, rfl⟩ := hk.ext; clear hk)
  go_wp2_with fail
  exact bodyPost_ret (v := .tuple #[.agg #[.int .i64 X, .int .i64 Y], .int .i64 Z]) (by simp [results, Try.results53, go_sem]) rfl ⟨rfl, by repeat (first | apply keep_ext | apply Keep.alloc | apply Keep.drew | exact Keep.refl _)⟩
set_option maxHeartbeats 4000000 in
theorem radd2_same (n d n2 d2 x y x2 y2 u u2 X Y Z : Int) (b b2 : Bool) (w : World) (hb : decide (x < 0) = b) (hb2 : decide (x2 < 0) = b2) (hs : (b == b2) = true) (HD : Hid (1 ≤ y * y2)) (u0 : 0 ≤ u) (u1 : u < 18446744073709551616) (v0 : 0 ≤ u2) (v1 : u2 < 18446744073709551616) (y0 : 1 ≤ y) (y1 : y < 18446744073709551616) (z0 : 1 ≤ y2) (z1 : y2 < 18446744073709551616) (wy : IntKind.u64.wrap y = y) (wy2 : IntKind.u64.wrap y2 = y2)
    (Cn : Int → Int → Int → Int → Prop) (K1 : Cn n d x y) (K2 : Cn n2 d2 x2 y2)
    (N1 : Hid (∀ (n d x y : Int), Cn n d x y → ∀ w, Calls Try.prog 38 #[.agg #[.int .i64 n, .int .i64 d]] w fun e w' => e = .returned (.agg #[.int .i64 x, .int .i64 y]) ∧ Keep w w'))
    (FW : Hid (∀ w, Calls Try.prog 39 #[.agg #[.int .i64 x, .int .i64 y], .agg #[.int .i64 x2, .int .i64 y2]] w fun e w' => e = .returned (.bool false) ∧ Keep w w'))
    (Sz : Int → Int → Prop) (S1 : Sz x u) (S2 : Sz x2 u2)
    (T1 : Hid (∀ (n x : Int), Sz n x → ∀ w, Calls Try.prog 35 #[.int .i64 n] w fun e w' => e = .returned (.int .u64 x) ∧ w' = w))
    (HL : Hid (Low (u * y2 + u2 * y) (y * y2) b X Y Z)) :
    Calls Try.prog 53 #[.agg #[.int .i64 n, .int .i64 d], .agg #[.int .i64 n2, .int .i64 d2]] w fun e w' => e = .returned (.tuple #[.agg #[.int .i64 X, .int .i64 Y], .int .i64 Z]) ∧ Keep w w' := by
  go_enter Try.func53, Try.ntmps53
  go_wp2_with fail
  (refine ((uq N1) _ _ _ _ K1 _).mono ?_; rintro e w2 ⟨rfl, hk⟩; obtain ⟨o1, k1, rfl⟩ := hk.ext; clear hk)
  go_wp2_with fail
  (refine ((uq N1) _ _ _ _ K2 _).mono ?_; rintro e w2 ⟨rfl, hk⟩; obtain ⟨o2, k2, rfl⟩ := hk.ext; clear hk)
  go_wp2_with fail
  (refine ((uq FW) _).mono ?_; rintro e w2 ⟨rfl, hk⟩; obtain ⟨o3, k3, rfl⟩ := hk.ext; clear hk)
  go_wp2_with fail
  generalize hwc : ext _ _ _ = wc
  have F : Fa w wc x y x2 y2 := by rw [← hwc]; exact fa_start w _ _ _ x y x2 y2
  clear hwc
  have F := F.drew
  refine wp_region_held_drew (S := (fun w' => w'.cell? ⟨w.heap.size, 0, none⟩ = some (.int .i64 x) ∧ w'.cell? ⟨w.heap.size, 1, none⟩ = some (.int .i64 y) ∧ w'.cell? ⟨w.heap.size + 1, 0, none⟩ = some (.int .i64 x2) ∧ w'.cell? ⟨w.heap.size + 1, 1, none⟩ = some (.int .i64 y2))) (by kernel_rfl) (by exact F.cells) (fun hHeld => ?_)
  refine tkk 0 35 hHeld ?_; try simp only [Act.put, Ya, Yb, Yc]
  refine tkk 1 36 hHeld ?_; try simp only [Act.put, Ya, Yb, Yc]
  refine tkk 3 38 hHeld ?_; try simp only [Act.put, Ya, Yb, Yc]
  refine tkk 4 39 hHeld ?_; try simp only [Act.put, Ya, Yb, Yc]
  refine tkk 5 40 hHeld ?_; try simp only [Act.put, Ya, Yb, Yc]
  refine rdyy 2 (fun K hK => ?_)
  go_simp
  clear hHeld
  (refine ((uq T1) _ _ S1 _).mono ?_; rintro e w2 ⟨rfl, rfl⟩)
  try go_wp2_with fail
  refine hK.out _ _ ?_ (fun hHeld => ?_)
  · exact F.cells
  clear hK K
  try simp only [Act.put, Ya, Yb, Yc]
  refine rdyy 6 (fun K hK => ?_)
  go_simp
  clear hHeld
  (refine (times_ref u y2 _ u0 u1 (by omega) z1).mono ?_; rintro e w2 ⟨vT, lT, rfl, rT, dT, ⟨nT0, nT1, nT2⟩, hk⟩; have F := F.keep hk;  have NT := hide nT2; clear nT2 hk)
  try go_wp2_with fail
  refine hK.out _ _ ?_ (fun hHeld => ?_)
  · exact F.cells
  clear hK K
  try simp only [Act.put, Ya, Yb, Yc]
  refine rdyy 7 (fun K hK => ?_)
  go_simp
  clear hHeld
  (refine (trim_any _ lT _ (rT.cases) dT (by omega)).mono ?_; rintro e w2 ⟨vP, lP, rfl, sP, dP', ⟨m0, m1⟩, hk⟩; have F := F.keep hk;  have MP : Hid (val lP = val lT) := hide m1; have LP : lP.length ≤ 9 := (by omega); clear m1 hk)
  try go_wp2_with fail
  refine hK.out _ _ ?_ (fun hHeld => ?_)
  · exact F.cells
  clear hK K
  try simp only [Act.put, Ya, Yb, Yc]
  refine tkk 8 6 hHeld ?_; try simp only [Act.put, Ya, Yb, Yc]
  refine wpAnyH_done (by kernel_rfl) ?_ _
  clear hHeld
  have EP := hide ((uq MP).trans (uq NT))
  clear MP NT
  clear nT0 rT dT
  go_wp2_with fail
  have sP := sP.keep ((Keep.refl _).drew)
  have F := F.drew
  refine wp_region_held_drew (S := (fun w' => w'.cell? ⟨w.heap.size, 0, none⟩ = some (.int .i64 x) ∧ w'.cell? ⟨w.heap.size, 1, none⟩ = some (.int .i64 y) ∧ w'.cell? ⟨w.heap.size + 1, 0, none⟩ = some (.int .i64 x2) ∧ w'.cell? ⟨w.heap.size + 1, 1, none⟩ = some (.int .i64 y2))) (by kernel_rfl) (by exact F.cells) (fun hHeld => ?_)
  refine tkk 0 43 hHeld ?_; try simp only [Act.put, Ya, Yb, Yc]
  refine tkk 1 44 hHeld ?_; try simp only [Act.put, Ya, Yb, Yc]
  refine tkk 3 46 hHeld ?_; try simp only [Act.put, Ya, Yb, Yc]
  refine tkk 4 47 hHeld ?_; try simp only [Act.put, Ya, Yb, Yc]
  refine tkk 5 48 hHeld ?_; try simp only [Act.put, Ya, Yb, Yc]
  refine rdyy 2 (fun K hK => ?_)
  go_simp
  clear hHeld
  (refine ((uq T1) _ _ S2 _).mono ?_; rintro e w2 ⟨rfl, rfl⟩)
  try go_wp2_with fail
  refine hK.out _ _ ?_ (fun hHeld => ?_)
  · exact F.cells
  clear hK K
  try simp only [Act.put, Ya, Yb, Yc]
  refine rdyy 6 (fun K hK => ?_)
  go_simp
  clear hHeld
  (refine (times_ref u2 y _ v0 v1 (by omega) y1).mono ?_; rintro e w2 ⟨vT, lT, rfl, rT, dT, ⟨nT0, nT1, nT2⟩, hk⟩; have F := F.keep hk; have sP := sP.keep hk; have NT := hide nT2; clear nT2 hk)
  try go_wp2_with fail
  refine hK.out _ _ ?_ (fun hHeld => ?_)
  · exact F.cells
  clear hK K
  try simp only [Act.put, Ya, Yb, Yc]
  refine rdyy 7 (fun K hK => ?_)
  go_simp
  clear hHeld
  (refine (trim_any _ lT _ (rT.cases) dT (by omega)).mono ?_; rintro e w2 ⟨vQ, lQ, rfl, sQ, dQ', ⟨m0, m1⟩, hk⟩; have F := F.keep hk; have sP := sP.keep hk; have MQ : Hid (val lQ = val lT) := hide m1; have LQ : lQ.length ≤ 9 := (by omega); clear m1 hk)
  try go_wp2_with fail
  refine hK.out _ _ ?_ (fun hHeld => ?_)
  · exact F.cells
  clear hK K
  try simp only [Act.put, Ya, Yb, Yc]
  refine tkk 8 7 hHeld ?_; try simp only [Act.put, Ya, Yb, Yc]
  refine wpAnyH_done (by kernel_rfl) ?_ _
  clear hHeld
  have EQ := hide ((uq MQ).trans (uq NT))
  clear MQ NT
  clear nT0 rT dT
  obtain ⟨c1, c2, c3, c4⟩ := F.cells
  go_wp2_with fail
  (refine (times_ref y y2 _ (by omega) y1 (by omega) z1).mono ?_; rintro e w2 ⟨vT, lT, rfl, rT, dT, ⟨nT0, nT1, nT2⟩, hk⟩; have F := F.keep hk; have sP := sP.keep hk; have sQ := sQ.keep hk; have NT := hide nT2; clear nT2 hk)
  go_wp2_with fail
  (refine (trim_any _ lT _ (rT.cases) dT (by omega)).mono ?_; rintro e w2 ⟨vR, lR, rfl, sR, dR', ⟨m0, m1⟩, hk⟩; have F := F.keep hk; have sP := sP.keep hk; have sQ := sQ.keep hk; have MR : Hid (val lR = val lT) := hide m1; have LR : lR.length ≤ 9 := (by omega); clear m1 hk)
  have ER := hide ((uq MR).trans (uq NT))
  clear MR NT
  clear c1 c2 c3 c4
  clear nT0 rT dT
  obtain ⟨c1, c2, c3, c4⟩ := F.cells
  go_wp2_with fail
  clear c1 c2 c3 c4
  have sP := sP.keep ((Keep.refl _).drew)
  have sQ := sQ.keep ((Keep.refl _).drew)
  have sR := sR.keep ((Keep.refl _).drew)
  have F := F.drew
  refine wp_region_held_drew (S := (fun w' => w'.cell? ⟨w.heap.size, 0, none⟩ = some (.int .i64 x) ∧ w'.cell? ⟨w.heap.size, 1, none⟩ = some (.int .i64 y) ∧ w'.cell? ⟨w.heap.size + 1, 0, none⟩ = some (.int .i64 x2) ∧ w'.cell? ⟨w.heap.size + 1, 1, none⟩ = some (.int .i64 y2))) (by kernel_rfl) (by exact F.cells) (fun hHeld => ?_)
  refine tkk 0 66 hHeld ?_; try simp only [Act.put, Ya, Yb, Yc]
  refine tkk 1 67 hHeld ?_; try simp only [Act.put, Ya, Yb, Yc]
  refine tkk 4 70 hHeld ?_; try simp only [Act.put, Ya, Yb, Yc]
  refine tkk 5 71 hHeld ?_; try simp only [Act.put, Ya, Yb, Yc]
  refine tkk 6 72 hHeld ?_; try simp only [Act.put, Ya, Yb, Yc]
  refine tkk 7 73 hHeld ?_; try simp only [Act.put, Ya, Yb, Yc]
  refine rdyy 2 (fun K hK => ?_)
  go_simp
  clear hHeld
  (refine (plus_sl _ _ lP lQ 9 _ sP sQ dP' dQ' LP LQ (by omega)).mono ?_; rintro e w2 ⟨vT, lT, rfl, rT, dT, ⟨nT0, nT1, nT2⟩, hk⟩; have F := F.keep hk; have sP := sP.keep hk; have sQ := sQ.keep hk; have sR := sR.keep hk; have NT := hide nT2; clear nT2 hk)
  try go_wp2_with fail
  refine hK.out _ _ ?_ (fun hHeld => ?_)
  · exact F.cells
  clear hK K
  try simp only [Act.put, Ya, Yb, Yc]
  refine rdyy 3 (fun K hK => ?_)
  go_simp
  clear hHeld
  (refine (trim_any _ lT _ (rT.cases) dT (by omega)).mono ?_; rintro e w2 ⟨vM, lM, rfl, sM, dM', ⟨m0, m1⟩, hk⟩; have F := F.keep hk; have sP := sP.keep hk; have sQ := sQ.keep hk; have sR := sR.keep hk; have MM : Hid (val lM = val lT) := hide m1; have LM : lM.length ≤ 10 := (by omega); clear m1 hk)
  try go_wp2_with fail
  refine hK.out _ _ ?_ (fun hHeld => ?_)
  · exact F.cells
  clear hK K
  try simp only [Act.put, Ya, Yb, Yc]
  have EM := hide ((uq MM).trans (uq NT))
  clear MM NT
  refine rdyy 8 (fun K hK => ?_)
  go_simp
  clear hHeld
  (refine (lowest_core _ _ lM lR b X Y Z _ sM sR dM' dR' (by omega) (by omega) (by rw [uq ER]; exact uq HD) (by rw [uq EM, uq EP, uq EQ, uq ER]; exact uq HL)).mono ?_; rintro e w2 ⟨rfl, hk⟩; have F := F.keep hk; clear hk)
  try go_wp2_with fail
  refine hK.out _ _ ?_ (fun hHeld => ?_)
  · exact F.cells
  clear hK K
  try simp only [Act.put, Ya, Yb, Yc]
  refine tkk 9 75 hHeld ?_; try simp only [Act.put, Ya, Yb, Yc]
  refine tkk 10 76 hHeld ?_; try simp only [Act.put, Ya, Yb, Yc]
  obtain ⟨hKw, hsz, c1, c2, c3, c4, c5, c6, f1, f2⟩ := F
  refine rdyy 11 (fun K hK => ?_)
  go_simp
  clear hHeld
  refine hK.out _ _ ?_ (fun hHeld => ?_)
  · simp [go_sem, c1, c2, c3, c4]
  clear hK K
  try simp only [Act.put, Ya, Yb, Yc]
  refine tkk 12 5 hHeld ?_; try simp only [Act.put, Ya, Yb, Yc]
  refine wpAnyH_done (by kernel_rfl) ?_ _
  clear hHeld
  go_wp2_with fail
  exact bodyPost_ret (v := .tuple #[.agg #[.int .i64 X, .int .i64 Y], .int .i64 Z]) (by simp [results, Try.results53, go_sem, c5, c6, hsz]) rfl ⟨rfl, keep_set2 _ _ (keep_set2 _ _ hKw)⟩
set_option maxHeartbeats 4000000 in
theorem radd2_ge (n d n2 d2 x y x2 y2 u u2 X Y Z : Int) (b b2 : Bool) (w : World) (hb : decide (x < 0) = b) (hb2 : decide (x2 < 0) = b2) (hs : (b == b2) = false) (HGE : Hid (u2 * y ≤ u * y2)) (HD : Hid (1 ≤ y * y2)) (u0 : 0 ≤ u) (u1 : u < 18446744073709551616) (v0 : 0 ≤ u2) (v1 : u2 < 18446744073709551616) (y0 : 1 ≤ y) (y1 : y < 18446744073709551616) (z0 : 1 ≤ y2) (z1 : y2 < 18446744073709551616) (wy : IntKind.u64.wrap y = y) (wy2 : IntKind.u64.wrap y2 = y2)
    (Cn : Int → Int → Int → Int → Prop) (K1 : Cn n d x y) (K2 : Cn n2 d2 x2 y2)
    (N1 : Hid (∀ (n d x y : Int), Cn n d x y → ∀ w, Calls Try.prog 38 #[.agg #[.int .i64 n, .int .i64 d]] w fun e w' => e = .returned (.agg #[.int .i64 x, .int .i64 y]) ∧ Keep w w'))
    (FW : Hid (∀ w, Calls Try.prog 39 #[.agg #[.int .i64 x, .int .i64 y], .agg #[.int .i64 x2, .int .i64 y2]] w fun e w' => e = .returned (.bool false) ∧ Keep w w'))
    (Sz : Int → Int → Prop) (S1 : Sz x u) (S2 : Sz x2 u2)
    (T1 : Hid (∀ (n x : Int), Sz n x → ∀ w, Calls Try.prog 35 #[.int .i64 n] w fun e w' => e = .returned (.int .u64 x) ∧ w' = w))
    (HL : Hid (Low (u * y2 - u2 * y) (y * y2) b X Y Z)) :
    Calls Try.prog 53 #[.agg #[.int .i64 n, .int .i64 d], .agg #[.int .i64 n2, .int .i64 d2]] w fun e w' => e = .returned (.tuple #[.agg #[.int .i64 X, .int .i64 Y], .int .i64 Z]) ∧ Keep w w' := by
  go_enter Try.func53, Try.ntmps53
  go_wp2_with fail
  (refine ((uq N1) _ _ _ _ K1 _).mono ?_; rintro e w2 ⟨rfl, hk⟩; obtain ⟨o1, k1, rfl⟩ := hk.ext; clear hk)
  go_wp2_with fail
  (refine ((uq N1) _ _ _ _ K2 _).mono ?_; rintro e w2 ⟨rfl, hk⟩; obtain ⟨o2, k2, rfl⟩ := hk.ext; clear hk)
  go_wp2_with fail
  (refine ((uq FW) _).mono ?_; rintro e w2 ⟨rfl, hk⟩; obtain ⟨o3, k3, rfl⟩ := hk.ext; clear hk)
  go_wp2_with fail
  generalize hwc : ext _ _ _ = wc
  have F : Fa w wc x y x2 y2 := by rw [← hwc]; exact fa_start w _ _ _ x y x2 y2
  clear hwc
  have F := F.drew
  refine wp_region_held_drew (S := (fun w' => w'.cell? ⟨w.heap.size, 0, none⟩ = some (.int .i64 x) ∧ w'.cell? ⟨w.heap.size, 1, none⟩ = some (.int .i64 y) ∧ w'.cell? ⟨w.heap.size + 1, 0, none⟩ = some (.int .i64 x2) ∧ w'.cell? ⟨w.heap.size + 1, 1, none⟩ = some (.int .i64 y2))) (by kernel_rfl) (by exact F.cells) (fun hHeld => ?_)
  refine tkk 0 35 hHeld ?_; try simp only [Act.put, Ya, Yb, Yc]
  refine tkk 1 36 hHeld ?_; try simp only [Act.put, Ya, Yb, Yc]
  refine tkk 3 38 hHeld ?_; try simp only [Act.put, Ya, Yb, Yc]
  refine tkk 4 39 hHeld ?_; try simp only [Act.put, Ya, Yb, Yc]
  refine tkk 5 40 hHeld ?_; try simp only [Act.put, Ya, Yb, Yc]
  refine rdyy 2 (fun K hK => ?_)
  go_simp
  clear hHeld
  (refine ((uq T1) _ _ S1 _).mono ?_; rintro e w2 ⟨rfl, rfl⟩)
  try go_wp2_with fail
  refine hK.out _ _ ?_ (fun hHeld => ?_)
  · exact F.cells
  clear hK K
  try simp only [Act.put, Ya, Yb, Yc]
  refine rdyy 6 (fun K hK => ?_)
  go_simp
  clear hHeld
  (refine (times_ref u y2 _ u0 u1 (by omega) z1).mono ?_; rintro e w2 ⟨vT, lT, rfl, rT, dT, ⟨nT0, nT1, nT2⟩, hk⟩; have F := F.keep hk;  have NT := hide nT2; clear nT2 hk)
  try go_wp2_with fail
  refine hK.out _ _ ?_ (fun hHeld => ?_)
  · exact F.cells
  clear hK K
  try simp only [Act.put, Ya, Yb, Yc]
  refine rdyy 7 (fun K hK => ?_)
  go_simp
  clear hHeld
  (refine (trim_any _ lT _ (rT.cases) dT (by omega)).mono ?_; rintro e w2 ⟨vP, lP, rfl, sP, dP', ⟨m0, m1⟩, hk⟩; have F := F.keep hk;  have MP : Hid (val lP = val lT) := hide m1; have LP : lP.length ≤ 9 := (by omega); clear m1 hk)
  try go_wp2_with fail
  refine hK.out _ _ ?_ (fun hHeld => ?_)
  · exact F.cells
  clear hK K
  try simp only [Act.put, Ya, Yb, Yc]
  refine tkk 8 6 hHeld ?_; try simp only [Act.put, Ya, Yb, Yc]
  refine wpAnyH_done (by kernel_rfl) ?_ _
  clear hHeld
  have EP := hide ((uq MP).trans (uq NT))
  clear MP NT
  clear nT0 rT dT
  go_wp2_with fail
  have sP := sP.keep ((Keep.refl _).drew)
  have F := F.drew
  refine wp_region_held_drew (S := (fun w' => w'.cell? ⟨w.heap.size, 0, none⟩ = some (.int .i64 x) ∧ w'.cell? ⟨w.heap.size, 1, none⟩ = some (.int .i64 y) ∧ w'.cell? ⟨w.heap.size + 1, 0, none⟩ = some (.int .i64 x2) ∧ w'.cell? ⟨w.heap.size + 1, 1, none⟩ = some (.int .i64 y2))) (by kernel_rfl) (by exact F.cells) (fun hHeld => ?_)
  refine tkk 0 43 hHeld ?_; try simp only [Act.put, Ya, Yb, Yc]
  refine tkk 1 44 hHeld ?_; try simp only [Act.put, Ya, Yb, Yc]
  refine tkk 3 46 hHeld ?_; try simp only [Act.put, Ya, Yb, Yc]
  refine tkk 4 47 hHeld ?_; try simp only [Act.put, Ya, Yb, Yc]
  refine tkk 5 48 hHeld ?_; try simp only [Act.put, Ya, Yb, Yc]
  refine rdyy 2 (fun K hK => ?_)
  go_simp
  clear hHeld
  (refine ((uq T1) _ _ S2 _).mono ?_; rintro e w2 ⟨rfl, rfl⟩)
  try go_wp2_with fail
  refine hK.out _ _ ?_ (fun hHeld => ?_)
  · exact F.cells
  clear hK K
  try simp only [Act.put, Ya, Yb, Yc]
  refine rdyy 6 (fun K hK => ?_)
  go_simp
  clear hHeld
  (refine (times_ref u2 y _ v0 v1 (by omega) y1).mono ?_; rintro e w2 ⟨vT, lT, rfl, rT, dT, ⟨nT0, nT1, nT2⟩, hk⟩; have F := F.keep hk; have sP := sP.keep hk; have NT := hide nT2; clear nT2 hk)
  try go_wp2_with fail
  refine hK.out _ _ ?_ (fun hHeld => ?_)
  · exact F.cells
  clear hK K
  try simp only [Act.put, Ya, Yb, Yc]
  refine rdyy 7 (fun K hK => ?_)
  go_simp
  clear hHeld
  (refine (trim_any _ lT _ (rT.cases) dT (by omega)).mono ?_; rintro e w2 ⟨vQ, lQ, rfl, sQ, dQ', ⟨m0, m1⟩, hk⟩; have F := F.keep hk; have sP := sP.keep hk; have MQ : Hid (val lQ = val lT) := hide m1; have LQ : lQ.length ≤ 9 := (by omega); clear m1 hk)
  try go_wp2_with fail
  refine hK.out _ _ ?_ (fun hHeld => ?_)
  · exact F.cells
  clear hK K
  try simp only [Act.put, Ya, Yb, Yc]
  refine tkk 8 7 hHeld ?_; try simp only [Act.put, Ya, Yb, Yc]
  refine wpAnyH_done (by kernel_rfl) ?_ _
  clear hHeld
  have EQ := hide ((uq MQ).trans (uq NT))
  clear MQ NT
  clear nT0 rT dT
  obtain ⟨c1, c2, c3, c4⟩ := F.cells
  go_wp2_with fail
  (refine (times_ref y y2 _ (by omega) y1 (by omega) z1).mono ?_; rintro e w2 ⟨vT, lT, rfl, rT, dT, ⟨nT0, nT1, nT2⟩, hk⟩; have F := F.keep hk; have sP := sP.keep hk; have sQ := sQ.keep hk; have NT := hide nT2; clear nT2 hk)
  go_wp2_with fail
  (refine (trim_any _ lT _ (rT.cases) dT (by omega)).mono ?_; rintro e w2 ⟨vR, lR, rfl, sR, dR', ⟨m0, m1⟩, hk⟩; have F := F.keep hk; have sP := sP.keep hk; have sQ := sQ.keep hk; have MR : Hid (val lR = val lT) := hide m1; have LR : lR.length ≤ 9 := (by omega); clear m1 hk)
  have ER := hide ((uq MR).trans (uq NT))
  clear MR NT
  clear c1 c2 c3 c4
  clear nT0 rT dT
  obtain ⟨c1, c2, c3, c4⟩ := F.cells
  go_wp2_with fail
  have O := hide (order_sl _ _ lP lQ _ sP sQ dP' dQ' (by omega) (by omega))
  have hcm : 0 ≤ cm (val lP) (val lQ) := by
    have h := cm_lt (x := val lP) (y := val lQ)
    rw [uq EP, uq EQ] at h ⊢
    have := uq HGE
    omega
  have hle : val lQ ≤ val lP := by rw [uq EP, uq EQ]; exact uq HGE
  have HLE := hide hle
  generalize cm (val lP) (val lQ) = cv at *
  clear hle
  refine (uq O).mono ?_
  rintro e w2 ⟨rfl, rfl⟩
  go_wp2_with fail
  clear c1 c2 c3 c4
  have sP := sP.keep ((Keep.refl _).drew)
  have sQ := sQ.keep ((Keep.refl _).drew)
  have sR := sR.keep ((Keep.refl _).drew)
  have F := F.drew
  refine wp_region_held_drew (S := (fun w' => w'.cell? ⟨w.heap.size, 0, none⟩ = some (.int .i64 x) ∧ w'.cell? ⟨w.heap.size, 1, none⟩ = some (.int .i64 y) ∧ w'.cell? ⟨w.heap.size + 1, 0, none⟩ = some (.int .i64 x2) ∧ w'.cell? ⟨w.heap.size + 1, 1, none⟩ = some (.int .i64 y2))) (by kernel_rfl) (by exact F.cells) (fun hHeld => ?_)
  refine tkk 0 81 hHeld ?_; try simp only [Act.put, Ya, Yb, Yc]
  refine tkk 1 82 hHeld ?_; try simp only [Act.put, Ya, Yb, Yc]
  refine tkk 4 85 hHeld ?_; try simp only [Act.put, Ya, Yb, Yc]
  refine tkk 5 86 hHeld ?_; try simp only [Act.put, Ya, Yb, Yc]
  refine tkk 6 87 hHeld ?_; try simp only [Act.put, Ya, Yb, Yc]
  refine tkk 7 88 hHeld ?_; try simp only [Act.put, Ya, Yb, Yc]
  refine rdyy 2 (fun K hK => ?_)
  go_simp
  clear hHeld
  (refine (minus_sl _ _ lP lQ _ sP sQ dP' dQ' (by omega) (by omega) (uq HLE)).mono ?_; rintro e w2 ⟨vT, lT, rfl, rT, dT, ⟨nT1, nT2⟩, hk⟩; have F := F.keep hk; have sP := sP.keep hk; have sQ := sQ.keep hk; have sR := sR.keep hk; have NT := hide nT2; clear nT2 hk)
  try go_wp2_with fail
  refine hK.out _ _ ?_ (fun hHeld => ?_)
  · exact F.cells
  clear hK K
  try simp only [Act.put, Ya, Yb, Yc]
  refine rdyy 3 (fun K hK => ?_)
  go_simp
  clear hHeld
  (refine (trim_any _ lT _ (rT.cases) dT (by omega)).mono ?_; rintro e w2 ⟨vM, lM, rfl, sM, dM', ⟨m0, m1⟩, hk⟩; have F := F.keep hk; have sP := sP.keep hk; have sQ := sQ.keep hk; have sR := sR.keep hk; have MM : Hid (val lM = val lT) := hide m1; have LM : lM.length ≤ 10 := (by omega); clear m1 hk)
  try go_wp2_with fail
  refine hK.out _ _ ?_ (fun hHeld => ?_)
  · exact F.cells
  clear hK K
  try simp only [Act.put, Ya, Yb, Yc]
  have EM := hide ((uq MM).trans (uq NT))
  clear MM NT
  refine rdyy 8 (fun K hK => ?_)
  go_simp
  clear hHeld
  (refine (lowest_core _ _ lM lR b X Y Z _ sM sR dM' dR' (by omega) (by omega) (by rw [uq ER]; exact uq HD) (by rw [uq EM, uq EP, uq EQ, uq ER]; exact uq HL)).mono ?_; rintro e w2 ⟨rfl, hk⟩; have F := F.keep hk; clear hk)
  try go_wp2_with fail
  refine hK.out _ _ ?_ (fun hHeld => ?_)
  · exact F.cells
  clear hK K
  try simp only [Act.put, Ya, Yb, Yc]
  refine tkk 9 90 hHeld ?_; try simp only [Act.put, Ya, Yb, Yc]
  refine tkk 10 91 hHeld ?_; try simp only [Act.put, Ya, Yb, Yc]
  obtain ⟨hKw, hsz, c1, c2, c3, c4, c5, c6, f1, f2⟩ := F
  refine rdyy 11 (fun K hK => ?_)
  go_simp
  clear hHeld
  refine hK.out _ _ ?_ (fun hHeld => ?_)
  · simp [go_sem, c1, c2, c3, c4]
  clear hK K
  try simp only [Act.put, Ya, Yb, Yc]
  refine tkk 12 5 hHeld ?_; try simp only [Act.put, Ya, Yb, Yc]
  refine wpAnyH_done (by kernel_rfl) ?_ _
  clear hHeld
  go_wp2_with fail
  exact bodyPost_ret (v := .tuple #[.agg #[.int .i64 X, .int .i64 Y], .int .i64 Z]) (by simp [results, Try.results53, go_sem, c5, c6, hsz]) rfl ⟨rfl, keep_set2 _ _ (keep_set2 _ _ hKw)⟩
set_option maxHeartbeats 4000000 in
theorem radd2_lt (n d n2 d2 x y x2 y2 u u2 X Y Z : Int) (b b2 : Bool) (w : World) (hb : decide (x < 0) = b) (hb2 : decide (x2 < 0) = b2) (hs : (b == b2) = false) (HLT : Hid (u * y2 < u2 * y)) (HD : Hid (1 ≤ y * y2)) (u0 : 0 ≤ u) (u1 : u < 18446744073709551616) (v0 : 0 ≤ u2) (v1 : u2 < 18446744073709551616) (y0 : 1 ≤ y) (y1 : y < 18446744073709551616) (z0 : 1 ≤ y2) (z1 : y2 < 18446744073709551616) (wy : IntKind.u64.wrap y = y) (wy2 : IntKind.u64.wrap y2 = y2)
    (Cn : Int → Int → Int → Int → Prop) (K1 : Cn n d x y) (K2 : Cn n2 d2 x2 y2)
    (N1 : Hid (∀ (n d x y : Int), Cn n d x y → ∀ w, Calls Try.prog 38 #[.agg #[.int .i64 n, .int .i64 d]] w fun e w' => e = .returned (.agg #[.int .i64 x, .int .i64 y]) ∧ Keep w w'))
    (FW : Hid (∀ w, Calls Try.prog 39 #[.agg #[.int .i64 x, .int .i64 y], .agg #[.int .i64 x2, .int .i64 y2]] w fun e w' => e = .returned (.bool false) ∧ Keep w w'))
    (Sz : Int → Int → Prop) (S1 : Sz x u) (S2 : Sz x2 u2)
    (T1 : Hid (∀ (n x : Int), Sz n x → ∀ w, Calls Try.prog 35 #[.int .i64 n] w fun e w' => e = .returned (.int .u64 x) ∧ w' = w))
    (HL : Hid (Low (u2 * y - u * y2) (y * y2) b2 X Y Z)) :
    Calls Try.prog 53 #[.agg #[.int .i64 n, .int .i64 d], .agg #[.int .i64 n2, .int .i64 d2]] w fun e w' => e = .returned (.tuple #[.agg #[.int .i64 X, .int .i64 Y], .int .i64 Z]) ∧ Keep w w' := by
  go_enter Try.func53, Try.ntmps53
  go_wp2_with fail
  (refine ((uq N1) _ _ _ _ K1 _).mono ?_; rintro e w2 ⟨rfl, hk⟩; obtain ⟨o1, k1, rfl⟩ := hk.ext; clear hk)
  go_wp2_with fail
  (refine ((uq N1) _ _ _ _ K2 _).mono ?_; rintro e w2 ⟨rfl, hk⟩; obtain ⟨o2, k2, rfl⟩ := hk.ext; clear hk)
  go_wp2_with fail
  (refine ((uq FW) _).mono ?_; rintro e w2 ⟨rfl, hk⟩; obtain ⟨o3, k3, rfl⟩ := hk.ext; clear hk)
  go_wp2_with fail
  generalize hwc : ext _ _ _ = wc
  have F : Fa w wc x y x2 y2 := by rw [← hwc]; exact fa_start w _ _ _ x y x2 y2
  clear hwc
  have F := F.drew
  refine wp_region_held_drew (S := (fun w' => w'.cell? ⟨w.heap.size, 0, none⟩ = some (.int .i64 x) ∧ w'.cell? ⟨w.heap.size, 1, none⟩ = some (.int .i64 y) ∧ w'.cell? ⟨w.heap.size + 1, 0, none⟩ = some (.int .i64 x2) ∧ w'.cell? ⟨w.heap.size + 1, 1, none⟩ = some (.int .i64 y2))) (by kernel_rfl) (by exact F.cells) (fun hHeld => ?_)
  refine tkk 0 35 hHeld ?_; try simp only [Act.put, Ya, Yb, Yc]
  refine tkk 1 36 hHeld ?_; try simp only [Act.put, Ya, Yb, Yc]
  refine tkk 3 38 hHeld ?_; try simp only [Act.put, Ya, Yb, Yc]
  refine tkk 4 39 hHeld ?_; try simp only [Act.put, Ya, Yb, Yc]
  refine tkk 5 40 hHeld ?_; try simp only [Act.put, Ya, Yb, Yc]
  refine rdyy 2 (fun K hK => ?_)
  go_simp
  clear hHeld
  (refine ((uq T1) _ _ S1 _).mono ?_; rintro e w2 ⟨rfl, rfl⟩)
  try go_wp2_with fail
  refine hK.out _ _ ?_ (fun hHeld => ?_)
  · exact F.cells
  clear hK K
  try simp only [Act.put, Ya, Yb, Yc]
  refine rdyy 6 (fun K hK => ?_)
  go_simp
  clear hHeld
  (refine (times_ref u y2 _ u0 u1 (by omega) z1).mono ?_; rintro e w2 ⟨vT, lT, rfl, rT, dT, ⟨nT0, nT1, nT2⟩, hk⟩; have F := F.keep hk;  have NT := hide nT2; clear nT2 hk)
  try go_wp2_with fail
  refine hK.out _ _ ?_ (fun hHeld => ?_)
  · exact F.cells
  clear hK K
  try simp only [Act.put, Ya, Yb, Yc]
  refine rdyy 7 (fun K hK => ?_)
  go_simp
  clear hHeld
  (refine (trim_any _ lT _ (rT.cases) dT (by omega)).mono ?_; rintro e w2 ⟨vP, lP, rfl, sP, dP', ⟨m0, m1⟩, hk⟩; have F := F.keep hk;  have MP : Hid (val lP = val lT) := hide m1; have LP : lP.length ≤ 9 := (by omega); clear m1 hk)
  try go_wp2_with fail
  refine hK.out _ _ ?_ (fun hHeld => ?_)
  · exact F.cells
  clear hK K
  try simp only [Act.put, Ya, Yb, Yc]
  refine tkk 8 6 hHeld ?_; try simp only [Act.put, Ya, Yb, Yc]
  refine wpAnyH_done (by kernel_rfl) ?_ _
  clear hHeld
  have EP := hide ((uq MP).trans (uq NT))
  clear MP NT
  clear nT0 rT dT
  go_wp2_with fail
  have sP := sP.keep ((Keep.refl _).drew)
  have F := F.drew
  refine wp_region_held_drew (S := (fun w' => w'.cell? ⟨w.heap.size, 0, none⟩ = some (.int .i64 x) ∧ w'.cell? ⟨w.heap.size, 1, none⟩ = some (.int .i64 y) ∧ w'.cell? ⟨w.heap.size + 1, 0, none⟩ = some (.int .i64 x2) ∧ w'.cell? ⟨w.heap.size + 1, 1, none⟩ = some (.int .i64 y2))) (by kernel_rfl) (by exact F.cells) (fun hHeld => ?_)
  refine tkk 0 43 hHeld ?_; try simp only [Act.put, Ya, Yb, Yc]
  refine tkk 1 44 hHeld ?_; try simp only [Act.put, Ya, Yb, Yc]
  refine tkk 3 46 hHeld ?_; try simp only [Act.put, Ya, Yb, Yc]
  refine tkk 4 47 hHeld ?_; try simp only [Act.put, Ya, Yb, Yc]
  refine tkk 5 48 hHeld ?_; try simp only [Act.put, Ya, Yb, Yc]
  refine rdyy 2 (fun K hK => ?_)
  go_simp
  clear hHeld
  (refine ((uq T1) _ _ S2 _).mono ?_; rintro e w2 ⟨rfl, rfl⟩)
  try go_wp2_with fail
  refine hK.out _ _ ?_ (fun hHeld => ?_)
  · exact F.cells
  clear hK K
  try simp only [Act.put, Ya, Yb, Yc]
  refine rdyy 6 (fun K hK => ?_)
  go_simp
  clear hHeld
  (refine (times_ref u2 y _ v0 v1 (by omega) y1).mono ?_; rintro e w2 ⟨vT, lT, rfl, rT, dT, ⟨nT0, nT1, nT2⟩, hk⟩; have F := F.keep hk; have sP := sP.keep hk; have NT := hide nT2; clear nT2 hk)
  try go_wp2_with fail
  refine hK.out _ _ ?_ (fun hHeld => ?_)
  · exact F.cells
  clear hK K
  try simp only [Act.put, Ya, Yb, Yc]
  refine rdyy 7 (fun K hK => ?_)
  go_simp
  clear hHeld
  (refine (trim_any _ lT _ (rT.cases) dT (by omega)).mono ?_; rintro e w2 ⟨vQ, lQ, rfl, sQ, dQ', ⟨m0, m1⟩, hk⟩; have F := F.keep hk; have sP := sP.keep hk; have MQ : Hid (val lQ = val lT) := hide m1; have LQ : lQ.length ≤ 9 := (by omega); clear m1 hk)
  try go_wp2_with fail
  refine hK.out _ _ ?_ (fun hHeld => ?_)
  · exact F.cells
  clear hK K
  try simp only [Act.put, Ya, Yb, Yc]
  refine tkk 8 7 hHeld ?_; try simp only [Act.put, Ya, Yb, Yc]
  refine wpAnyH_done (by kernel_rfl) ?_ _
  clear hHeld
  have EQ := hide ((uq MQ).trans (uq NT))
  clear MQ NT
  clear nT0 rT dT
  obtain ⟨c1, c2, c3, c4⟩ := F.cells
  go_wp2_with fail
  (refine (times_ref y y2 _ (by omega) y1 (by omega) z1).mono ?_; rintro e w2 ⟨vT, lT, rfl, rT, dT, ⟨nT0, nT1, nT2⟩, hk⟩; have F := F.keep hk; have sP := sP.keep hk; have sQ := sQ.keep hk; have NT := hide nT2; clear nT2 hk)
  go_wp2_with fail
  (refine (trim_any _ lT _ (rT.cases) dT (by omega)).mono ?_; rintro e w2 ⟨vR, lR, rfl, sR, dR', ⟨m0, m1⟩, hk⟩; have F := F.keep hk; have sP := sP.keep hk; have sQ := sQ.keep hk; have MR : Hid (val lR = val lT) := hide m1; have LR : lR.length ≤ 9 := (by omega); clear m1 hk)
  have ER := hide ((uq MR).trans (uq NT))
  clear MR NT
  clear c1 c2 c3 c4
  clear nT0 rT dT
  obtain ⟨c1, c2, c3, c4⟩ := F.cells
  go_wp2_with fail
  have O := hide (order_sl _ _ lP lQ _ sP sQ dP' dQ' (by omega) (by omega))
  have hcm : cm (val lP) (val lQ) < 0 := by
    rw [cm_lt, uq EP, uq EQ]; exact uq HLT
  have hle : val lP ≤ val lQ := by rw [uq EP, uq EQ]; exact Int.le_of_lt (uq HLT)
  have HLE := hide hle
  generalize cm (val lP) (val lQ) = cv at *
  clear hle
  have hcb : decide (0 ≤ cv) = false := by simp; omega
  refine (uq O).mono ?_
  rintro e w2 ⟨rfl, rfl⟩
  go_wp2_with fail
  clear c1 c2 c3 c4
  have sP := sP.keep ((Keep.refl _).drew)
  have sQ := sQ.keep ((Keep.refl _).drew)
  have sR := sR.keep ((Keep.refl _).drew)
  have F := F.drew
  refine wp_region_held_drew (S := (fun w' => w'.cell? ⟨w.heap.size, 0, none⟩ = some (.int .i64 x) ∧ w'.cell? ⟨w.heap.size, 1, none⟩ = some (.int .i64 y) ∧ w'.cell? ⟨w.heap.size + 1, 0, none⟩ = some (.int .i64 x2) ∧ w'.cell? ⟨w.heap.size + 1, 1, none⟩ = some (.int .i64 y2))) (by kernel_rfl) (by exact F.cells) (fun hHeld => ?_)
  refine tkk 0 92 hHeld ?_; try simp only [Act.put, Ya, Yb, Yc]
  refine tkk 1 93 hHeld ?_; try simp only [Act.put, Ya, Yb, Yc]
  refine tkk 4 96 hHeld ?_; try simp only [Act.put, Ya, Yb, Yc]
  refine tkk 5 97 hHeld ?_; try simp only [Act.put, Ya, Yb, Yc]
  refine tkk 6 98 hHeld ?_; try simp only [Act.put, Ya, Yb, Yc]
  refine tkk 7 99 hHeld ?_; try simp only [Act.put, Ya, Yb, Yc]
  refine rdyy 2 (fun K hK => ?_)
  go_simp
  clear hHeld
  (refine (minus_sl _ _ lQ lP _ sQ sP dQ' dP' (by omega) (by omega) (uq HLE)).mono ?_; rintro e w2 ⟨vT, lT, rfl, rT, dT, ⟨nT1, nT2⟩, hk⟩; have F := F.keep hk; have sP := sP.keep hk; have sQ := sQ.keep hk; have sR := sR.keep hk; have NT := hide nT2; clear nT2 hk)
  try go_wp2_with fail
  refine hK.out _ _ ?_ (fun hHeld => ?_)
  · exact F.cells
  clear hK K
  try simp only [Act.put, Ya, Yb, Yc]
  refine rdyy 3 (fun K hK => ?_)
  go_simp
  clear hHeld
  (refine (trim_any _ lT _ (rT.cases) dT (by omega)).mono ?_; rintro e w2 ⟨vM, lM, rfl, sM, dM', ⟨m0, m1⟩, hk⟩; have F := F.keep hk; have sP := sP.keep hk; have sQ := sQ.keep hk; have sR := sR.keep hk; have MM : Hid (val lM = val lT) := hide m1; have LM : lM.length ≤ 10 := (by omega); clear m1 hk)
  try go_wp2_with fail
  refine hK.out _ _ ?_ (fun hHeld => ?_)
  · exact F.cells
  clear hK K
  try simp only [Act.put, Ya, Yb, Yc]
  have EM := hide ((uq MM).trans (uq NT))
  clear MM NT
  refine rdyy 8 (fun K hK => ?_)
  go_simp
  clear hHeld
  (refine (lowest_core _ _ lM lR b2 X Y Z _ sM sR dM' dR' (by omega) (by omega) (by rw [uq ER]; exact uq HD) (by rw [uq EM, uq EP, uq EQ, uq ER]; exact uq HL)).mono ?_; rintro e w2 ⟨rfl, hk⟩; have F := F.keep hk; clear hk)
  try go_wp2_with fail
  refine hK.out _ _ ?_ (fun hHeld => ?_)
  · exact F.cells
  clear hK K
  try simp only [Act.put, Ya, Yb, Yc]
  refine tkk 9 101 hHeld ?_; try simp only [Act.put, Ya, Yb, Yc]
  refine tkk 10 102 hHeld ?_; try simp only [Act.put, Ya, Yb, Yc]
  obtain ⟨hKw, hsz, c1, c2, c3, c4, c5, c6, f1, f2⟩ := F
  refine rdyy 11 (fun K hK => ?_)
  go_simp
  clear hHeld
  refine hK.out _ _ ?_ (fun hHeld => ?_)
  · simp [go_sem, c1, c2, c3, c4]
  clear hK K
  try simp only [Act.put, Ya, Yb, Yc]
  refine tkk 12 5 hHeld ?_; try simp only [Act.put, Ya, Yb, Yc]
  refine wpAnyH_done (by kernel_rfl) ?_ _
  clear hHeld
  go_wp2_with fail
  exact bodyPost_ret (v := .tuple #[.agg #[.int .i64 X, .int .i64 Y], .int .i64 Z]) (by simp [results, Try.results53, go_sem, c5, c6, hsz]) rfl ⟨rfl, keep_set2 _ _ (keep_set2 _ _ hKw)⟩
set_option maxHeartbeats 4000000 in
theorem rtwa_same (x y x2 y2 u X Y Z : Int) (w : World) (hx : 0 ≤ x) (HD : Hid (1 ≤ y * y2)) (u0 : 0 ≤ u) (u1 : u < 18446744073709551616) (v0 : 0 ≤ x2) (v1 : x2 < 18446744073709551616) (wv : IntKind.u64.wrap x2 = x2) (y0 : 1 ≤ y) (y1 : y < 18446744073709551616) (z0 : 1 ≤ y2) (z1 : y2 < 18446744073709551616) (wy : IntKind.u64.wrap y = y) (wy2 : IntKind.u64.wrap y2 = y2)
    (Sz : Int → Int → Prop) (S1 : Sz x u)
    (T1 : Hid (∀ (n x : Int), Sz n x → ∀ w, Calls Try.prog 35 #[.int .i64 n] w fun e w' => e = .returned (.int .u64 x) ∧ w' = w))
    (HL : Hid (Low (u * y2 + 2 * (x2 * y)) (y * y2) false X Y Z)) :
    Calls Try.prog 54 #[.agg #[.int .i64 x, .int .i64 y], .agg #[.int .i64 x2, .int .i64 y2]] w fun e w' => e = .returned (.tuple #[.agg #[.int .i64 X, .int .i64 Y], .int .i64 Z]) ∧ Keep w w' := by
  go_enter Try.func54, Try.ntmps54
  go_wp2_with fail
  generalize hwc : World.alloc _ _ = wc
  have F : Fa w wc x y x2 y2 := by rw [← hwc]; exact fa_start0 w _ x y x2 y2
  clear hwc
  have F := F.drew
  refine wp_region_held_drew (S := (fun w' => w'.cell? ⟨w.heap.size, 0, none⟩ = some (.int .i64 x) ∧ w'.cell? ⟨w.heap.size, 1, none⟩ = some (.int .i64 y) ∧ w'.cell? ⟨w.heap.size + 1, 0, none⟩ = some (.int .i64 x2) ∧ w'.cell? ⟨w.heap.size + 1, 1, none⟩ = some (.int .i64 y2))) (by kernel_rfl) (by exact F.cells) (fun hHeld => ?_)
  refine tkk 0 9 hHeld ?_; try simp only [Act.put, Ya, Yb, Yc]
  refine tkk 1 10 hHeld ?_; try simp only [Act.put, Ya, Yb, Yc]
  refine tkk 3 12 hHeld ?_; try simp only [Act.put, Ya, Yb, Yc]
  refine tkk 4 13 hHeld ?_; try simp only [Act.put, Ya, Yb, Yc]
  refine tkk 5 14 hHeld ?_; try simp only [Act.put, Ya, Yb, Yc]
  refine rdyy 2 (fun K hK => ?_)
  go_simp
  clear hHeld
  (refine ((uq T1) _ _ S1 _).mono ?_; rintro e w2 ⟨rfl, rfl⟩)
  try go_wp2_with fail
  refine hK.out _ _ ?_ (fun hHeld => ?_)
  · exact F.cells
  clear hK K
  try simp only [Act.put, Ya, Yb, Yc]
  refine rdyy 6 (fun K hK => ?_)
  go_simp
  clear hHeld
  (refine (times_ref u y2 _ u0 u1 (by omega) z1).mono ?_; rintro e w2 ⟨vT, lT, rfl, rT, dT, ⟨nT0, nT1, nT2⟩, hk⟩; have F := F.keep hk;  have NT := hide nT2; clear nT2 hk)
  try go_wp2_with fail
  refine hK.out _ _ ?_ (fun hHeld => ?_)
  · exact F.cells
  clear hK K
  try simp only [Act.put, Ya, Yb, Yc]
  refine rdyy 7 (fun K hK => ?_)
  go_simp
  clear hHeld
  (refine (trim_any _ lT _ (rT.cases) dT (by omega)).mono ?_; rintro e w2 ⟨vP, lP, rfl, sP, dP', ⟨m0, m1⟩, hk⟩; have F := F.keep hk;  have MP : Hid (val lP = val lT) := hide m1; have LP : lP.length ≤ 9 := (by omega); clear m1 hk)
  try go_wp2_with fail
  refine hK.out _ _ ?_ (fun hHeld => ?_)
  · exact F.cells
  clear hK K
  try simp only [Act.put, Ya, Yb, Yc]
  refine tkk 8 6 hHeld ?_; try simp only [Act.put, Ya, Yb, Yc]
  refine wpAnyH_done (by kernel_rfl) ?_ _
  clear hHeld
  have EP := hide ((uq MP).trans (uq NT))
  clear MP NT
  clear nT0 rT dT
  obtain ⟨c1, c2, c3, c4⟩ := F.cells
  go_wp2_with fail
  (refine (times_ref x2 y _ v0 v1 (by omega) y1).mono ?_; rintro e w2 ⟨vT, lT, rfl, rT, dT, ⟨nT0, nT1, nT2⟩, hk⟩; have F := F.keep hk; have sP := sP.keep hk; have NT := hide nT2; clear nT2 hk)
  go_wp2_with fail
  (refine (twice_any _ lT _ (rT.sl nT0) dT (by omega) nT0).mono ?_; rintro e w2 ⟨vU, lU, rfl, sU, dU, ⟨nU0, nU1, nU2⟩, hk⟩; have F := F.keep hk; have sP := sP.keep hk; have NU := hide nU2; clear nU2 hk)
  go_wp2_with fail
  (refine (trim_any _ lU _ (.inr sU) dU (by omega)).mono ?_; rintro e w2 ⟨vQ, lQ, rfl, sQ, dQ', ⟨m0, m1⟩, hk⟩; have F := F.keep hk; have sP := sP.keep hk; have MQ : Hid (val lQ = val lU) := hide m1; have LQ : lQ.length ≤ 10 := (by omega); clear m1 hk)
  have EQ : Hid (val lQ = 2 * (x2 * y)) := by rw [uq MQ, uq NU, uq NT]; exact hide rfl
  clear MQ NU NT rT dT sU dU nT0 nU0
  clear c1 c2 c3 c4
  obtain ⟨c1, c2, c3, c4⟩ := F.cells
  go_wp2_with fail
  (refine (times_ref y y2 _ (by omega) y1 (by omega) z1).mono ?_; rintro e w2 ⟨vT, lT, rfl, rT, dT, ⟨nT0, nT1, nT2⟩, hk⟩; have F := F.keep hk; have sP := sP.keep hk; have sQ := sQ.keep hk; have NT := hide nT2; clear nT2 hk)
  go_wp2_with fail
  (refine (trim_any _ lT _ (rT.cases) dT (by omega)).mono ?_; rintro e w2 ⟨vR, lR, rfl, sR, dR', ⟨m0, m1⟩, hk⟩; have F := F.keep hk; have sP := sP.keep hk; have sQ := sQ.keep hk; have MR : Hid (val lR = val lT) := hide m1; have LR : lR.length ≤ 9 := (by omega); clear m1 hk)
  have ER := hide ((uq MR).trans (uq NT))
  clear MR NT
  clear c1 c2 c3 c4
  clear nT0 rT dT
  obtain ⟨c1, c2, c3, c4⟩ := F.cells
  go_wp2_with fail
  (refine (plus_sl _ _ lP lQ 10 _ sP sQ dP' dQ' (by omega) LQ (by omega)).mono ?_; rintro e w2 ⟨vT, lT, rfl, rT, dT, ⟨nT0, nT1, nT2⟩, hk⟩; have F := F.keep hk; have sP := sP.keep hk; have sQ := sQ.keep hk; have sR := sR.keep hk; have NT := hide nT2; clear nT2 hk)
  go_wp2_with fail
  (refine (trim_any _ lT _ (rT.cases) dT (by omega)).mono ?_; rintro e w2 ⟨vM, lM, rfl, sM, dM', ⟨m0, m1⟩, hk⟩; have F := F.keep hk; have sP := sP.keep hk; have sQ := sQ.keep hk; have sR := sR.keep hk; have MM : Hid (val lM = val lT) := hide m1; have LM : lM.length ≤ 11 := (by omega); clear m1 hk)
  have EM := hide ((uq MM).trans (uq NT))
  clear MM NT
  go_wp2_with fail
  (refine (lowest_core _ _ lM lR false X Y Z _ sM sR dM' dR' (by omega) (by omega) (by rw [uq ER]; exact uq HD) (by rw [uq EM, uq EP, uq EQ, uq ER]; exact uq HL)).mono ?_; rintro e w2 ⟨rfl, hk⟩; have F := F.keep hk; clear hk)
  obtain ⟨hKw, hsz, c1, c2, c3, c4, c5, c6, f1, f2⟩ := F
  go_wp2_with fail
  exact bodyPost_ret (v := .tuple #[.agg #[.int .i64 X, .int .i64 Y], .int .i64 Z]) (by simp [results, Try.results54, go_sem, c5, c6, hsz]) rfl ⟨rfl, keep_set2 _ _ (keep_set2 _ _ hKw)⟩
set_option maxHeartbeats 4000000 in
theorem rtwa_ge (x y x2 y2 u X Y Z : Int) (w : World) (hx : x < 0) (hxb : decide (0 ≤ x) = false) (HGE : Hid (2 * (x2 * y) ≤ u * y2)) (HD : Hid (1 ≤ y * y2)) (u0 : 0 ≤ u) (u1 : u < 18446744073709551616) (v0 : 0 ≤ x2) (v1 : x2 < 18446744073709551616) (wv : IntKind.u64.wrap x2 = x2) (y0 : 1 ≤ y) (y1 : y < 18446744073709551616) (z0 : 1 ≤ y2) (z1 : y2 < 18446744073709551616) (wy : IntKind.u64.wrap y = y) (wy2 : IntKind.u64.wrap y2 = y2)
    (Sz : Int → Int → Prop) (S1 : Sz x u)
    (T1 : Hid (∀ (n x : Int), Sz n x → ∀ w, Calls Try.prog 35 #[.int .i64 n] w fun e w' => e = .returned (.int .u64 x) ∧ w' = w))
    (HL : Hid (Low (u * y2 - 2 * (x2 * y)) (y * y2) true X Y Z)) :
    Calls Try.prog 54 #[.agg #[.int .i64 x, .int .i64 y], .agg #[.int .i64 x2, .int .i64 y2]] w fun e w' => e = .returned (.tuple #[.agg #[.int .i64 X, .int .i64 Y], .int .i64 Z]) ∧ Keep w w' := by
  go_enter Try.func54, Try.ntmps54
  go_wp2_with fail
  generalize hwc : World.alloc _ _ = wc
  have F : Fa w wc x y x2 y2 := by rw [← hwc]; exact fa_start0 w _ x y x2 y2
  clear hwc
  have F := F.drew
  refine wp_region_held_drew (S := (fun w' => w'.cell? ⟨w.heap.size, 0, none⟩ = some (.int .i64 x) ∧ w'.cell? ⟨w.heap.size, 1, none⟩ = some (.int .i64 y) ∧ w'.cell? ⟨w.heap.size + 1, 0, none⟩ = some (.int .i64 x2) ∧ w'.cell? ⟨w.heap.size + 1, 1, none⟩ = some (.int .i64 y2))) (by kernel_rfl) (by exact F.cells) (fun hHeld => ?_)
  refine tkk 0 9 hHeld ?_; try simp only [Act.put, Ya, Yb, Yc]
  refine tkk 1 10 hHeld ?_; try simp only [Act.put, Ya, Yb, Yc]
  refine tkk 3 12 hHeld ?_; try simp only [Act.put, Ya, Yb, Yc]
  refine tkk 4 13 hHeld ?_; try simp only [Act.put, Ya, Yb, Yc]
  refine tkk 5 14 hHeld ?_; try simp only [Act.put, Ya, Yb, Yc]
  refine rdyy 2 (fun K hK => ?_)
  go_simp
  clear hHeld
  (refine ((uq T1) _ _ S1 _).mono ?_; rintro e w2 ⟨rfl, rfl⟩)
  try go_wp2_with fail
  refine hK.out _ _ ?_ (fun hHeld => ?_)
  · exact F.cells
  clear hK K
  try simp only [Act.put, Ya, Yb, Yc]
  refine rdyy 6 (fun K hK => ?_)
  go_simp
  clear hHeld
  (refine (times_ref u y2 _ u0 u1 (by omega) z1).mono ?_; rintro e w2 ⟨vT, lT, rfl, rT, dT, ⟨nT0, nT1, nT2⟩, hk⟩; have F := F.keep hk;  have NT := hide nT2; clear nT2 hk)
  try go_wp2_with fail
  refine hK.out _ _ ?_ (fun hHeld => ?_)
  · exact F.cells
  clear hK K
  try simp only [Act.put, Ya, Yb, Yc]
  refine rdyy 7 (fun K hK => ?_)
  go_simp
  clear hHeld
  (refine (trim_any _ lT _ (rT.cases) dT (by omega)).mono ?_; rintro e w2 ⟨vP, lP, rfl, sP, dP', ⟨m0, m1⟩, hk⟩; have F := F.keep hk;  have MP : Hid (val lP = val lT) := hide m1; have LP : lP.length ≤ 9 := (by omega); clear m1 hk)
  try go_wp2_with fail
  refine hK.out _ _ ?_ (fun hHeld => ?_)
  · exact F.cells
  clear hK K
  try simp only [Act.put, Ya, Yb, Yc]
  refine tkk 8 6 hHeld ?_; try simp only [Act.put, Ya, Yb, Yc]
  refine wpAnyH_done (by kernel_rfl) ?_ _
  clear hHeld
  have EP := hide ((uq MP).trans (uq NT))
  clear MP NT
  clear nT0 rT dT
  obtain ⟨c1, c2, c3, c4⟩ := F.cells
  go_wp2_with fail
  (refine (times_ref x2 y _ v0 v1 (by omega) y1).mono ?_; rintro e w2 ⟨vT, lT, rfl, rT, dT, ⟨nT0, nT1, nT2⟩, hk⟩; have F := F.keep hk; have sP := sP.keep hk; have NT := hide nT2; clear nT2 hk)
  go_wp2_with fail
  (refine (twice_any _ lT _ (rT.sl nT0) dT (by omega) nT0).mono ?_; rintro e w2 ⟨vU, lU, rfl, sU, dU, ⟨nU0, nU1, nU2⟩, hk⟩; have F := F.keep hk; have sP := sP.keep hk; have NU := hide nU2; clear nU2 hk)
  go_wp2_with fail
  (refine (trim_any _ lU _ (.inr sU) dU (by omega)).mono ?_; rintro e w2 ⟨vQ, lQ, rfl, sQ, dQ', ⟨m0, m1⟩, hk⟩; have F := F.keep hk; have sP := sP.keep hk; have MQ : Hid (val lQ = val lU) := hide m1; have LQ : lQ.length ≤ 10 := (by omega); clear m1 hk)
  have EQ : Hid (val lQ = 2 * (x2 * y)) := by rw [uq MQ, uq NU, uq NT]; exact hide rfl
  clear MQ NU NT rT dT sU dU nT0 nU0
  clear c1 c2 c3 c4
  obtain ⟨c1, c2, c3, c4⟩ := F.cells
  go_wp2_with fail
  (refine (times_ref y y2 _ (by omega) y1 (by omega) z1).mono ?_; rintro e w2 ⟨vT, lT, rfl, rT, dT, ⟨nT0, nT1, nT2⟩, hk⟩; have F := F.keep hk; have sP := sP.keep hk; have sQ := sQ.keep hk; have NT := hide nT2; clear nT2 hk)
  go_wp2_with fail
  (refine (trim_any _ lT _ (rT.cases) dT (by omega)).mono ?_; rintro e w2 ⟨vR, lR, rfl, sR, dR', ⟨m0, m1⟩, hk⟩; have F := F.keep hk; have sP := sP.keep hk; have sQ := sQ.keep hk; have MR : Hid (val lR = val lT) := hide m1; have LR : lR.length ≤ 9 := (by omega); clear m1 hk)
  have ER := hide ((uq MR).trans (uq NT))
  clear MR NT
  clear c1 c2 c3 c4
  clear nT0 rT dT
  obtain ⟨c1, c2, c3, c4⟩ := F.cells
  have O := hide (order_sl _ _ lP lQ _ sP sQ dP' dQ' (by omega) (by omega))
  have hcm : 0 ≤ cm (val lP) (val lQ) := by
    have h := cm_lt (x := val lP) (y := val lQ)
    rw [uq EP, uq EQ] at h ⊢
    have := uq HGE
    omega
  have hle : val lQ ≤ val lP := by rw [uq EP, uq EQ]; exact uq HGE
  have HLE := hide hle
  generalize cm (val lP) (val lQ) = cv at *
  clear hle
  go_wp2_with fail
  refine (uq O).mono ?_
  rintro e w2 ⟨rfl, rfl⟩
  go_wp2_with fail
  (refine (minus_sl _ _ lP lQ _ sP sQ dP' dQ' (by omega) (by omega) (uq HLE)).mono ?_; rintro e w2 ⟨vT, lT, rfl, rT, dT, ⟨nT1, nT2⟩, hk⟩; have F := F.keep hk; have sP := sP.keep hk; have sQ := sQ.keep hk; have sR := sR.keep hk; have NT := hide nT2; clear nT2 hk)
  go_wp2_with fail
  (refine (trim_any _ lT _ (rT.cases) dT (by omega)).mono ?_; rintro e w2 ⟨vM, lM, rfl, sM, dM', ⟨m0, m1⟩, hk⟩; have F := F.keep hk; have sP := sP.keep hk; have sQ := sQ.keep hk; have sR := sR.keep hk; have MM : Hid (val lM = val lT) := hide m1; have LM : lM.length ≤ 10 := (by omega); clear m1 hk)
  have EM := hide ((uq MM).trans (uq NT))
  clear MM NT
  go_wp2_with fail
  (refine (lowest_core _ _ lM lR true X Y Z _ sM sR dM' dR' (by omega) (by omega) (by rw [uq ER]; exact uq HD) (by rw [uq EM, uq EP, uq EQ, uq ER]; exact uq HL)).mono ?_; rintro e w2 ⟨rfl, hk⟩; have F := F.keep hk; clear hk)
  obtain ⟨hKw, hsz, c1, c2, c3, c4, c5, c6, f1, f2⟩ := F
  go_wp2_with fail
  exact bodyPost_ret (v := .tuple #[.agg #[.int .i64 X, .int .i64 Y], .int .i64 Z]) (by simp [results, Try.results54, go_sem, c5, c6, hsz]) rfl ⟨rfl, keep_set2 _ _ (keep_set2 _ _ hKw)⟩
set_option maxHeartbeats 4000000 in
theorem rtwa_lt (x y x2 y2 u X Y Z : Int) (w : World) (hx : x < 0) (hxb : decide (0 ≤ x) = false) (HLT : Hid (u * y2 < 2 * (x2 * y))) (HD : Hid (1 ≤ y * y2)) (u0 : 0 ≤ u) (u1 : u < 18446744073709551616) (v0 : 0 ≤ x2) (v1 : x2 < 18446744073709551616) (wv : IntKind.u64.wrap x2 = x2) (y0 : 1 ≤ y) (y1 : y < 18446744073709551616) (z0 : 1 ≤ y2) (z1 : y2 < 18446744073709551616) (wy : IntKind.u64.wrap y = y) (wy2 : IntKind.u64.wrap y2 = y2)
    (Sz : Int → Int → Prop) (S1 : Sz x u)
    (T1 : Hid (∀ (n x : Int), Sz n x → ∀ w, Calls Try.prog 35 #[.int .i64 n] w fun e w' => e = .returned (.int .u64 x) ∧ w' = w))
    (HL : Hid (Low (2 * (x2 * y) - u * y2) (y * y2) false X Y Z)) :
    Calls Try.prog 54 #[.agg #[.int .i64 x, .int .i64 y], .agg #[.int .i64 x2, .int .i64 y2]] w fun e w' => e = .returned (.tuple #[.agg #[.int .i64 X, .int .i64 Y], .int .i64 Z]) ∧ Keep w w' := by
  go_enter Try.func54, Try.ntmps54
  go_wp2_with fail
  generalize hwc : World.alloc _ _ = wc
  have F : Fa w wc x y x2 y2 := by rw [← hwc]; exact fa_start0 w _ x y x2 y2
  clear hwc
  have F := F.drew
  refine wp_region_held_drew (S := (fun w' => w'.cell? ⟨w.heap.size, 0, none⟩ = some (.int .i64 x) ∧ w'.cell? ⟨w.heap.size, 1, none⟩ = some (.int .i64 y) ∧ w'.cell? ⟨w.heap.size + 1, 0, none⟩ = some (.int .i64 x2) ∧ w'.cell? ⟨w.heap.size + 1, 1, none⟩ = some (.int .i64 y2))) (by kernel_rfl) (by exact F.cells) (fun hHeld => ?_)
  refine tkk 0 9 hHeld ?_; try simp only [Act.put, Ya, Yb, Yc]
  refine tkk 1 10 hHeld ?_; try simp only [Act.put, Ya, Yb, Yc]
  refine tkk 3 12 hHeld ?_; try simp only [Act.put, Ya, Yb, Yc]
  refine tkk 4 13 hHeld ?_; try simp only [Act.put, Ya, Yb, Yc]
  refine tkk 5 14 hHeld ?_; try simp only [Act.put, Ya, Yb, Yc]
  refine rdyy 2 (fun K hK => ?_)
  go_simp
  clear hHeld
  (refine ((uq T1) _ _ S1 _).mono ?_; rintro e w2 ⟨rfl, rfl⟩)
  try go_wp2_with fail
  refine hK.out _ _ ?_ (fun hHeld => ?_)
  · exact F.cells
  clear hK K
  try simp only [Act.put, Ya, Yb, Yc]
  refine rdyy 6 (fun K hK => ?_)
  go_simp
  clear hHeld
  (refine (times_ref u y2 _ u0 u1 (by omega) z1).mono ?_; rintro e w2 ⟨vT, lT, rfl, rT, dT, ⟨nT0, nT1, nT2⟩, hk⟩; have F := F.keep hk;  have NT := hide nT2; clear nT2 hk)
  try go_wp2_with fail
  refine hK.out _ _ ?_ (fun hHeld => ?_)
  · exact F.cells
  clear hK K
  try simp only [Act.put, Ya, Yb, Yc]
  refine rdyy 7 (fun K hK => ?_)
  go_simp
  clear hHeld
  (refine (trim_any _ lT _ (rT.cases) dT (by omega)).mono ?_; rintro e w2 ⟨vP, lP, rfl, sP, dP', ⟨m0, m1⟩, hk⟩; have F := F.keep hk;  have MP : Hid (val lP = val lT) := hide m1; have LP : lP.length ≤ 9 := (by omega); clear m1 hk)
  try go_wp2_with fail
  refine hK.out _ _ ?_ (fun hHeld => ?_)
  · exact F.cells
  clear hK K
  try simp only [Act.put, Ya, Yb, Yc]
  refine tkk 8 6 hHeld ?_; try simp only [Act.put, Ya, Yb, Yc]
  refine wpAnyH_done (by kernel_rfl) ?_ _
  clear hHeld
  have EP := hide ((uq MP).trans (uq NT))
  clear MP NT
  clear nT0 rT dT
  obtain ⟨c1, c2, c3, c4⟩ := F.cells
  go_wp2_with fail
  (refine (times_ref x2 y _ v0 v1 (by omega) y1).mono ?_; rintro e w2 ⟨vT, lT, rfl, rT, dT, ⟨nT0, nT1, nT2⟩, hk⟩; have F := F.keep hk; have sP := sP.keep hk; have NT := hide nT2; clear nT2 hk)
  go_wp2_with fail
  (refine (twice_any _ lT _ (rT.sl nT0) dT (by omega) nT0).mono ?_; rintro e w2 ⟨vU, lU, rfl, sU, dU, ⟨nU0, nU1, nU2⟩, hk⟩; have F := F.keep hk; have sP := sP.keep hk; have NU := hide nU2; clear nU2 hk)
  go_wp2_with fail
  (refine (trim_any _ lU _ (.inr sU) dU (by omega)).mono ?_; rintro e w2 ⟨vQ, lQ, rfl, sQ, dQ', ⟨m0, m1⟩, hk⟩; have F := F.keep hk; have sP := sP.keep hk; have MQ : Hid (val lQ = val lU) := hide m1; have LQ : lQ.length ≤ 10 := (by omega); clear m1 hk)
  have EQ : Hid (val lQ = 2 * (x2 * y)) := by rw [uq MQ, uq NU, uq NT]; exact hide rfl
  clear MQ NU NT rT dT sU dU nT0 nU0
  clear c1 c2 c3 c4
  obtain ⟨c1, c2, c3, c4⟩ := F.cells
  go_wp2_with fail
  (refine (times_ref y y2 _ (by omega) y1 (by omega) z1).mono ?_; rintro e w2 ⟨vT, lT, rfl, rT, dT, ⟨nT0, nT1, nT2⟩, hk⟩; have F := F.keep hk; have sP := sP.keep hk; have sQ := sQ.keep hk; have NT := hide nT2; clear nT2 hk)
  go_wp2_with fail
  (refine (trim_any _ lT _ (rT.cases) dT (by omega)).mono ?_; rintro e w2 ⟨vR, lR, rfl, sR, dR', ⟨m0, m1⟩, hk⟩; have F := F.keep hk; have sP := sP.keep hk; have sQ := sQ.keep hk; have MR : Hid (val lR = val lT) := hide m1; have LR : lR.length ≤ 9 := (by omega); clear m1 hk)
  have ER := hide ((uq MR).trans (uq NT))
  clear MR NT
  clear c1 c2 c3 c4
  clear nT0 rT dT
  obtain ⟨c1, c2, c3, c4⟩ := F.cells
  have O := hide (order_sl _ _ lP lQ _ sP sQ dP' dQ' (by omega) (by omega))
  have hcm : cm (val lP) (val lQ) < 0 := by
    rw [cm_lt, uq EP, uq EQ]; exact uq HLT
  have hle : val lP ≤ val lQ := by rw [uq EP, uq EQ]; exact Int.le_of_lt (uq HLT)
  have HLE := hide hle
  generalize cm (val lP) (val lQ) = cv at *
  clear hle
  have hcb : decide (0 ≤ cv) = false := by simp; omega
  go_wp2_with fail
  refine (uq O).mono ?_
  rintro e w2 ⟨rfl, rfl⟩
  go_wp2_with fail
  (refine (minus_sl _ _ lQ lP _ sQ sP dQ' dP' (by omega) (by omega) (uq HLE)).mono ?_; rintro e w2 ⟨vT, lT, rfl, rT, dT, ⟨nT1, nT2⟩, hk⟩; have F := F.keep hk; have sP := sP.keep hk; have sQ := sQ.keep hk; have sR := sR.keep hk; have NT := hide nT2; clear nT2 hk)
  go_wp2_with fail
  (refine (trim_any _ lT _ (rT.cases) dT (by omega)).mono ?_; rintro e w2 ⟨vM, lM, rfl, sM, dM', ⟨m0, m1⟩, hk⟩; have F := F.keep hk; have sP := sP.keep hk; have sQ := sQ.keep hk; have sR := sR.keep hk; have MM : Hid (val lM = val lT) := hide m1; have LM : lM.length ≤ 10 := (by omega); clear m1 hk)
  have EM := hide ((uq MM).trans (uq NT))
  clear MM NT
  go_wp2_with fail
  (refine (lowest_core _ _ lM lR false X Y Z _ sM sR dM' dR' (by omega) (by omega) (by rw [uq ER]; exact uq HD) (by rw [uq EM, uq EP, uq EQ, uq ER]; exact uq HL)).mono ?_; rintro e w2 ⟨rfl, hk⟩; have F := F.keep hk; clear hk)
  obtain ⟨hKw, hsz, c1, c2, c3, c4, c5, c6, f1, f2⟩ := F
  go_wp2_with fail
  exact bodyPost_ret (v := .tuple #[.agg #[.int .i64 X, .int .i64 Y], .int .i64 Z]) (by simp [results, Try.results54, go_sem, c5, c6, hsz]) rfl ⟨rfl, keep_set2 _ _ (keep_set2 _ _ hKw)⟩
set_option maxHeartbeats 400000 in
theorem rminus_no (y : Int) (w : World) :
    Calls Try.prog 52 #[.agg #[.int .i64 (-9223372036854775808), .int .i64 y]] w fun e w' => e = .returned (.tuple #[.agg #[.int .i64 (-9223372036854775808), .int .i64 y], .bool false]) ∧ Keep w w' := by
  go_enter Try.func52, Try.ntmps52
  go_wp2_with fail
  exact bodyPost_ret (v := .tuple #[.agg #[.int .i64 (-9223372036854775808), .int .i64 y], .bool false]) (by simp [results, Try.results52, go_sem]) rfl ⟨rfl, by repeat (first | apply keep_ext | apply Keep.alloc | apply Keep.drew | exact Keep.refl _)⟩
set_option maxHeartbeats 400000 in
theorem rminus_yes (x y m : Int) (w : World) (h : (x == -9223372036854775808) = false) (hm : wrap64 (-x) = m) :
    Calls Try.prog 52 #[.agg #[.int .i64 x, .int .i64 y]] w fun e w' => e = .returned (.tuple #[.agg #[.int .i64 m, .int .i64 y], .bool true]) ∧ Keep w w' := by
  go_enter Try.func52, Try.ntmps52
  go_wp2_with fail
  exact bodyPost_ret (v := .tuple #[.agg #[.int .i64 m, .int .i64 y], .bool true]) (by simp [results, Try.results52, go_sem]) rfl ⟨rfl, by repeat (first | apply keep_ext | apply Keep.alloc | apply Keep.drew | exact Keep.refl _)⟩
set_option maxHeartbeats 1000000 in
theorem rsub2_yes (n d n2 d2 x2 y2 m X Y Z : Int) (w : World)
    (N2 : Hid (∀ w, Calls Try.prog 38 #[.agg #[.int .i64 n2, .int .i64 d2]] w fun e w' => e = .returned (.agg #[.int .i64 x2, .int .i64 y2]) ∧ Keep w w'))
    (MN : Hid (∀ w, Calls Try.prog 52 #[.agg #[.int .i64 x2, .int .i64 y2]] w fun e w' => e = .returned (.tuple #[.agg #[.int .i64 m, .int .i64 y2], .bool true]) ∧ Keep w w'))
    (AD : Hid (∀ w, Calls Try.prog 53 #[.agg #[.int .i64 n, .int .i64 d], .agg #[.int .i64 m, .int .i64 y2]] w fun e w' => e = .returned (.tuple #[.agg #[.int .i64 X, .int .i64 Y], .int .i64 Z]) ∧ Keep w w')) :
    Calls Try.prog 28 #[.agg #[.int .i64 n, .int .i64 d], .agg #[.int .i64 n2, .int .i64 d2]] w fun e w' => e = .returned (.tuple #[.agg #[.int .i64 X, .int .i64 Y], .int .i64 Z]) ∧ Keep w w' := by
  go_enter Try.func28, Try.ntmps28
  go_wp2_with fail
  (refine ((uq N2) _).mono ?_; rintro e w2 ⟨rfl, hk⟩; obtain ⟨o1, k1, rfl⟩ := hk.ext; clear hk)
  go_wp2_with fail
  (refine ((uq MN) _).mono ?_; rintro e w2 ⟨rfl, hk⟩; obtain ⟨o2, k2, rfl⟩ := hk.ext; clear hk)
  go_wp2_with fail
  (refine ((uq AD) _).mono ?_; rintro e w2 ⟨rfl, hk⟩; obtain ⟨o3, k3, rfl⟩ := hk.ext; clear hk)
  go_wp2_with fail
  exact bodyPost_ret (v := .tuple #[.agg #[.int .i64 X, .int .i64 Y], .int .i64 Z]) (by simp [results, Try.results28, go_sem]) rfl ⟨rfl, by repeat (first | apply keep_ext | apply Keep.alloc | apply Keep.drew | exact Keep.refl _)⟩
set_option maxHeartbeats 2000000 in
theorem rsub2_no (n d n2 d2 x y y2 X Y Z : Int) (w : World) (hodd : (y2.tmod 2 == 0) = false) (hodd2 : (y2 % 2 == 0) = false) (Cn : Int → Int → Int → Int → Prop) (K1 : Cn n d x y) (K2 : Cn n2 d2 (-9223372036854775808) y2)
    (N1 : Hid (∀ (n d x y : Int), Cn n d x y → ∀ w, Calls Try.prog 38 #[.agg #[.int .i64 n, .int .i64 d]] w fun e w' => e = .returned (.agg #[.int .i64 x, .int .i64 y]) ∧ Keep w w'))
    (MN : Hid (∀ w, Calls Try.prog 52 #[.agg #[.int .i64 (-9223372036854775808), .int .i64 y2]] w fun e w' => e = .returned (.tuple #[.agg #[.int .i64 (-9223372036854775808), .int .i64 y2], .bool false]) ∧ Keep w w'))
    (TW : Hid (∀ w, Calls Try.prog 54 #[.agg #[.int .i64 x, .int .i64 y], .agg #[.int .i64 4611686018427387904, .int .i64 y2]] w fun e w' => e = .returned (.tuple #[.agg #[.int .i64 X, .int .i64 Y], .int .i64 Z]) ∧ Keep w w')) :
    Calls Try.prog 28 #[.agg #[.int .i64 n, .int .i64 d], .agg #[.int .i64 n2, .int .i64 d2]] w fun e w' => e = .returned (.tuple #[.agg #[.int .i64 X, .int .i64 Y], .int .i64 Z]) ∧ Keep w w' := by
  go_enter Try.func28, Try.ntmps28
  go_wp2_with fail
  (refine ((uq N1) _ _ _ _ K2 _).mono ?_; rintro e w2 ⟨rfl, hk⟩; obtain ⟨o1, k1, rfl⟩ := hk.ext; clear hk)
  go_wp2_with fail
  (refine ((uq MN) _).mono ?_; rintro e w2 ⟨rfl, hk⟩; obtain ⟨o2, k2, rfl⟩ := hk.ext; clear hk)
  go_wp2_with fail
  refine wp_region_held_drew (S := (fun w' => w'.cell? ⟨w.heap.size, 0, none⟩ = some (.int .i64 n) ∧ w'.cell? ⟨w.heap.size, 1, none⟩ = some (.int .i64 d) ∧ w'.cell? ⟨w.heap.size + 1 + 1 + 1 + (o1.size + o2.size) + 1, 0, none⟩ = some (.int .i64 4611686018427387904) ∧ w'.cell? ⟨w.heap.size + 1 + 1 + 1 + (o1.size + o2.size) + 1, 1, none⟩ = some (.int .i64 y2))) (by kernel_rfl) (by simp [go_sem]) (fun hHeld => ?_)
  refine tkk 0 30 hHeld ?_; try simp only [Act.put, Ya, Yb, Yc]
  refine tkk 2 32 hHeld ?_; try simp only [Act.put, Ya, Yb, Yc]
  refine rdyy 1 (fun K hK => ?_)
  go_simp
  clear hHeld
  (refine ((uq N1) _ _ _ _ K1 _).mono ?_; rintro e w2 ⟨rfl, hk⟩; obtain ⟨o3, k3, rfl⟩ := hk.ext; clear hk)
  try go_wp2_with fail
  refine hK.out _ _ ?_ (fun hHeld => ?_)
  · simp [go_sem]
  clear hK K
  try simp only [Act.put, Ya, Yb, Yc]
  refine rdyy 3 (fun K hK => ?_)
  go_simp
  clear hHeld
  (refine ((uq TW) _).mono ?_; rintro e w2 ⟨rfl, hk⟩; obtain ⟨o4, k4, rfl⟩ := hk.ext; clear hk)
  try go_wp2_with fail
  refine hK.out _ _ ?_ (fun hHeld => ?_)
  · simp [go_sem]
  clear hK K
  try simp only [Act.put, Ya, Yb, Yc]
  refine tkk 4 34 hHeld ?_; try simp only [Act.put, Ya, Yb, Yc]
  refine tkk 5 35 hHeld ?_; try simp only [Act.put, Ya, Yb, Yc]
  refine rdyy 6 (fun K hK => ?_)
  go_simp
  clear hHeld
  refine hK.out _ _ ?_ (fun hHeld => ?_)
  · simp [go_sem]
  clear hK K
  try simp only [Act.put, Ya, Yb, Yc]
  refine tkk 7 5 hHeld ?_; try simp only [Act.put, Ya, Yb, Yc]
  refine wpAnyH_done (by kernel_rfl) ?_ _
  clear hHeld
  go_wp2_with fail
  exact bodyPost_ret (v := .tuple #[.agg #[.int .i64 X, .int .i64 Y], .int .i64 Z]) (by simp [results, Try.results28, go_sem]) rfl ⟨rfl, by repeat (first | apply keep_ext | apply Keep.alloc | apply Keep.drew | exact Keep.refl _)⟩
end Go.Proofs.Ytjibbekojbaopaa
