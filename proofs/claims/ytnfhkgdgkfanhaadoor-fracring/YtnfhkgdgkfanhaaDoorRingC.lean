/- The law's walk: sums and products in any order. -/
import Derived.Test.YtnfhkgdgkfanhaaDoorFracV
import Derived.Test.YtnfhkgdgkfanhaaDoorFracD
import Derived.Test.YtnfhkgdgkfanhaaDoorFRing
namespace Go.Proofs.YtnfhkgdgkfanhaaDoor
open Go.RowKit
set_option linter.unusedVariables false
set_option maxRecDepth 10000
@[go_sem] theorem lt_c4 (a x y z u : Nat) : a < a + 1 + x + 1 + y + 1 + z + 1 + u := by omega
@[go_sem] theorem lt_c4e (a x y z u : Nat) : a < a + 1 + x + 1 + y + 1 + z + 1 + u + 1 := by omega
@[go_sem] theorem lt_c5 (a x y z u v : Nat) : a < a + 1 + x + 1 + y + 1 + z + 1 + u + 1 + v := by omega
@[go_sem] theorem lt_c5e (a x y z u v : Nat) : a < a + 1 + x + 1 + y + 1 + z + 1 + u + 1 + v + 1 := by omega
@[go_sem] theorem lt_c6 (a x y z u v p : Nat) : a < a + 1 + x + 1 + y + 1 + z + 1 + u + 1 + v + 1 + p := by omega
@[go_sem] theorem lt_c6e (a x y z u v p : Nat) : a < a + 1 + x + 1 + y + 1 + z + 1 + u + 1 + v + 1 + p + 1 := by omega
@[go_sem] theorem lt_c7 (a x y z u v p q : Nat) : a < a + 1 + x + 1 + y + 1 + z + 1 + u + 1 + v + 1 + p + 1 + q := by omega
@[go_sem] theorem lt_c7e (a x y z u v p q : Nat) : a < a + 1 + x + 1 + y + 1 + z + 1 + u + 1 + v + 1 + p + 1 + q + 1 := by omega
@[go_sem] theorem lt_c8 (a x y z u v p q r : Nat) : a < a + 1 + x + 1 + y + 1 + z + 1 + u + 1 + v + 1 + p + 1 + q + 1 + r := by omega
@[go_sem] theorem lt_c8e (a x y z u v p q r : Nat) : a < a + 1 + x + 1 + y + 1 + z + 1 + u + 1 + v + 1 + p + 1 + q + 1 + r + 1 := by omega
@[go_sem] theorem lt_c9 (a x y z u v p q r s : Nat) : a < a + 1 + x + 1 + y + 1 + z + 1 + u + 1 + v + 1 + p + 1 + q + 1 + r + 1 + s := by omega
@[go_sem] theorem lt_c9e (a x y z u v p q r s : Nat) : a < a + 1 + x + 1 + y + 1 + z + 1 + u + 1 + v + 1 + p + 1 + q + 1 + r + 1 + s + 1 := by omega
namespace ring
set_option maxHeartbeats 8000000 in
theorem walk_core (a0 b0 a1 b1 a2 b2 A Ay Zd B By Ze P Py Zf Q Qy Zg R Ry Zh X Xy Zi : Int) (r0 : Bool) (w : World)
    (RA RM RS : Int → Int → Int → Int → Int → Int → Int → Prop)
    (r1 : RA a0 b0 a1 b1 A Ay Zd) (r2 : RM A Ay a2 b2 B By Ze) (r3 : RM a0 b0 a2 b2 P Py Zf) (r4 : RM a1 b1 a2 b2 Q Qy Zg) (r5 : RA P Py Q Qy R Ry Zh) (r6 : RS A Ay a1 b1 X Xy Zi)
    (hA : ((Zd == 0) = false ∧ ¬ Zd = 0) ∨ (Zd = 0 ∧ (Ze == 0) = false) ∨ (Zd = 0 ∧ Ze = 0 ∧ (Zf == 0) = false) ∨ (Zd = 0 ∧ Ze = 0 ∧ Zf = 0 ∧ (Zg == 0) = false) ∨ (Zd = 0 ∧ Ze = 0 ∧ Zf = 0 ∧ Zg = 0 ∧ (Zh == 0) = false) ∨ (Zd = 0 ∧ Ze = 0 ∧ Zf = 0 ∧ Zg = 0 ∧ Zh = 0 ∧ R = B ∧ Ry = By))
    (hB : Zd = 0 → ((Zi == 0) = false ∧ ¬ Zi = 0) ∨ (Zi = 0 ∧ r0 = false) ∨ (Zi = 0 ∧ r0 = true ∧ X = a0 ∧ Xy = b0))
    (OPA : Hid (∀ (n d n2 d2 X Y Z : Int), RA n d n2 d2 X Y Z → ∀ w, Calls Tryd.prog 15 #[.agg #[.int .i64 n, .int .i64 d], .agg #[.int .i64 n2, .int .i64 d2]] w fun e w' => e = .returned (.tuple #[.agg #[.int .i64 X, .int .i64 Y], .int .i64 Z]) ∧ Keep w w'))
    (OPM : Hid (∀ (n d n2 d2 X Y Z : Int), RM n d n2 d2 X Y Z → ∀ w, Calls Tryd.prog 19 #[.agg #[.int .i64 n, .int .i64 d], .agg #[.int .i64 n2, .int .i64 d2]] w fun e w' => e = .returned (.tuple #[.agg #[.int .i64 X, .int .i64 Y], .int .i64 Z]) ∧ Keep w w'))
    (OPS : Hid (∀ (n d n2 d2 X Y Z : Int), RS n d n2 d2 X Y Z → ∀ w, Calls Tryd.prog 17 #[.agg #[.int .i64 n, .int .i64 d], .agg #[.int .i64 n2, .int .i64 d2]] w fun e w' => e = .returned (.tuple #[.agg #[.int .i64 X, .int .i64 Y], .int .i64 Z]) ∧ Keep w w'))
    (LS : Hid (∀ w, Calls Tryd.prog 35 #[.agg #[.int .i64 a0, .int .i64 b0, .int .i64 a1, .int .i64 b1, .int .i64 a2, .int .i64 b2], .func (.func 15) #[] #[]] w fun e w' => e = .returned (.bool true) ∧ Keep w w'))
    (LP : Hid (∀ w, Calls Tryd.prog 35 #[.agg #[.int .i64 a0, .int .i64 b0, .int .i64 a1, .int .i64 b1, .int .i64 a2, .int .i64 b2], .func (.func 19) #[] #[]] w fun e w' => e = .returned (.bool true) ∧ Keep w w'))
    (RR : Hid (∀ w, Calls Tryd.prog 12 #[.agg #[.int .i64 a0, .int .i64 b0]] w fun e w' => e = .returned (.bool r0) ∧ Keep w w'))
    (AW : Hid (∀ w, Calls Tryd.prog 14 #[] w fun e w' => e = .returned (.bool true) ∧ Keep w w')) :
    Calls Tryd.prog 8 #[.agg #[.int .i64 a0, .int .i64 b0, .int .i64 a1, .int .i64 b1, .int .i64 a2, .int .i64 b2]] w fun e w' => e = .returned (.bool true) ∧ Keep w w' := by
  have HA := hide hA
  have HB := hide hB
  clear hA hB
  go_enter Tryd.func8, Tryd.ntmps8
  go_wp2_with fail
  (refine ((unhide LS) _).mono ?_; rintro e w2 ⟨rfl, hk⟩; obtain ⟨o11, k11, rfl⟩ := hk.ext; clear hk)
  go_wp2_with fail
  (refine ((unhide LP) _).mono ?_; rintro e w2 ⟨rfl, hk⟩; obtain ⟨o12, k12, rfl⟩ := hk.ext; clear hk)
  go_wp2_with fail
  (refine ((unhide OPA) _ _ _ _ _ _ _ r1 _).mono ?_; rintro e w2 ⟨rfl, hk⟩; obtain ⟨o1, k1, rfl⟩ := hk.ext; clear hk)
  go_wp2_with fail
  (refine ((unhide OPM) _ _ _ _ _ _ _ r2 _).mono ?_; rintro e w2 ⟨rfl, hk⟩; obtain ⟨o2, k2, rfl⟩ := hk.ext; clear hk)
  go_wp2_with fail
  (refine ((unhide OPM) _ _ _ _ _ _ _ r3 _).mono ?_; rintro e w2 ⟨rfl, hk⟩; obtain ⟨o3, k3, rfl⟩ := hk.ext; clear hk)
  go_wp2_with fail
  (refine ((unhide OPM) _ _ _ _ _ _ _ r4 _).mono ?_; rintro e w2 ⟨rfl, hk⟩; obtain ⟨o4, k4, rfl⟩ := hk.ext; clear hk)
  go_wp2_with fail
  (refine ((unhide OPA) _ _ _ _ _ _ _ r5 _).mono ?_; rintro e w2 ⟨rfl, hk⟩; obtain ⟨o5, k5, rfl⟩ := hk.ext; clear hk)
  go_upto_region 8 with fail
  rcases unhide HA with ⟨h, hn⟩ | ⟨rfl, h⟩ | ⟨rfl, rfl, h⟩ | ⟨rfl, rfl, rfl, h⟩ | ⟨rfl, rfl, rfl, rfl, h⟩ | ⟨rfl, rfl, rfl, rfl, rfl, rfl, rfl⟩
  · clear HA HB
    go_wp2_with fail
    (refine ((unhide OPS) _ _ _ _ _ _ _ r6 _).mono ?_; rintro e w2 ⟨rfl, hk⟩; obtain ⟨o6, k6, rfl⟩ := hk.ext; clear hk)
    go_wp2_with fail
    (refine ((unhide AW) _).mono ?_; rintro e w2 ⟨rfl, hk⟩; obtain ⟨o9, k9, rfl⟩ := hk.ext; clear hk)
    go_wp2_with fail
    go_ret
    exact ⟨rfl, by repeat (first | apply keep_ext | apply Keep.alloc | apply Keep.drew | exact Keep.refl _)⟩
  · clear HA
    have hB := unhide HB rfl
    clear HB
    go_wp2_with fail
    (refine ((unhide OPS) _ _ _ _ _ _ _ r6 _).mono ?_; rintro e w2 ⟨rfl, hk⟩; obtain ⟨o6, k6, rfl⟩ := hk.ext; clear hk)
    go_upto_region 11 with fail
    rcases hB with ⟨b1, b2⟩ | ⟨rfl, rfl⟩ | ⟨rfl, rfl, rfl, rfl⟩
    · go_wp2_with fail
      (refine ((unhide AW) _).mono ?_; rintro e w2 ⟨rfl, hk⟩; obtain ⟨o9, k9, rfl⟩ := hk.ext; clear hk)
      go_wp2_with fail
      go_ret
      exact ⟨rfl, by repeat (first | apply keep_ext | apply Keep.alloc | apply Keep.drew | exact Keep.refl _)⟩
    · go_wp2_with fail
      (refine ((unhide RR) _).mono ?_; rintro e w2 ⟨rfl, hk⟩; obtain ⟨o7, k7, rfl⟩ := hk.ext; clear hk)
      go_wp2_with fail
      (refine ((unhide AW) _).mono ?_; rintro e w2 ⟨rfl, hk⟩; obtain ⟨o9, k9, rfl⟩ := hk.ext; clear hk)
      go_wp2_with fail
      go_ret
      exact ⟨rfl, by repeat (first | apply keep_ext | apply Keep.alloc | apply Keep.drew | exact Keep.refl _)⟩
    · go_wp2_with fail
      (refine ((unhide RR) _).mono ?_; rintro e w2 ⟨rfl, hk⟩; obtain ⟨o7, k7, rfl⟩ := hk.ext; clear hk)
      go_wp2_with fail
      (refine ((unhide AW) _).mono ?_; rintro e w2 ⟨rfl, hk⟩; obtain ⟨o9, k9, rfl⟩ := hk.ext; clear hk)
      go_wp2_with fail
      go_ret
      exact ⟨rfl, by repeat (first | apply keep_ext | apply Keep.alloc | apply Keep.drew | exact Keep.refl _)⟩
  · clear HA
    have hB := unhide HB rfl
    clear HB
    go_wp2_with fail
    (refine ((unhide OPS) _ _ _ _ _ _ _ r6 _).mono ?_; rintro e w2 ⟨rfl, hk⟩; obtain ⟨o6, k6, rfl⟩ := hk.ext; clear hk)
    go_upto_region 11 with fail
    rcases hB with ⟨b1, b2⟩ | ⟨rfl, rfl⟩ | ⟨rfl, rfl, rfl, rfl⟩
    · go_wp2_with fail
      (refine ((unhide AW) _).mono ?_; rintro e w2 ⟨rfl, hk⟩; obtain ⟨o9, k9, rfl⟩ := hk.ext; clear hk)
      go_wp2_with fail
      go_ret
      exact ⟨rfl, by repeat (first | apply keep_ext | apply Keep.alloc | apply Keep.drew | exact Keep.refl _)⟩
    · go_wp2_with fail
      (refine ((unhide RR) _).mono ?_; rintro e w2 ⟨rfl, hk⟩; obtain ⟨o7, k7, rfl⟩ := hk.ext; clear hk)
      go_wp2_with fail
      (refine ((unhide AW) _).mono ?_; rintro e w2 ⟨rfl, hk⟩; obtain ⟨o9, k9, rfl⟩ := hk.ext; clear hk)
      go_wp2_with fail
      go_ret
      exact ⟨rfl, by repeat (first | apply keep_ext | apply Keep.alloc | apply Keep.drew | exact Keep.refl _)⟩
    · go_wp2_with fail
      (refine ((unhide RR) _).mono ?_; rintro e w2 ⟨rfl, hk⟩; obtain ⟨o7, k7, rfl⟩ := hk.ext; clear hk)
      go_wp2_with fail
      (refine ((unhide AW) _).mono ?_; rintro e w2 ⟨rfl, hk⟩; obtain ⟨o9, k9, rfl⟩ := hk.ext; clear hk)
      go_wp2_with fail
      go_ret
      exact ⟨rfl, by repeat (first | apply keep_ext | apply Keep.alloc | apply Keep.drew | exact Keep.refl _)⟩
  · clear HA
    have hB := unhide HB rfl
    clear HB
    go_wp2_with fail
    (refine ((unhide OPS) _ _ _ _ _ _ _ r6 _).mono ?_; rintro e w2 ⟨rfl, hk⟩; obtain ⟨o6, k6, rfl⟩ := hk.ext; clear hk)
    go_upto_region 11 with fail
    rcases hB with ⟨b1, b2⟩ | ⟨rfl, rfl⟩ | ⟨rfl, rfl, rfl, rfl⟩
    · go_wp2_with fail
      (refine ((unhide AW) _).mono ?_; rintro e w2 ⟨rfl, hk⟩; obtain ⟨o9, k9, rfl⟩ := hk.ext; clear hk)
      go_wp2_with fail
      go_ret
      exact ⟨rfl, by repeat (first | apply keep_ext | apply Keep.alloc | apply Keep.drew | exact Keep.refl _)⟩
    · go_wp2_with fail
      (refine ((unhide RR) _).mono ?_; rintro e w2 ⟨rfl, hk⟩; obtain ⟨o7, k7, rfl⟩ := hk.ext; clear hk)
      go_wp2_with fail
      (refine ((unhide AW) _).mono ?_; rintro e w2 ⟨rfl, hk⟩; obtain ⟨o9, k9, rfl⟩ := hk.ext; clear hk)
      go_wp2_with fail
      go_ret
      exact ⟨rfl, by repeat (first | apply keep_ext | apply Keep.alloc | apply Keep.drew | exact Keep.refl _)⟩
    · go_wp2_with fail
      (refine ((unhide RR) _).mono ?_; rintro e w2 ⟨rfl, hk⟩; obtain ⟨o7, k7, rfl⟩ := hk.ext; clear hk)
      go_wp2_with fail
      (refine ((unhide AW) _).mono ?_; rintro e w2 ⟨rfl, hk⟩; obtain ⟨o9, k9, rfl⟩ := hk.ext; clear hk)
      go_wp2_with fail
      go_ret
      exact ⟨rfl, by repeat (first | apply keep_ext | apply Keep.alloc | apply Keep.drew | exact Keep.refl _)⟩
  · clear HA
    have hB := unhide HB rfl
    clear HB
    go_wp2_with fail
    (refine ((unhide OPS) _ _ _ _ _ _ _ r6 _).mono ?_; rintro e w2 ⟨rfl, hk⟩; obtain ⟨o6, k6, rfl⟩ := hk.ext; clear hk)
    go_upto_region 11 with fail
    rcases hB with ⟨b1, b2⟩ | ⟨rfl, rfl⟩ | ⟨rfl, rfl, rfl, rfl⟩
    · go_wp2_with fail
      (refine ((unhide AW) _).mono ?_; rintro e w2 ⟨rfl, hk⟩; obtain ⟨o9, k9, rfl⟩ := hk.ext; clear hk)
      go_wp2_with fail
      go_ret
      exact ⟨rfl, by repeat (first | apply keep_ext | apply Keep.alloc | apply Keep.drew | exact Keep.refl _)⟩
    · go_wp2_with fail
      (refine ((unhide RR) _).mono ?_; rintro e w2 ⟨rfl, hk⟩; obtain ⟨o7, k7, rfl⟩ := hk.ext; clear hk)
      go_wp2_with fail
      (refine ((unhide AW) _).mono ?_; rintro e w2 ⟨rfl, hk⟩; obtain ⟨o9, k9, rfl⟩ := hk.ext; clear hk)
      go_wp2_with fail
      go_ret
      exact ⟨rfl, by repeat (first | apply keep_ext | apply Keep.alloc | apply Keep.drew | exact Keep.refl _)⟩
    · go_wp2_with fail
      (refine ((unhide RR) _).mono ?_; rintro e w2 ⟨rfl, hk⟩; obtain ⟨o7, k7, rfl⟩ := hk.ext; clear hk)
      go_wp2_with fail
      (refine ((unhide AW) _).mono ?_; rintro e w2 ⟨rfl, hk⟩; obtain ⟨o9, k9, rfl⟩ := hk.ext; clear hk)
      go_wp2_with fail
      go_ret
      exact ⟨rfl, by repeat (first | apply keep_ext | apply Keep.alloc | apply Keep.drew | exact Keep.refl _)⟩
  · clear HA
    have hB := unhide HB rfl
    clear HB
    go_wp2_with fail
    (refine ((unhide OPS) _ _ _ _ _ _ _ r6 _).mono ?_; rintro e w2 ⟨rfl, hk⟩; obtain ⟨o6, k6, rfl⟩ := hk.ext; clear hk)
    go_upto_region 11 with fail
    rcases hB with ⟨b1, b2⟩ | ⟨rfl, rfl⟩ | ⟨rfl, rfl, rfl, rfl⟩
    · go_wp2_with fail
      (refine ((unhide AW) _).mono ?_; rintro e w2 ⟨rfl, hk⟩; obtain ⟨o9, k9, rfl⟩ := hk.ext; clear hk)
      go_wp2_with fail
      go_ret
      exact ⟨rfl, by repeat (first | apply keep_ext | apply Keep.alloc | apply Keep.drew | exact Keep.refl _)⟩
    · go_wp2_with fail
      (refine ((unhide RR) _).mono ?_; rintro e w2 ⟨rfl, hk⟩; obtain ⟨o7, k7, rfl⟩ := hk.ext; clear hk)
      go_wp2_with fail
      (refine ((unhide AW) _).mono ?_; rintro e w2 ⟨rfl, hk⟩; obtain ⟨o9, k9, rfl⟩ := hk.ext; clear hk)
      go_wp2_with fail
      go_ret
      exact ⟨rfl, by repeat (first | apply keep_ext | apply Keep.alloc | apply Keep.drew | exact Keep.refl _)⟩
    · go_wp2_with fail
      (refine ((unhide RR) _).mono ?_; rintro e w2 ⟨rfl, hk⟩; obtain ⟨o7, k7, rfl⟩ := hk.ext; clear hk)
      go_wp2_with fail
      (refine ((unhide AW) _).mono ?_; rintro e w2 ⟨rfl, hk⟩; obtain ⟨o9, k9, rfl⟩ := hk.ext; clear hk)
      go_wp2_with fail
      go_ret
      exact ⟨rfl, by repeat (first | apply keep_ext | apply Keep.alloc | apply Keep.drew | exact Keep.refl _)⟩
end ring
end Go.Proofs.YtnfhkgdgkfanhaaDoor
