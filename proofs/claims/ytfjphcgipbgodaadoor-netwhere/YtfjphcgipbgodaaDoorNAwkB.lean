/- The chapter's examples are read. -/
import Derived.Test.YtfjphcgipbgodaaDoorNAwk
namespace Go.Proofs.YtfjphcgipbgodaaDoor
open Go.RowKit
attribute [local go_sem ↓] Go.wp_at_zero Go.wp_at_succ
set_option linter.unusedVariables false
set_option linter.unusedSimpArgs false
set_option maxRecDepth 100000
theorem rd_int {w : World} {n : Int} {P : Nat → Prop} {u : Value} (h : Rd w (dI n) P u) : u = .int .i64 n := h.1
theorem rd_row {w : World} {e z : Nat} {L : List (List D)} {P : Nat → Prop} {u : Value} (h : Rd w (.row e z L) P u) : ∃ a c, u = .slice a L.length c := by
  obtain ⟨a, c, xs, h, _⟩ := row_shape h
  exact ⟨a, c, h⟩
theorem open_nine {w : World} {c0 c1 c2 c3 c4 c5 c6 c7 c8 : D} {P : Nat → Prop} {u0 u1 u2 u3 u4 u5 u6 u7 u8 : Value} (h : Rds w [c0, c1, c2, c3, c4, c5, c6, c7, c8] P [u0, u1, u2, u3, u4, u5, u6, u7, u8]) : Rd w c0 P u0 ∧ Rd w c1 P u1 ∧ Rd w c2 P u2 ∧ Rd w c3 P u3 ∧ Rd w c4 P u4 ∧ Rd w c5 P u5 ∧ Rd w c6 P u6 ∧ Rd w c7 P u7 ∧ Rd w c8 P u8 := by
  simp only [Rds] at h
  obtain ⟨_, _, e, h0, _, _, e1, h1, _, _, e2, h2, _, _, e3, h3, _, _, e4, h4, _, _, e5, h5, _, _, e6, h6, _, _, e7, h7, _, _, e8, h8, _⟩ := h
  simp_all
theorem wpList_exec {P : Program} {ops : Array Oper} {Q : Exit → Act → World → Prop} {o : Oper} {rest : List Oper} {a : Act} {w w' : World} {v : Value} (hg : o.guard = none) (hr : (execOp a.eval o).run P w = .ok (.value v) w') (h : wpList P ops Q rest (a.put o.dst v) w') : wpList P ops Q (o :: rest) a w :=
  wpList_plain hg fun K hK => by
    unfold Oper.wp
    rw [hr]
    exact hK _ _ h
set_option maxHeartbeats 8000000 in
theorem awake_core (w : World)
    (T0 : Hid (∀ w' v, Keep w w' → By w' v ex0 → Calls Tryd.prog 6 #[v] w' (ParseP (N ex0) w')))
    (T1 : Hid (∀ w' v, Keep w w' → By w' v ex1 → Calls Tryd.prog 6 #[v] w' (ParseP (N ex1) w')))
    (T2 : Hid (∀ w' v, Keep w w' → By w' v ex2 → Calls Tryd.prog 6 #[v] w' (ParseP (N ex2) w'))) :
    Calls Tryd.prog 7 #[] w fun e w' => e = .returned (.bool true) ∧ Keep w w' := by
  have hcv0 := fun w => conv_mark w #[.int .u8 99, .int .u8 121, .int .u8 99, .int .u8 108, .int .u8 101, .int .u8 32, .int .u8 54, .int .u8 48, .int .u8 48, .int .u8 32, .int .u8 116, .int .u8 111, .int .u8 32, .int .u8 57, .int .u8 48, .int .u8 48, .int .u8 32, .int .u8 98, .int .u8 121, .int .u8 32, .int .u8 49, .int .u8 48, .int .u8 59, .int .u8 32, .int .u8 112, .int .u8 101, .int .u8 97, .int .u8 107, .int .u8 32, .int .u8 49, .int .u8 47, .int .u8 49, .int .u8 59] 33 rfl
  have hcv1 := fun w => conv_mark w #[.int .u8 99, .int .u8 121, .int .u8 99, .int .u8 108, .int .u8 101, .int .u8 32, .int .u8 54, .int .u8 48, .int .u8 48, .int .u8 59] 10 rfl
  have hcv2 := fun w => conv_mark w ar2 148 ar2_size
  have K0 := hide (Keep.refl w)
  go_enter Tryd.func7, Tryd.ntmps7
  go_wp2_with fail
  (refine ((unhide T0) _ _ ((unhide K0).alloc _) (by_ex0 _)).mono ?_; rintro e w1 hp)
  rw [ex0_N] at hp
  obtain ⟨hk, u0, u1, u2, u3, u4, u5, u6, u7, u8, rfl, hon, hrd⟩ := hp
  obtain ⟨h0, h1, h2, h3, h4, h5, h6, h7, h8⟩ := open_nine hrd
  obtain rfl := rd_int h0
  obtain rfl := rd_int h1
  obtain rfl := rd_int h2
  obtain rfl := rd_int h3
  obtain rfl := rd_int h4
  obtain ⟨a5, c5, rfl⟩ := rd_row h5
  obtain ⟨a6, c6, rfl⟩ := rd_row h6
  obtain rfl := rd_int h7
  obtain rfl := rd_int h8
  replace K0 := hide (((unhide K0).alloc _).trans hk)
  clear hk hon hrd h0 h1 h2 h3 h4 h5 h6 h7 h8
  go_upto_region 2 with fail
  have m1 := hide ((unhide K0).alloc (.cells #[.int .i64 600, .int .i64 900, .int .i64 10, .int .i64 1, .int .i64 1, .slice a5 0 c5, .slice a6 0 c6, .int .i64 0, .int .i64 0] 28))
  have m2 : Hid ((w1.alloc (.cells #[.int .i64 600, .int .i64 900, .int .i64 10, .int .i64 1, .int .i64 1, .slice a5 0 c5, .slice a6 0 c6, .int .i64 0, .int .i64 0] 28)).cell? ⟨w1.heap.size, 1, none⟩ = some (.int .i64 900)) := hide (by simp [go_sem])
  generalize w1.alloc (.cells #[.int .i64 600, .int .i64 900, .int .i64 10, .int .i64 1, .int .i64 1, .slice a5 0 c5, .slice a6 0 c6, .int .i64 0, .int .i64 0] 28) = wa at m1 m2 ⊢
  generalize w1.heap.size = b1 at m2 ⊢
  clear K0 hcv0
  have hcv := hcv1 wa
  go_wp2_with fail
  (refine ((unhide T1) _ _ ((unhide m1).alloc _) (by_ex1 _)).mono ?_; rintro e w2 hp)
  rw [ex1_N] at hp
  obtain ⟨hk, rfl⟩ := hp
  have m3 := hide (((unhide m1).alloc _).trans hk)
  have m4 := hide (Keep.cell' (((Keep.refl wa).alloc _).trans hk) (unhide m2))
  clear hk m1 m2 hcv hcv1
  go_upto_region 3 with fail
  have m5 := hide ((unhide m3).alloc (.cells #[.int .i64 0, .int .i64 0, .int .i64 0, .int .i64 0, .int .i64 0, .slice none 0 0, .slice none 0 0, .int .i64 0, .int .i64 0] 28))
  have m6 := hide (((Keep.refl w2).alloc (.cells #[.int .i64 0, .int .i64 0, .int .i64 0, .int .i64 0, .int .i64 0, .slice none 0 0, .slice none 0 0, .int .i64 0, .int .i64 0] 28)).cell' (unhide m4))
  generalize w2.alloc (.cells #[.int .i64 0, .int .i64 0, .int .i64 0, .int .i64 0, .int .i64 0, .slice none 0 0, .slice none 0 0, .int .i64 0, .int .i64 0] 28) = wb at m5 m6 ⊢
  clear m3 m4
  have hcv := hcv2 wb
  refine wp_region_lit ?_
  refine wpList_exec rfl (v := .slice (some ⟨wb.heap.size, 0, none⟩) 148 148) (w' := wb.alloc (.cells ar2 5)) (by kernel_rfl) ?_
  try simp only [Act.put, List.setIfInBounds_toArray, List.set_cons_zero, List.set_cons_succ]
  go_wp2_with fail
  (refine ((unhide T2) _ _ ((unhide m5).alloc _) (by_ex2 _)).mono ?_; rintro e w3 hp)
  rw [ex2_N] at hp
  obtain ⟨hk, u0, u1, u2, u3, u4, u5, u6, u7, u8, rfl, hon, hrd⟩ := hp
  have m7 := hide (((unhide m5).alloc _).trans hk)
  have m8 := hide (Keep.cell' (((Keep.refl wb).alloc _).trans hk) (unhide m6))
  clear hk m5 m6 hcv hcv2 hon
  obtain ⟨h0, h1, h2, h3, h4, h5, h6, h7, h8⟩ := open_nine hrd
  obtain rfl := rd_int h0
  obtain rfl := rd_int h1
  obtain rfl := rd_int h2
  obtain rfl := rd_int h3
  obtain rfl := rd_int h4
  obtain ⟨g5, q5, ys5, P5, rfl, k5, j5⟩ := row_at h5 (i := 0) (by decide)
  obtain ⟨a6', c6', rfl⟩ := rd_row h6
  obtain rfl := rd_int h7
  obtain rfl := rd_int h8
  obtain ⟨n0, ns0, rfl, _, k5⟩ := rds_cons k5
  obtain ⟨n1, ns1, rfl, kh, _⟩ := rds_cons k5
  obtain ⟨g6, q6, ys6, P6, rfl, k6, j6⟩ := row_at kh (i := 0) (by decide)
  obtain ⟨f0, fs0, rfl, _, k6⟩ := rds_cons k6
  obtain ⟨f1, fs1, rfl, _, k6⟩ := rds_cons k6
  obtain ⟨f2, fs2, rfl, _, k6⟩ := rds_cons k6
  obtain ⟨f3, fs3, rfl, _, k6⟩ := rds_cons k6
  obtain ⟨f4, fs4, rfl, _, k6⟩ := rds_cons k6
  obtain ⟨f5, fs5, rfl, _, k6⟩ := rds_cons k6
  obtain ⟨f6, fs6, rfl, kg, k6⟩ := rds_cons k6
  obtain rfl := rd_int kg
  have i5 := j5 1 _ rfl
  have i6 := j6 6 _ rfl
  simp only [Nat.zero_mul, Nat.zero_add, List.length_cons, List.length_nil] at i5 i6 ⊢
  have z5 : ∀ o, (w3.alloc o).cell? ⟨g5, 1, none⟩ = some (.slice (some ⟨g6, 0, none⟩) 1 q6) := fun o => ((Keep.refl w3).alloc o).cell' i5
  have z6 : ∀ o, (w3.alloc o).cell? ⟨g6, 6, none⟩ = some (.int .i64 (-11)) := fun o => ((Keep.refl w3).alloc o).cell' i6
  have z7 : ∀ o, (w3.alloc o).cell? ⟨b1, 1, none⟩ = some (.int .i64 900) := fun o => ((Keep.refl w3).alloc o).cell' (unhide m8)
  have M7 := m7
  clear h0 h1 h2 h3 h4 h5 h6 h7 h8 hrd i5 i6 j5 j6 k5 k6 kh kg m8
  go_wp2_with fail
  go_ret
  exact ⟨rfl, (unhide M7).alloc _⟩
theorem awake_any (w : World) (hg : Gl w) : Calls Tryd.prog 7 #[] w fun e w' => e = .returned (.bool true) ∧ Keep w w' :=
  awake_core w (hide fun w' v hk h => parse_any v ex0 w' (by decide) h (hg.keep hk)) (hide fun w' v hk h => parse_any v ex1 w' (by decide) h (hg.keep hk)) (hide fun w' v hk h => parse_any v ex2 w' (by decide) h (hg.keep hk))
end Go.Proofs.YtfjphcgipbgodaaDoor
