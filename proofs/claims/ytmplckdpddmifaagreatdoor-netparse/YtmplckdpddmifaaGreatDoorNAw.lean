/- The chapter's examples. -/
import Derived.Test.YtmplckdpddmifaaGreatDoorNWt
namespace Go.Proofs.YtmplckdpddmifaaGreatDoor
open Go.RowKit
attribute [local go_sem ↓] Go.wp_at_zero Go.wp_at_succ
set_option linter.unusedVariables false
set_option linter.unusedSimpArgs false
set_option maxRecDepth 100000
def ex0 : List UInt8 := [99, 121, 99, 108, 101, 32, 54, 48, 48, 32, 116, 111, 32, 57, 48, 48, 32, 98, 121, 32, 49, 48, 59, 32, 112, 101, 97, 107, 32, 49, 47, 49, 59]
def ex1 : List UInt8 := [99, 121, 99, 108, 101, 32, 54, 48, 48, 59]
def ex2 : List UInt8 := [99, 121, 99, 108, 101, 32, 49, 32, 116, 111, 32, 50, 32, 98, 121, 32, 51, 59, 32, 112, 101, 97, 107, 32, 52, 47, 53, 59, 32, 110, 111, 100, 101, 32, 97, 32, 123, 32, 104, 101, 97, 100, 32, 104, 32, 118, 111, 108, 117, 109, 101, 32, 54, 32, 102, 108, 111, 119, 32, 55, 32, 117, 115, 101, 32, 56, 47, 57, 32, 115, 112, 101, 101, 100, 32, 49, 48, 32, 103, 114, 97, 100, 101, 32, 45, 49, 49, 32, 119, 105, 100, 116, 104, 32, 49, 50, 32, 108, 101, 110, 103, 116, 104, 32, 49, 51, 32, 103, 114, 101, 101, 110, 32, 49, 52, 59, 32, 112, 104, 97, 115, 101, 32, 112, 58, 32, 104, 59, 32, 103, 114, 111, 117, 112, 32, 123, 32, 114, 105, 110, 103, 32, 112, 59, 32, 125, 32, 125]
theorem ex0_N : N ex0 = .ok [dI 600, dI 900, dI 10, dI 1, dI 1, .row 61 7 [], .row 114 6 [], dI 0, dI 0] := by kernel_rfl
theorem ex1_N : N ex1 = .error (50, 9) := by kernel_rfl
theorem ex2_N : N ex2 = .ok [dI 1, dI 2, dI 3, dI 4, dI 5, .row 61 7 [[dS [97], .row 77 11 [[dS [104], dI 6, dI 7, dI 8, dI 9, dI 10, dI (-11), dI 12, dI 13, dI 14, dI 43]], .row 101 6 [], .row 105 3 [[dS [112], .row 9 1 [[dS [104]]], dI 123]], .row 109 1 [[.row 117 2 [[dB false, .row 9 1 [[dS [112]]]]]]], .row 112 3 [], dI 34]], .row 114 6 [], dI 0, dI 0] := by kernel_rfl
theorem by_new (w : World) (l : List UInt8) (t : TypeId) (fr : Nat × Nat) : By (w.alloc (.cells ((l.map fun x => Value.int .u8 (x.toNat : Int)).toArray) t fr)) (.slice (some ⟨w.heap.size, 0, none⟩) l.length l.length) l := by
  refine ⟨_, _, rfl, Nat.le_refl _, fun k hk => ⟨_, rfl, by simp, ?_⟩⟩
  rw [add_plain, Nat.zero_add, World.cell?_alloc_mark, List.getElem?_toArray, List.getElem?_map, List.getD_eq_getElem?_getD, List.getElem?_eq_getElem hk]
  rfl
/-- a text's bytes, as the program's text has them: marked behind their end -/
theorem conv_mark (w : World) (C : Array Value) (n : Nat) (hn : C.size = n) : (convert 22 22 (.slice (some ⟨w.heap.size, 0, none⟩) n n)).run Tryz.prog (w.alloc (.cells C 5)) = .ok (.slice (some ⟨w.heap.size, 0, none⟩) n n) (w.alloc (.cells C 5 (n, n + 1))) := by
  subst hn
  have hsh : (w.alloc (.cells C 5)).shape? w.heap.size = some (5, C.size) := by
    have : (w.alloc (.cells C 5)).heap[w.heap.size]? = some (.cells C 5) := by
      show (w.heap.push (.cells C 5))[w.heap.size]? = _
      simp
    unfold World.shape?
    rw [this]
  have hfr : (w.alloc (.cells C 5)).freeze ⟨w.heap.size, C.size, none⟩ 1 = w.alloc (.cells C 5 (C.size, C.size + 1)) := by
    have hm : ∀ (a : Array Obj) (x : Obj) (f : Obj → Obj), (a.push x).modify a.size f = a.push (f x) := by
      intro a x f
      apply Array.ext
      · simp
      · intro i h1 h2
        simp only [Array.getElem_modify, Array.getElem_push]
        by_cases h : a.size = i
        · subst h
          simp
        · have hi : i < a.size := by simp at h1; omega
          simp [h, hi]
    unfold World.freeze
    rw [if_neg (by decide)]
    show ({ w.alloc (.cells C 5) with heap := (w.heap.push (.cells C 5)).modify w.heap.size _ } : World) = _
    rw [hm]
    rfl
  simp [convert, run_underlying Tryz.underlying22, run_underlying Tryz.underlying5, markStringish, hsh]
  exact hfr
theorem by_ex0 (w : World) : By (w.alloc (.cells #[.int .u8 99, .int .u8 121, .int .u8 99, .int .u8 108, .int .u8 101, .int .u8 32, .int .u8 54, .int .u8 48, .int .u8 48, .int .u8 32, .int .u8 116, .int .u8 111, .int .u8 32, .int .u8 57, .int .u8 48, .int .u8 48, .int .u8 32, .int .u8 98, .int .u8 121, .int .u8 32, .int .u8 49, .int .u8 48, .int .u8 59, .int .u8 32, .int .u8 112, .int .u8 101, .int .u8 97, .int .u8 107, .int .u8 32, .int .u8 49, .int .u8 47, .int .u8 49, .int .u8 59] 5 (33, 34))) (.slice (some ⟨w.heap.size, 0, none⟩) 33 33) ex0 := by_new w ex0 5 (33, 34)
theorem by_ex1 (w : World) : By (w.alloc (.cells #[.int .u8 99, .int .u8 121, .int .u8 99, .int .u8 108, .int .u8 101, .int .u8 32, .int .u8 54, .int .u8 48, .int .u8 48, .int .u8 59] 5 (10, 11))) (.slice (some ⟨w.heap.size, 0, none⟩) 10 10) ex1 := by_new w ex1 5 (10, 11)
def ar2 : Array Value := (ex2.map fun x => Value.int .u8 (x.toNat : Int)).toArray
theorem ar2_size : ar2.size = 148 := by kernel_rfl
theorem by_ex2 (w : World) : By (w.alloc (.cells ar2 5 (148, 149))) (.slice (some ⟨w.heap.size, 0, none⟩) 148 148) ex2 := by_new w ex2 5 (148, 149)
/-- one thing of a row, in memory -/
theorem row_at {w : World} {e z : Nat} {L : List (List D)} {P : Nat → Prop} {v : Value} (h : Rd w (.row e z L) P v) {i : Nat} (hi : i < L.length) : ∃ g cap ys P', v = .slice (some ⟨g, 0, none⟩) L.length cap ∧ Rds w L[i] P' ys ∧ ∀ j u, ys[j]? = some u → w.cell? ⟨g, i * z + j, none⟩ = some u := by
  simp only [Rd] at h
  obtain ⟨xs, h1, h2, h3⟩ := h
  have hg : ∃ g cap, v = .slice (some ⟨g, 0, none⟩) L.length cap := by
    rcases h1.2 with ⟨_, h0⟩ | ⟨g, cap, _, rfl, _⟩
    · omega
    · exact ⟨g, cap, rfl⟩
  obtain ⟨g, cap, rfl⟩ := hg
  have hat : ∀ (L : List (List D)) (P : Nat → Prop) (xs : List Value) (i : Nat) (hi : i < L.length), Rdss w L P z xs → ∃ ys, Rds w L[i] P ys ∧ ∀ j u, ys[j]? = some u → xs[i * z + j]? = some u := by
    intro L
    induction L with
    | nil => intro P xs i hi; simp at hi
    | cons d L ih =>
      intro P xs i hi hr
      simp only [Rdss] at hr
      obtain ⟨ys, zs, rfl, e1, e2, e3⟩ := hr
      cases i with
      | zero =>
        refine ⟨ys, e2, fun j u hu => ?_⟩
        have hj : j < ys.length := by
          rcases Nat.lt_or_ge j ys.length with h | h
          · exact h
          · rw [List.getElem?_eq_none h] at hu; cases hu
        rw [Nat.zero_mul, Nat.zero_add, List.getElem?_append_left hj]
        exact hu
      | succ i =>
        obtain ⟨qs, f1, f2⟩ := ih P zs i (by simpa using hi) e3
        refine ⟨qs, f1, fun j u hu => ?_⟩
        rw [List.getElem?_append_right (by rw [e1, Nat.succ_mul]; omega)]
        rw [show (i + 1) * z + j - ys.length = i * z + j by rw [e1, Nat.succ_mul]; omega]
        exact f2 j u hu
  obtain ⟨ys, k1, k2⟩ := hat L _ xs i hi h3
  refine ⟨g, cap, ys, _, rfl, k1, fun j u hu => ?_⟩
  have := h1.cells (g := g) rfl (i * z + j) u (k2 j u hu)
  rwa [add_plain, Nat.zero_add] at this
theorem rds_cons {w : World} {d : D} {ds : List D} {P : Nat → Prop} {us : List Value} (h : Rds w (d :: ds) P us) : ∃ u vs, us = u :: vs ∧ Rd w d P u ∧ Rds w ds P vs := by simpa only [Rds] using h
theorem rds_nil {w : World} {P : Nat → Prop} {us : List Value} (h : Rds w [] P us) : us = [] := by simpa only [Rds] using h
end Go.Proofs.YtmplckdpddmifaaGreatDoor
namespace Go.Proofs.YtmplckdpddmifaaGreatDoor
open Go.RowKit
attribute [local go_sem ↓] Go.wp_at_zero Go.wp_at_succ
set_option linter.unusedVariables false
set_option linter.unusedSimpArgs false
set_option maxRecDepth 100000
theorem rd_int {w : World} {n : Int} {P : Nat → Prop} {u : Value} (h : Rd w (dI n) P u) : u = .int .i64 n := h.1
theorem rd_row {w : World} {e z : Nat} {L : List (List D)} {P : Nat → Prop} {u : Value} (h : Rd w (.row e z L) P u) : ∃ a c, u = .slice a L.length c := by
  obtain ⟨a, c, xs, h, _⟩ := row_shape h
  exact ⟨a, c, h⟩
theorem open_nine {w : World} {c0 c1 c2 c3 c4 c5 c6 c7 c8 : D} {P : Nat → Prop} {u0 u1 u2 u3 u4 u5 u6 u7 u8 : Value} (h : Rds w [c0, c1, c2, c3, c4, c5, c6, c7, c8] P [u0, u1, u2, u3, u4, u5, u6, u7, u8]) : Rd w c0 P u0 ∧ Rd w c1 P u1 ∧ Rd w c2 P u2 ∧ Rd w c3 P u3 ∧ Rd w c4 P u4 ∧ Rd w c5 P u5 ∧ Rd w c6 P u6 ∧ Rd w c7 P u7 ∧ Rd w c8 P u8 := by
  simp only [Rds] at h
  obtain ⟨_, _, e, h0, _, _, e1, h1, _, _, e2, h2, _, _, e3, h3, _, _, e4, h4, _, _, e5, h5, _, _, e6, h6, _, _, e7, h7, _, _, e8, h8, _⟩ := h
  simp_all
theorem wpList_exec {P : Program} {ops : Array Oper} {Q : Exit → Act → World → Prop} {o : Oper} {rest : List Oper} {a : Act} {w w' : World} {v : Value} (hg : o.guard = none) (hr : (execOp a.eval o).run P w = .ok (.value v) w') (h : wpList P ops Q rest (a.put o.dst v) w') : wpList P ops Q (o :: rest) a w :=
  wpList_plain hg fun K hK => by
    unfold Oper.wp
    rw [hr]
    exact hK _ _ h
set_option maxHeartbeats 8000000 in
theorem awake_core (w : World)
    (T0 : Hid (∀ w' v, Keep w w' → By w' v ex0 → Calls Tryz.prog 5 #[v] w' (ParseP (N ex0) w')))
    (T1 : Hid (∀ w' v, Keep w w' → By w' v ex1 → Calls Tryz.prog 5 #[v] w' (ParseP (N ex1) w')))
    (T2 : Hid (∀ w' v, Keep w w' → By w' v ex2 → Calls Tryz.prog 5 #[v] w' (ParseP (N ex2) w'))) :
    Calls Tryz.prog 8 #[] w fun e w' => e = .returned (.bool true) ∧ Keep w w' := by
  have hcv0 := fun w => conv_mark w #[.int .u8 99, .int .u8 121, .int .u8 99, .int .u8 108, .int .u8 101, .int .u8 32, .int .u8 54, .int .u8 48, .int .u8 48, .int .u8 32, .int .u8 116, .int .u8 111, .int .u8 32, .int .u8 57, .int .u8 48, .int .u8 48, .int .u8 32, .int .u8 98, .int .u8 121, .int .u8 32, .int .u8 49, .int .u8 48, .int .u8 59, .int .u8 32, .int .u8 112, .int .u8 101, .int .u8 97, .int .u8 107, .int .u8 32, .int .u8 49, .int .u8 47, .int .u8 49, .int .u8 59] 33 rfl
  have hcv1 := fun w => conv_mark w #[.int .u8 99, .int .u8 121, .int .u8 99, .int .u8 108, .int .u8 101, .int .u8 32, .int .u8 54, .int .u8 48, .int .u8 48, .int .u8 59] 10 rfl
  have hcv2 := fun w => conv_mark w ar2 148 ar2_size
  have K0 := hide (Keep.refl w)
  go_enter Tryz.func8, Tryz.ntmps8
  go_wp2_with fail
  (refine ((uq T0) _ _ ((uq K0).alloc _) (by_ex0 _)).mono ?_; rintro e w1 hp)
  rw [ex0_N] at hp
  obtain ⟨hk, u0, u1, u2, u3, u4, u5, u6, u7, u8, rfl, hon, hrd⟩ := hp
  obtain ⟨h0, h1, h2, h3, h4, h5, h6, h7, h8⟩ := open_nine hrd
  obtain rfl := rd_int h0
  obtain rfl := rd_int h1
  obtain rfl := rd_int h2
  obtain rfl := rd_int h3
  obtain rfl := rd_int h4
  obtain ⟨a5, c5, rfl⟩ := rd_row h5
  obtain ⟨a6, c6, rfl⟩ := rd_row h6
  obtain rfl := rd_int h7
  obtain rfl := rd_int h8
  replace K0 := hide (((uq K0).alloc _).trans hk)
  clear hk hon hrd h0 h1 h2 h3 h4 h5 h6 h7 h8
  go_upto_region 2 with fail
  have m1 := hide ((uq K0).alloc (.cells #[.int .i64 600, .int .i64 900, .int .i64 10, .int .i64 1, .int .i64 1, .slice a5 0 c5, .slice a6 0 c6, .int .i64 0, .int .i64 0] 28))
  have m2 : Hid ((w1.alloc (.cells #[.int .i64 600, .int .i64 900, .int .i64 10, .int .i64 1, .int .i64 1, .slice a5 0 c5, .slice a6 0 c6, .int .i64 0, .int .i64 0] 28)).cell? ⟨w1.heap.size, 1, none⟩ = some (.int .i64 900)) := hide (by simp [go_sem])
  generalize w1.alloc (.cells #[.int .i64 600, .int .i64 900, .int .i64 10, .int .i64 1, .int .i64 1, .slice a5 0 c5, .slice a6 0 c6, .int .i64 0, .int .i64 0] 28) = wa at m1 m2 ⊢
  generalize w1.heap.size = b1 at m2 ⊢
  clear K0 hcv0
  have hcv := hcv1 wa
  go_wp2_with fail
  (refine ((uq T1) _ _ ((uq m1).alloc _) (by_ex1 _)).mono ?_; rintro e w2 hp)
  rw [ex1_N] at hp
  obtain ⟨hk, rfl⟩ := hp
  have m3 := hide (((uq m1).alloc _).trans hk)
  have m4 := hide (Keep.cell' (((Keep.refl wa).alloc _).trans hk) (uq m2))
  clear hk m1 m2 hcv hcv1
  go_upto_region 3 with fail
  have m5 := hide ((uq m3).alloc (.cells #[.int .i64 0, .int .i64 0, .int .i64 0, .int .i64 0, .int .i64 0, .slice none 0 0, .slice none 0 0, .int .i64 0, .int .i64 0] 28))
  have m6 := hide (((Keep.refl w2).alloc (.cells #[.int .i64 0, .int .i64 0, .int .i64 0, .int .i64 0, .int .i64 0, .slice none 0 0, .slice none 0 0, .int .i64 0, .int .i64 0] 28)).cell' (uq m4))
  generalize w2.alloc (.cells #[.int .i64 0, .int .i64 0, .int .i64 0, .int .i64 0, .int .i64 0, .slice none 0 0, .slice none 0 0, .int .i64 0, .int .i64 0] 28) = wb at m5 m6 ⊢
  clear m3 m4
  have hcv := hcv2 wb
  refine wp_region_lit ?_
  refine wpList_exec rfl (v := .slice (some ⟨wb.heap.size, 0, none⟩) 148 148) (w' := wb.alloc (.cells ar2 5)) (by kernel_rfl) ?_
  try simp only [Act.put, List.setIfInBounds_toArray, List.set_cons_zero, List.set_cons_succ]
  go_wp2_with fail
  (refine ((uq T2) _ _ ((uq m5).alloc _) (by_ex2 _)).mono ?_; rintro e w3 hp)
  rw [ex2_N] at hp
  obtain ⟨hk, u0, u1, u2, u3, u4, u5, u6, u7, u8, rfl, hon, hrd⟩ := hp
  have m7 := hide (((uq m5).alloc _).trans hk)
  have m8 := hide (Keep.cell' (((Keep.refl wb).alloc _).trans hk) (uq m6))
  clear hk m5 m6 hcv hcv2 hon
  obtain ⟨h0, h1, h2, h3, h4, h5, h6, h7, h8⟩ := open_nine hrd
  obtain rfl := rd_int h0
  obtain rfl := rd_int h1
  obtain rfl := rd_int h2
  obtain rfl := rd_int h3
  obtain rfl := rd_int h4
  obtain ⟨g5, q5, ys5, P5, rfl, k5, j5⟩ := row_at h5 (i := 0) (by decide)
  obtain ⟨a6', c6', rfl⟩ := rd_row h6
  obtain rfl := rd_int h7
  obtain rfl := rd_int h8
  obtain ⟨n0, ns0, rfl, _, k5⟩ := rds_cons k5
  obtain ⟨n1, ns1, rfl, kh, _⟩ := rds_cons k5
  obtain ⟨g6, q6, ys6, P6, rfl, k6, j6⟩ := row_at kh (i := 0) (by decide)
  obtain ⟨f0, fs0, rfl, _, k6⟩ := rds_cons k6
  obtain ⟨f1, fs1, rfl, _, k6⟩ := rds_cons k6
  obtain ⟨f2, fs2, rfl, _, k6⟩ := rds_cons k6
  obtain ⟨f3, fs3, rfl, _, k6⟩ := rds_cons k6
  obtain ⟨f4, fs4, rfl, _, k6⟩ := rds_cons k6
  obtain ⟨f5, fs5, rfl, _, k6⟩ := rds_cons k6
  obtain ⟨f6, fs6, rfl, kg, k6⟩ := rds_cons k6
  obtain rfl := rd_int kg
  have i5 := j5 1 _ rfl
  have i6 := j6 6 _ rfl
  simp only [Nat.zero_mul, Nat.zero_add, List.length_cons, List.length_nil] at i5 i6 ⊢
  have z5 : ∀ o, (w3.alloc o).cell? ⟨g5, 1, none⟩ = some (.slice (some ⟨g6, 0, none⟩) 1 q6) := fun o => ((Keep.refl w3).alloc o).cell' i5
  have z6 : ∀ o, (w3.alloc o).cell? ⟨g6, 6, none⟩ = some (.int .i64 (-11)) := fun o => ((Keep.refl w3).alloc o).cell' i6
  have z7 : ∀ o, (w3.alloc o).cell? ⟨b1, 1, none⟩ = some (.int .i64 900) := fun o => ((Keep.refl w3).alloc o).cell' (uq m8)
  have M7 := m7
  clear h0 h1 h2 h3 h4 h5 h6 h7 h8 hrd i5 i6 j5 j6 k5 k6 kh kg m8
  go_wp2_with fail
  go_ret
  exact ⟨rfl, (uq M7).alloc _⟩
theorem awake_any (w : World) (hg : Gl w) : Calls Tryz.prog 8 #[] w fun e w' => e = .returned (.bool true) ∧ Keep w w' :=
  awake_core w (hide fun w' v hk h => parse_any v ex0 w' (by decide) h (hg.keep hk)) (hide fun w' v hk h => parse_any v ex1 w' (by decide) h (hg.keep hk)) (hide fun w' v hk h => parse_any v ex2 w' (by decide) h (hg.keep hk))
end Go.Proofs.YtmplckdpddmifaaGreatDoor
