/- The document's answer for fractions: few, and products. -/
import Derived.Test.YtdgmndjofbdgeaaRefK
namespace Go.Proofs.Ytdgmndjofbdgeaa
open Go.RowKit
attribute [local go_sem ↓] Go.wp_at_zero Go.wp_at_succ
set_option linter.unusedVariables false
set_option linter.unusedSimpArgs false
set_option maxRecDepth 10000
/-- have two fractions small parts? -/
def fewB (n d n2 d2 : Int) : Bool := decide (n.natAbs < 1073741824 ∧ n2.natAbs < 1073741824 ∧ d < 1073741824 ∧ d2 < 1073741824)
set_option maxHeartbeats 400000 in
theorem few_0 (n d n2 d2 u u2 : Int) (w : World) (h : ¬ u < 1073741824) (Sz : Int → Int → Prop) (S1 : Sz n u) (S2 : Sz n2 u2)
    (T1 : Hid (∀ (n x : Int), Sz n x → ∀ w, Calls Try.prog 36 #[.int .i64 n] w fun e w' => e = .returned (.int .u64 x) ∧ w' = w)) :
    Calls Try.prog 32 #[.agg #[.int .i64 n, .int .i64 d], .agg #[.int .i64 n2, .int .i64 d2]] w fun e w' => e = .returned (.bool false) ∧ Keep w w' := by
  go_enter Try.func32, Try.ntmps32
  go_wp2_with fail
  refine ((uq T1) _ _ S1 _).mono ?_
  rintro e w2 ⟨rfl, rfl⟩
  go_wp2
  go_ret
  exact ⟨rfl, by repeat (first | apply keep_ext | apply Keep.alloc | apply Keep.drew | exact Keep.refl _)⟩
set_option maxHeartbeats 400000 in
theorem few_1 (n d n2 d2 u u2 : Int) (w : World) (h1 : u < 1073741824) (h : ¬ u2 < 1073741824) (Sz : Int → Int → Prop) (S1 : Sz n u) (S2 : Sz n2 u2)
    (T1 : Hid (∀ (n x : Int), Sz n x → ∀ w, Calls Try.prog 36 #[.int .i64 n] w fun e w' => e = .returned (.int .u64 x) ∧ w' = w)) :
    Calls Try.prog 32 #[.agg #[.int .i64 n, .int .i64 d], .agg #[.int .i64 n2, .int .i64 d2]] w fun e w' => e = .returned (.bool false) ∧ Keep w w' := by
  go_enter Try.func32, Try.ntmps32
  go_wp2_with fail
  refine ((uq T1) _ _ S1 _).mono ?_
  rintro e w2 ⟨rfl, rfl⟩
  go_wp2_with fail
  refine ((uq T1) _ _ S2 _).mono ?_
  rintro e w2 ⟨rfl, rfl⟩
  go_wp2
  go_ret
  exact ⟨rfl, by repeat (first | apply keep_ext | apply Keep.alloc | apply Keep.drew | exact Keep.refl _)⟩
set_option maxHeartbeats 400000 in
theorem few_2 (n d n2 d2 u u2 : Int) (w : World) (h1 : u < 1073741824) (h2 : u2 < 1073741824) (h : ¬ d < 1073741824) (Sz : Int → Int → Prop) (S1 : Sz n u) (S2 : Sz n2 u2)
    (T1 : Hid (∀ (n x : Int), Sz n x → ∀ w, Calls Try.prog 36 #[.int .i64 n] w fun e w' => e = .returned (.int .u64 x) ∧ w' = w)) :
    Calls Try.prog 32 #[.agg #[.int .i64 n, .int .i64 d], .agg #[.int .i64 n2, .int .i64 d2]] w fun e w' => e = .returned (.bool false) ∧ Keep w w' := by
  go_enter Try.func32, Try.ntmps32
  go_wp2_with fail
  refine ((uq T1) _ _ S1 _).mono ?_
  rintro e w2 ⟨rfl, rfl⟩
  go_wp2_with fail
  refine ((uq T1) _ _ S2 _).mono ?_
  rintro e w2 ⟨rfl, rfl⟩
  go_wp2
  go_ret
  exact ⟨rfl, by repeat (first | apply keep_ext | apply Keep.alloc | apply Keep.drew | exact Keep.refl _)⟩
set_option maxHeartbeats 400000 in
theorem few_3 (n d n2 d2 u u2 : Int) (w : World) (h1 : u < 1073741824) (h2 : u2 < 1073741824) (h3 : d < 1073741824) (h : ¬ d2 < 1073741824) (Sz : Int → Int → Prop) (S1 : Sz n u) (S2 : Sz n2 u2)
    (T1 : Hid (∀ (n x : Int), Sz n x → ∀ w, Calls Try.prog 36 #[.int .i64 n] w fun e w' => e = .returned (.int .u64 x) ∧ w' = w)) :
    Calls Try.prog 32 #[.agg #[.int .i64 n, .int .i64 d], .agg #[.int .i64 n2, .int .i64 d2]] w fun e w' => e = .returned (.bool false) ∧ Keep w w' := by
  have hb : decide (d2 < 1073741824) = false := by simpa using h
  go_enter Try.func32, Try.ntmps32
  go_wp2_with fail
  refine ((uq T1) _ _ S1 _).mono ?_
  rintro e w2 ⟨rfl, rfl⟩
  go_wp2_with fail
  refine ((uq T1) _ _ S2 _).mono ?_
  rintro e w2 ⟨rfl, rfl⟩
  go_wp2
  go_ret
  exact ⟨rfl, by repeat (first | apply keep_ext | apply Keep.alloc | apply Keep.drew | exact Keep.refl _)⟩
set_option maxHeartbeats 400000 in
theorem few_4 (n d n2 d2 u u2 : Int) (w : World) (h1 : u < 1073741824) (h2 : u2 < 1073741824) (h3 : d < 1073741824) (h : d2 < 1073741824) (Sz : Int → Int → Prop) (S1 : Sz n u) (S2 : Sz n2 u2)
    (T1 : Hid (∀ (n x : Int), Sz n x → ∀ w, Calls Try.prog 36 #[.int .i64 n] w fun e w' => e = .returned (.int .u64 x) ∧ w' = w)) :
    Calls Try.prog 32 #[.agg #[.int .i64 n, .int .i64 d], .agg #[.int .i64 n2, .int .i64 d2]] w fun e w' => e = .returned (.bool true) ∧ Keep w w' := by
  go_enter Try.func32, Try.ntmps32
  go_wp2_with fail
  refine ((uq T1) _ _ S1 _).mono ?_
  rintro e w2 ⟨rfl, rfl⟩
  go_wp2_with fail
  refine ((uq T1) _ _ S2 _).mono ?_
  rintro e w2 ⟨rfl, rfl⟩
  go_wp2
  go_ret
  exact ⟨rfl, by repeat (first | apply keep_ext | apply Keep.alloc | apply Keep.drew | exact Keep.refl _)⟩
theorem few_any (n d n2 d2 : Int) (w : World) (h1 : -9223372036854775808 ≤ n) (h2 : n ≤ 9223372036854775807) (k1 : -9223372036854775808 ≤ n2) (k2 : n2 ≤ 9223372036854775807) :
    Calls Try.prog 32 #[.agg #[.int .i64 n, .int .i64 d], .agg #[.int .i64 n2, .int .i64 d2]] w fun e w' => e = .returned (.bool (fewB n d n2 d2)) ∧ Keep w w' := by
  have A := fun w => rsize_any n w h1 h2
  have B := fun w => rsize_any n2 w k1 k2
  by_cases a1 : (n.natAbs : Int) < 1073741824
  · by_cases a2 : (n2.natAbs : Int) < 1073741824
    · by_cases a3 : d < 1073741824
      · by_cases a4 : d2 < 1073741824
        · rw [show fewB n d n2 d2 = true by simp only [fewB, decide_eq_true_eq]; omega]
          exact few_4 n d n2 d2 _ _ w a1 a2 a3 a4 (fun n x => ∀ w, Calls Try.prog 36 #[.int .i64 n] w fun e w' => e = .returned (.int .u64 x) ∧ w' = w) A B (hide fun n x h => h)
        · rw [show fewB n d n2 d2 = false by simp only [fewB, decide_eq_false_iff_not]; omega]
          exact few_3 n d n2 d2 _ _ w a1 a2 a3 a4 (fun n x => ∀ w, Calls Try.prog 36 #[.int .i64 n] w fun e w' => e = .returned (.int .u64 x) ∧ w' = w) A B (hide fun n x h => h)
      · rw [show fewB n d n2 d2 = false by simp only [fewB, decide_eq_false_iff_not]; omega]
        exact few_2 n d n2 d2 _ _ w a1 a2 a3 (fun n x => ∀ w, Calls Try.prog 36 #[.int .i64 n] w fun e w' => e = .returned (.int .u64 x) ∧ w' = w) A B (hide fun n x h => h)
    · rw [show fewB n d n2 d2 = false by simp only [fewB, decide_eq_false_iff_not]; omega]
      exact few_1 n d n2 d2 _ _ w a1 a2 (fun n x => ∀ w, Calls Try.prog 36 #[.int .i64 n] w fun e w' => e = .returned (.int .u64 x) ∧ w' = w) A B (hide fun n x h => h)
  · rw [show fewB n d n2 d2 = false by simp only [fewB, decide_eq_false_iff_not]; omega]
    exact few_0 n d n2 d2 _ _ w a1 (fun n x => ∀ w, Calls Try.prog 36 #[.int .i64 n] w fun e w' => e = .returned (.int .u64 x) ∧ w' = w) A B (hide fun n x h => h)
/-- the two parameters and the result as they lie in memory -/
def Fa (w wc : World) (x y x2 y2 : Int) : Prop :=
  Keep w wc ∧ w.heap.size + 1 + 1 < wc.heap.size
  ∧ wc.cell? ⟨w.heap.size, 0, none⟩ = some (.int .i64 x) ∧ wc.cell? ⟨w.heap.size, 1, none⟩ = some (.int .i64 y) ∧ wc.cell? ⟨w.heap.size + 1, 0, none⟩ = some (.int .i64 x2) ∧ wc.cell? ⟨w.heap.size + 1, 1, none⟩ = some (.int .i64 y2)
  ∧ wc.cell? ⟨w.heap.size + 1 + 1, 0, none⟩ = some (.int .i64 0) ∧ wc.cell? ⟨w.heap.size + 1 + 1, 1, none⟩ = some (.int .i64 0)
  ∧ wc.frozen? ⟨w.heap.size + 1 + 1, 0, none⟩ = false ∧ wc.frozen? ⟨w.heap.size + 1 + 1, 1, none⟩ = false
theorem Fa.keep {w wc w' : World} {x y x2 y2 : Int} (h : Fa w wc x y x2 y2) (hk : Keep wc w') : Fa w w' x y x2 y2 := by
  obtain ⟨h1, h2, h3, h4, h5, h6, h7, h8, h9, h10⟩ := h
  have hs := Below.size hk
  refine ⟨h1.trans hk, by omega, ?_, ?_, ?_, ?_, ?_, ?_, ?_, ?_⟩
  · rw [Below.cell (p := ⟨w.heap.size, 0, none⟩) hk (by simp; omega)]; exact h3
  · rw [Below.cell (p := ⟨w.heap.size, 1, none⟩) hk (by simp; omega)]; exact h4
  · rw [Below.cell (p := ⟨w.heap.size + 1, 0, none⟩) hk (by simp; omega)]; exact h5
  · rw [Below.cell (p := ⟨w.heap.size + 1, 1, none⟩) hk (by simp; omega)]; exact h6
  · rw [Below.cell (p := ⟨w.heap.size + 1 + 1, 0, none⟩) hk (by simp; omega)]; exact h7
  · rw [Below.cell (p := ⟨w.heap.size + 1 + 1, 1, none⟩) hk (by simp; omega)]; exact h8
  · rw [Below.frozen (p := ⟨w.heap.size + 1 + 1, 0, none⟩) hk (by simp; omega)]; exact h9
  · rw [Below.frozen (p := ⟨w.heap.size + 1 + 1, 1, none⟩) hk (by simp; omega)]; exact h10
theorem Fa.cells {w wc : World} {x y x2 y2 : Int} (h : Fa w wc x y x2 y2) : wc.cell? ⟨w.heap.size, 0, none⟩ = some (.int .i64 x) ∧ wc.cell? ⟨w.heap.size, 1, none⟩ = some (.int .i64 y) ∧ wc.cell? ⟨w.heap.size + 1, 0, none⟩ = some (.int .i64 x2) ∧ wc.cell? ⟨w.heap.size + 1, 1, none⟩ = some (.int .i64 y2) :=
  ⟨h.2.2.1, h.2.2.2.1, h.2.2.2.2.1, h.2.2.2.2.2.1⟩
theorem Fa.drew {w wc : World} {x y x2 y2 : Int} (h : Fa w wc x y x2 y2) : Fa w wc.drew x y x2 y2 := h.keep ((Keep.refl _).drew)
theorem fa_start (w : World) (os : Array Obj) (k : Nat) (T : TypeId) (x y x2 y2 : Int) :
    Fa w (ext (((w.alloc (.cells #[.int .i64 x, .int .i64 y] T)).alloc (.cells #[.int .i64 x2, .int .i64 y2] T)).alloc (.cells #[.int .i64 0, .int .i64 0] T)) os k) x y x2 y2 := by
  refine ⟨by repeat (first | apply keep_ext | apply Keep.alloc | exact Keep.refl _), by simp; omega, ?_, ?_, ?_, ?_, ?_, ?_, ?_, ?_⟩ <;> simp [go_sem]
end Go.Proofs.Ytdgmndjofbdgeaa
