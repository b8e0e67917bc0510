/- Layer 9's laws over letters. -/
import Derived.Test.YtnegcifbbbmlnaaDoorDMath
import Derived.Test.YtnegcifbbbmlnaaDoorExt
import Derived.Deep.DrawnRows
import Derived.Deep.RegionHeld
namespace Go.Proofs.YtnegcifbbbmlnaaDoor
open Go.RowKit
attribute [local go_sem ↓] Go.wp_at_zero Go.wp_at_succ
set_option linter.unusedVariables false
set_option linter.unusedSimpArgs false
set_option maxRecDepth 10000
namespace W
theorem cl_9 {w w' : World} (k : Keep w w') {a : Addr} {v : Value} (h : w.cell? a = some v) : w'.cell? a = some v := by rw [Below.cell k (World.block_lt_of_cell? w a h)]; exact h
theorem keep_s9 {a w : World} (b i : Nat) (v : Value) (hb : a.heap.size ≤ b) (h : Keep a w) : Keep a (w.setCell ⟨b, i, none⟩ v) := Below.setCell h hb v
set_option maxHeartbeats 4000000 in
theorem awake_core (w : World)
    (T1 : Hid (∀ w, Calls Tryd.prog 7 #[.agg #[.string ⟨#[]⟩, .int .i64 400, .int .i64 1800, .int .i64 21, .int .i64 20, .int .i64 0, .int .i64 0, .int .i64 0, .int .i64 0, .int .i64 0, .int .i64 0], .agg #[.int .i64 9, .int .i64 10]] w fun e w' => e = .returned (.tuple #[.agg #[.int .i64 1400, .int .i64 3], .int .i64 0]) ∧ Keep w w'))
    (T2 : Hid (∀ w, Calls Tryd.prog 9 #[.agg #[.string ⟨#[]⟩, .int .i64 400, .int .i64 1800, .int .i64 21, .int .i64 20, .int .i64 0, .int .i64 0, .int .i64 0, .int .i64 0, .int .i64 0, .int .i64 0], .agg #[.int .i64 9, .int .i64 10]] w fun e w' => e = .returned (.tuple #[.agg #[.int .i64 7, .int .i64 27], .int .i64 0]) ∧ Keep w w'))
    (T3 : Hid (∀ w', Keep w w' → Calls Tryd.prog 12 #[.agg #[.int .i64 7, .int .i64 27], .int .i64 3] w' fun e w'' => e = .returned (.tuple #[.string ⟨#[48, 46, 50, 53, 57]⟩, .int .i64 0]) ∧ Keep w' w'')) :
    Calls Tryd.prog 11 #[] w fun e w' => e = .returned (.bool true) ∧ Keep w w' := by
  go_enter Tryd.func11, Tryd.ntmps11
  go_wp2_with fail
  (refine ((unhide T1) _).mono ?_; rintro e w2 ⟨rfl, hk⟩; obtain ⟨o1, k1, rfl⟩ := hk.ext; clear hk)
  go_wp2_with fail
  (refine ((unhide T2) _).mono ?_; rintro e w2 ⟨rfl, hk⟩; obtain ⟨o2, k2, rfl⟩ := hk.ext; clear hk)
  go_wp2_with fail
  (refine ((unhide T3) _ (by repeat (first | (with_reducible exact Keep.refl _) | apply keep_ext | apply Keep.alloc | apply Keep.drew))).mono ?_; rintro e w2 ⟨rfl, hk⟩; obtain ⟨o3, k3, rfl⟩ := hk.ext; clear hk)
  go_wp2_with fail
  go_ret
  exact ⟨rfl, by repeat (first | (with_reducible exact Keep.refl _) | apply keep_ext | apply Keep.alloc | apply Keep.drew)⟩
end W
end Go.Proofs.YtnegcifbbbmlnaaDoor
