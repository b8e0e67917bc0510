/- The words that are used: package lex and the document. -/
import Derived.Test.YtmplckdpddmifaaGreatDoorLTok
namespace Go.Proofs.YtmplckdpddmifaaGreatDoor
open Go.RowKit
attribute [local go_sem ↓] Go.wp_at_zero Go.wp_at_succ
set_option linter.unusedVariables false
set_option linter.unusedSimpArgs false
set_option maxRecDepth 10000
/-- the words -/
def words : List (List UInt8) := [[99, 121, 99, 108, 101], [116, 111], [98, 121], [112, 101, 97, 107], [110, 111, 100, 101], [104, 101, 97, 100], [118, 111, 108, 117, 109, 101], [102, 108, 111, 119], [117, 115, 101], [115, 112, 101, 101, 100], [103, 114, 97, 100, 101], [119, 105, 100, 116, 104], [108, 101, 110, 103, 116, 104], [103, 114, 101, 101, 110], [119, 97, 108, 107], [119, 105, 116, 104], [108, 111, 110, 103], [112, 97, 99, 101], [108, 101, 97, 115, 116], [112, 104, 97, 115, 101], [103, 114, 111, 117, 112], [114, 105, 110, 103], [102, 114, 101, 101], [102, 111, 101], [97, 114, 116, 101, 114, 121], [115, 116, 111, 112], [111, 117, 116], [105, 110], [97, 104, 101, 97, 100], [98, 97, 99, 107], [119, 101, 105, 103, 104, 116, 115], [112, 108, 97, 110], [111, 102, 102, 115, 101, 116], [115, 117, 109], [115, 112, 108, 105, 116], [121, 101, 108, 108, 111, 119], [114, 101, 100], [102, 108, 97, 115, 104], [98, 101, 115, 116], [121, 101, 115], [110, 111], [115, 112, 101, 110, 116]]
theorem words_yes {L X : List UInt8} (h : (L == X) = true) (hx : decide (X ∈ words) = true) : true = decide (L ∈ words) := by rw [eq_of_beq h, hx]
theorem words_con {L X : List UInt8} {b : Bool} (h : (L == X) = true) (h2 : (L == X) = false) : false = b := by rw [h] at h2; cases h2
set_option maxHeartbeats 4000000 in
theorem res_any (s : ByteArray) (w : World) : Calls Tryz.prog 92 #[.string s] w fun e w' => e = .returned (.bool (decide (s.toList ∈ words))) ∧ w' = w := by
  go_enter Tryz.func92, Tryz.ntmps92
  go_wp2_with fail
  all_goals (go_ret; refine ⟨bool_ret ?_, rfl⟩; first | exact words_yes ‹_› (by decide) | exact words_con ‹_› ‹_› | (simp only [beq_eq_false_iff_ne, ne_eq] at *; simp [words, *]))
end Go.Proofs.YtmplckdpddmifaaGreatDoor
