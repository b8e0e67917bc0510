/- Two readings of one row are the same; how long rows are. -/
import Derived.Test.YteiogijopngohaaOdH
import Derived.Test.YteiogijopngohaaOdW
namespace Go.Proofs.Yteiogijopngohaa
set_option linter.unusedVariables false
set_option linter.unusedSimpArgs false
set_option maxRecDepth 10000
namespace Od
theorem same_selfR (v u : Value) (L : List Int) (w : World) (h : Is w v L) (g : Is w u L) (hn : L.length ≤ 1000000) : Calls Try.prog 11 #[v, u] w fun e w' => e = .returned (.bool true) ∧ Keep w w' := by
  have := same_any v u L L w h g hn hn
  rw [decide_eq_true (rfl : L = L)] at this
  exact this
theorem nth_short (n k : Int) : (nth n k).length ≤ 8 := by
  by_cases h : 0 ≤ k ∧ k < cnt n
  · obtain ⟨m, i, rfl, rfl, h8, hi⟩ := isO_nat h
    rw [(nth_rank h8 hi).2.2]; exact h8
  · rw [nth_no h]; simp
theorem nxL_short (L : List Int) : (nxL L).length ≤ 8 := by
  unfold nxL
  split
  · exact nth_short _ _
  · simp
theorem tnL_short (L : List Int) : (tnL L).length ≤ L.length := by
  unfold tnL
  split
  · rw [tl_len]; exact Nat.le_refl _
  · simp
end Od
end Go.Proofs.Yteiogijopngohaa
