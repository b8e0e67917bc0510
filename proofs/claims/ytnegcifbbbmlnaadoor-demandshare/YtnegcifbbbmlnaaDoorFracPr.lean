/- Package frac: the text of any fraction. -/
import Derived.Test.YtnegcifbbbmlnaaDoorRefO
import Derived.Test.YtnegcifbbbmlnaaDoorFracE
import Derived.Lib.LaidTab
import Derived.Lib.LaidU8
import Derived.WalkSmall
namespace Go.Proofs.YtnegcifbbbmlnaaDoor
open Go.RowKit
attribute [local go_sem ↓] Go.wp_at_zero Go.wp_at_succ
set_option linter.unusedVariables false
set_option linter.unusedSimpArgs false
set_option maxRecDepth 10000
/-- the table of the powers of ten, as the program's text lays it -/
def Tab (w : World) : Prop := Lib.TabIs Tryd.prog w "internal/strconv.uint64pow10" .u64 Lib.pow10Tab
theorem Tab.keep {w w' : World} (h : Tab w) (hk : Keep w w') : Tab w' := by
  cases hg : Tryd.prog.globalNamed "internal/strconv.uint64pow10" with
  | none =>
    unfold Tab Lib.TabIs World.var? at h
    rw [hg] at h
    simp at h
  | some g =>
    have hlt : g < w.heap.size := by
      unfold Tab Lib.TabIs World.var? at h
      simp only [hg, Option.bind_some] at h
      by_cases hc : g < w.heap.size
      · exact hc
      · rw [Array.getElem?_eq_none (by omega)] at h
        simp at h
    exact var?_below hk hg hlt h
theorem drewN_heap (w : World) (k : Nat) : (w.drewN k).heap = w.heap := by
  first | rfl | simp [World.drewN]
theorem keep_grow (w : World) (k : Nat) (os : Array Obj) : Keep w (Sort.grow (w.drewN k) os) := by
  have e := drewN_heap w k
  refine ⟨?_, ?_, ?_, ?_, fun i hi => ?_⟩
  · first | rfl | simp [Sort.grow, World.drewN]
  · first | rfl | simp [Sort.grow, World.drewN]
  · first | rfl | simp [Sort.grow, World.drewN]
  · simp [Sort.grow, e]
  · simp only [Sort.grow, e]
    rw [Array.getElem?_append_left hi]
theorem fmt_any (n : Int) (w : World) (ht : Tab w) (h1 : -9223372036854775808 ≤ n) (h2 : n ≤ 9223372036854775807) :
    Calls Tryd.prog 56 #[.int .i64 n, .int .i64 10] w fun e w' => e = .returned (.string ⟨(Lib.itoa n).toArray⟩) ∧ Keep w w' := by
  refine (Tryd.strconv_FormatInt_10 n h1 h2 w ht).mono ?_
  rintro e w' ⟨rfl, k, os, rfl⟩
  exact ⟨rfl, keep_grow w k os⟩
end Go.Proofs.YtnegcifbbbmlnaaDoor
