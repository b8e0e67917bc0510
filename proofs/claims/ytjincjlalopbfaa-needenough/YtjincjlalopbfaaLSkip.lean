/- A world with later blocks: what a callee leaves that turns nothing. The walk goes past them. -/
import Derived.Test.YtjincjlalopbfaaLMath
import Derived.WalkKit
import Derived.ProofKit
import Derived.Test.YtjincjlalopbfaaProg
import Derived.Deep.DrawnRows
import Derived.Laws.AppendOwn
import Derived.Laws.OwnMore
import Derived.Laws.IdiomStrings
import Derived.OwnWalk
import Derived.LoopTactic
import Derived.Deep.DeepCutAuto
namespace Go.Proofs.Ytjincjlalopbfaa
open Go.RowKit
set_option linter.unusedVariables false
/-- the world with later blocks, so many numbers drawn -/
def ext (w : World) (os : Array Obj) (k : Nat) : World := { w with heap := w.heap ++ os, drawn := k }
theorem Keep.ext {w w' : World} (h : Keep w w') : ∃ os k, w' = ext w os k := by
  obtain ⟨h1, h2, h3, h4, h5⟩ := h
  refine ⟨w'.heap.extract w.heap.size w'.heap.size, w'.drawn, ?_⟩
  have e : w'.heap = w.heap ++ w'.heap.extract w.heap.size w'.heap.size := by
    apply Array.ext_getElem?
    intro i
    by_cases hi : i < w.heap.size
    · rw [h5 i hi, Array.getElem?_append_left hi]
    · rw [Array.getElem?_append_right (by omega), Array.getElem?_extract]
      by_cases h6 : i < w'.heap.size
      · rw [if_pos (by omega)]
        congr 1; omega
      · rw [if_neg (by omega), Array.getElem?_eq_none (by omega)]
  obtain ⟨a, b, c, d, f⟩ := w'
  obtain ⟨a', b', c', d', f'⟩ := w
  simp only at h1 h2 h3 e
  subst h1 h2 h3
  simp only [Proofs.Ytjincjlalopbfaa.ext]
  rw [← e]
theorem keep_ext {a w : World} (h : Keep a w) (os : Array Obj) (k : Nat) : Keep a (ext w os k) := by
  refine h.trans ⟨rfl, rfl, rfl, by simp [ext], fun i hi => ?_⟩
  simp only [ext]
  rw [Array.getElem?_append_left hi]
@[go_sem, simp] theorem ext_size (w : World) (os : Array Obj) (k : Nat) : (ext w os k).heap.size = w.heap.size + os.size := by simp [ext]
@[go_sem] theorem ext_cell (w : World) (os : Array Obj) (k n i : Nat) (hn : n < w.heap.size) : (ext w os k).cell? ⟨n, i, none⟩ = w.cell? ⟨n, i, none⟩ :=
  (keep_ext (Keep.refl w) os k).cell hn
@[go_sem] theorem ext_frozen (w : World) (os : Array Obj) (k n i : Nat) (hn : n < w.heap.size) : (ext w os k).frozen? ⟨n, i, none⟩ = w.frozen? ⟨n, i, none⟩ :=
  (keep_ext (Keep.refl w) os k).frozen hn
@[go_sem] theorem ext_setCell (w : World) (os : Array Obj) (k n i : Nat) (v : Value) (hn : n < w.heap.size) : (ext w os k).setCell ⟨n, i, none⟩ v = ext (w.setCell ⟨n, i, none⟩ v) os k := by
  unfold World.setCell ext
  congr 1
  apply Array.ext_getElem?
  intro j
  simp only [Array.getElem?_modify, Array.getElem?_append, Array.size_modify]
  by_cases hj : j < w.heap.size
  · simp [hj]
  · have : ¬ n = j := by omega
    simp [hj, this]
@[go_sem] theorem ext_ext (w : World) (o1 o2 : Array Obj) (k1 k2 : Nat) : ext (ext w o1 k1) o2 k2 = ext w (o1 ++ o2) k2 := by simp [ext, Array.append_assoc]
@[go_sem] theorem ext_drew (w : World) (os : Array Obj) (k : Nat) : ext w.drew os k = ext w os k := rfl
@[go_sem] theorem lt_o1x0 (a x : Nat) : a < a + 1 + x := by omega
@[go_sem] theorem lt_o1x1 (a x : Nat) : a < a + 1 + x + 1 := by omega
@[go_sem] theorem lt_o1x1y0 (a x y : Nat) : a < a + 1 + x + 1 + y := by omega
@[go_sem] theorem lt_o1x1y1 (a x y : Nat) : a < a + 1 + x + 1 + y + 1 := by omega
@[go_sem] theorem lt_o1x1y2 (a x y : Nat) : a < a + 1 + x + 1 + y + 1 + 1 := by omega
@[go_sem] theorem lt_o1x1y3 (a x y : Nat) : a < a + 1 + x + 1 + y + 1 + 1 + 1 := by omega
@[go_sem] theorem lt_o1x2 (a x : Nat) : a < a + 1 + x + 1 + 1 := by omega
@[go_sem] theorem lt_o1x2y0 (a x y : Nat) : a < a + 1 + x + 1 + 1 + y := by omega
@[go_sem] theorem lt_o1x2y1 (a x y : Nat) : a < a + 1 + x + 1 + 1 + y + 1 := by omega
@[go_sem] theorem lt_o1x2y2 (a x y : Nat) : a < a + 1 + x + 1 + 1 + y + 1 + 1 := by omega
@[go_sem] theorem lt_o1x2y3 (a x y : Nat) : a < a + 1 + x + 1 + 1 + y + 1 + 1 + 1 := by omega
@[go_sem] theorem lt_o1x3 (a x : Nat) : a < a + 1 + x + 1 + 1 + 1 := by omega
@[go_sem] theorem lt_o1x3y0 (a x y : Nat) : a < a + 1 + x + 1 + 1 + 1 + y := by omega
@[go_sem] theorem lt_o1x3y1 (a x y : Nat) : a < a + 1 + x + 1 + 1 + 1 + y + 1 := by omega
@[go_sem] theorem lt_o1x3y2 (a x y : Nat) : a < a + 1 + x + 1 + 1 + 1 + y + 1 + 1 := by omega
@[go_sem] theorem lt_o1x3y3 (a x y : Nat) : a < a + 1 + x + 1 + 1 + 1 + y + 1 + 1 + 1 := by omega
@[go_sem] theorem lt_o2 (a : Nat) : a < a + 1 + 1 := by omega
@[go_sem] theorem lt_o2x0 (a x : Nat) : a < a + 1 + 1 + x := by omega
@[go_sem] theorem lt_o2x1 (a x : Nat) : a < a + 1 + 1 + x + 1 := by omega
@[go_sem] theorem lt_o2x1y0 (a x y : Nat) : a < a + 1 + 1 + x + 1 + y := by omega
@[go_sem] theorem lt_o2x1y1 (a x y : Nat) : a < a + 1 + 1 + x + 1 + y + 1 := by omega
@[go_sem] theorem lt_o2x1y2 (a x y : Nat) : a < a + 1 + 1 + x + 1 + y + 1 + 1 := by omega
@[go_sem] theorem lt_o2x1y3 (a x y : Nat) : a < a + 1 + 1 + x + 1 + y + 1 + 1 + 1 := by omega
@[go_sem] theorem lt_o2x2 (a x : Nat) : a < a + 1 + 1 + x + 1 + 1 := by omega
@[go_sem] theorem lt_o2x2y0 (a x y : Nat) : a < a + 1 + 1 + x + 1 + 1 + y := by omega
@[go_sem] theorem lt_o2x2y1 (a x y : Nat) : a < a + 1 + 1 + x + 1 + 1 + y + 1 := by omega
@[go_sem] theorem lt_o2x2y2 (a x y : Nat) : a < a + 1 + 1 + x + 1 + 1 + y + 1 + 1 := by omega
@[go_sem] theorem lt_o2x2y3 (a x y : Nat) : a < a + 1 + 1 + x + 1 + 1 + y + 1 + 1 + 1 := by omega
@[go_sem] theorem lt_o2x3 (a x : Nat) : a < a + 1 + 1 + x + 1 + 1 + 1 := by omega
@[go_sem] theorem lt_o2x3y0 (a x y : Nat) : a < a + 1 + 1 + x + 1 + 1 + 1 + y := by omega
@[go_sem] theorem lt_o2x3y1 (a x y : Nat) : a < a + 1 + 1 + x + 1 + 1 + 1 + y + 1 := by omega
@[go_sem] theorem lt_o2x3y2 (a x y : Nat) : a < a + 1 + 1 + x + 1 + 1 + 1 + y + 1 + 1 := by omega
@[go_sem] theorem lt_o2x3y3 (a x y : Nat) : a < a + 1 + 1 + x + 1 + 1 + 1 + y + 1 + 1 + 1 := by omega
@[go_sem] theorem lt_o3 (a : Nat) : a < a + 1 + 1 + 1 := by omega
@[go_sem] theorem lt_o3x0 (a x : Nat) : a < a + 1 + 1 + 1 + x := by omega
@[go_sem] theorem lt_o3x1 (a x : Nat) : a < a + 1 + 1 + 1 + x + 1 := by omega
@[go_sem] theorem lt_o3x1y0 (a x y : Nat) : a < a + 1 + 1 + 1 + x + 1 + y := by omega
@[go_sem] theorem lt_o3x1y1 (a x y : Nat) : a < a + 1 + 1 + 1 + x + 1 + y + 1 := by omega
@[go_sem] theorem lt_o3x1y2 (a x y : Nat) : a < a + 1 + 1 + 1 + x + 1 + y + 1 + 1 := by omega
@[go_sem] theorem lt_o3x1y3 (a x y : Nat) : a < a + 1 + 1 + 1 + x + 1 + y + 1 + 1 + 1 := by omega
@[go_sem] theorem lt_o3x2 (a x : Nat) : a < a + 1 + 1 + 1 + x + 1 + 1 := by omega
@[go_sem] theorem lt_o3x2y0 (a x y : Nat) : a < a + 1 + 1 + 1 + x + 1 + 1 + y := by omega
@[go_sem] theorem lt_o3x2y1 (a x y : Nat) : a < a + 1 + 1 + 1 + x + 1 + 1 + y + 1 := by omega
@[go_sem] theorem lt_o3x2y2 (a x y : Nat) : a < a + 1 + 1 + 1 + x + 1 + 1 + y + 1 + 1 := by omega
@[go_sem] theorem lt_o3x2y3 (a x y : Nat) : a < a + 1 + 1 + 1 + x + 1 + 1 + y + 1 + 1 + 1 := by omega
@[go_sem] theorem lt_o3x3 (a x : Nat) : a < a + 1 + 1 + 1 + x + 1 + 1 + 1 := by omega
@[go_sem] theorem lt_o3x3y0 (a x y : Nat) : a < a + 1 + 1 + 1 + x + 1 + 1 + 1 + y := by omega
@[go_sem] theorem lt_o3x3y1 (a x y : Nat) : a < a + 1 + 1 + 1 + x + 1 + 1 + 1 + y + 1 := by omega
@[go_sem] theorem lt_o3x3y2 (a x y : Nat) : a < a + 1 + 1 + 1 + x + 1 + 1 + 1 + y + 1 + 1 := by omega
@[go_sem] theorem lt_o3x3y3 (a x y : Nat) : a < a + 1 + 1 + 1 + x + 1 + 1 + 1 + y + 1 + 1 + 1 := by omega
@[go_sem] theorem lt_o4 (a : Nat) : a < a + 1 + 1 + 1 + 1 := by omega
@[go_sem] theorem lt_o4x0 (a x : Nat) : a < a + 1 + 1 + 1 + 1 + x := by omega
@[go_sem] theorem lt_o4x1 (a x : Nat) : a < a + 1 + 1 + 1 + 1 + x + 1 := by omega
@[go_sem] theorem lt_o4x1y0 (a x y : Nat) : a < a + 1 + 1 + 1 + 1 + x + 1 + y := by omega
@[go_sem] theorem lt_o4x1y1 (a x y : Nat) : a < a + 1 + 1 + 1 + 1 + x + 1 + y + 1 := by omega
@[go_sem] theorem lt_o4x1y2 (a x y : Nat) : a < a + 1 + 1 + 1 + 1 + x + 1 + y + 1 + 1 := by omega
@[go_sem] theorem lt_o4x1y3 (a x y : Nat) : a < a + 1 + 1 + 1 + 1 + x + 1 + y + 1 + 1 + 1 := by omega
@[go_sem] theorem lt_o4x2 (a x : Nat) : a < a + 1 + 1 + 1 + 1 + x + 1 + 1 := by omega
@[go_sem] theorem lt_o4x2y0 (a x y : Nat) : a < a + 1 + 1 + 1 + 1 + x + 1 + 1 + y := by omega
@[go_sem] theorem lt_o4x2y1 (a x y : Nat) : a < a + 1 + 1 + 1 + 1 + x + 1 + 1 + y + 1 := by omega
@[go_sem] theorem lt_o4x2y2 (a x y : Nat) : a < a + 1 + 1 + 1 + 1 + x + 1 + 1 + y + 1 + 1 := by omega
@[go_sem] theorem lt_o4x2y3 (a x y : Nat) : a < a + 1 + 1 + 1 + 1 + x + 1 + 1 + y + 1 + 1 + 1 := by omega
@[go_sem] theorem lt_o4x3 (a x : Nat) : a < a + 1 + 1 + 1 + 1 + x + 1 + 1 + 1 := by omega
@[go_sem] theorem lt_o4x3y0 (a x y : Nat) : a < a + 1 + 1 + 1 + 1 + x + 1 + 1 + 1 + y := by omega
@[go_sem] theorem lt_o4x3y1 (a x y : Nat) : a < a + 1 + 1 + 1 + 1 + x + 1 + 1 + 1 + y + 1 := by omega
@[go_sem] theorem lt_o4x3y2 (a x y : Nat) : a < a + 1 + 1 + 1 + 1 + x + 1 + 1 + 1 + y + 1 + 1 := by omega
@[go_sem] theorem lt_o4x3y3 (a x y : Nat) : a < a + 1 + 1 + 1 + 1 + x + 1 + 1 + 1 + y + 1 + 1 + 1 := by omega
@[go_sem] theorem lt_o5 (a : Nat) : a < a + 1 + 1 + 1 + 1 + 1 := by omega
@[go_sem] theorem lt_o5x0 (a x : Nat) : a < a + 1 + 1 + 1 + 1 + 1 + x := by omega
@[go_sem] theorem lt_o5x1 (a x : Nat) : a < a + 1 + 1 + 1 + 1 + 1 + x + 1 := by omega
@[go_sem] theorem lt_o5x1y0 (a x y : Nat) : a < a + 1 + 1 + 1 + 1 + 1 + x + 1 + y := by omega
@[go_sem] theorem lt_o5x1y1 (a x y : Nat) : a < a + 1 + 1 + 1 + 1 + 1 + x + 1 + y + 1 := by omega
@[go_sem] theorem lt_o5x1y2 (a x y : Nat) : a < a + 1 + 1 + 1 + 1 + 1 + x + 1 + y + 1 + 1 := by omega
@[go_sem] theorem lt_o5x1y3 (a x y : Nat) : a < a + 1 + 1 + 1 + 1 + 1 + x + 1 + y + 1 + 1 + 1 := by omega
@[go_sem] theorem lt_o5x2 (a x : Nat) : a < a + 1 + 1 + 1 + 1 + 1 + x + 1 + 1 := by omega
@[go_sem] theorem lt_o5x2y0 (a x y : Nat) : a < a + 1 + 1 + 1 + 1 + 1 + x + 1 + 1 + y := by omega
@[go_sem] theorem lt_o5x2y1 (a x y : Nat) : a < a + 1 + 1 + 1 + 1 + 1 + x + 1 + 1 + y + 1 := by omega
@[go_sem] theorem lt_o5x2y2 (a x y : Nat) : a < a + 1 + 1 + 1 + 1 + 1 + x + 1 + 1 + y + 1 + 1 := by omega
@[go_sem] theorem lt_o5x2y3 (a x y : Nat) : a < a + 1 + 1 + 1 + 1 + 1 + x + 1 + 1 + y + 1 + 1 + 1 := by omega
@[go_sem] theorem lt_o5x3 (a x : Nat) : a < a + 1 + 1 + 1 + 1 + 1 + x + 1 + 1 + 1 := by omega
@[go_sem] theorem lt_o5x3y0 (a x y : Nat) : a < a + 1 + 1 + 1 + 1 + 1 + x + 1 + 1 + 1 + y := by omega
@[go_sem] theorem lt_o5x3y1 (a x y : Nat) : a < a + 1 + 1 + 1 + 1 + 1 + x + 1 + 1 + 1 + y + 1 := by omega
@[go_sem] theorem lt_o5x3y2 (a x y : Nat) : a < a + 1 + 1 + 1 + 1 + 1 + x + 1 + 1 + 1 + y + 1 + 1 := by omega
@[go_sem] theorem lt_o5x3y3 (a x y : Nat) : a < a + 1 + 1 + 1 + 1 + 1 + x + 1 + 1 + 1 + y + 1 + 1 + 1 := by omega
@[go_sem] theorem lt_o1x1y1z0 (a x y z : Nat) : a < a + 1 + x + 1 + y + 1 + z := by omega
@[go_sem] theorem lt_o1x1y1z1 (a x y z : Nat) : a < a + 1 + x + 1 + y + 1 + z + 1 := by omega
@[go_sem] theorem lt_o1x1y2z0 (a x y z : Nat) : a < a + 1 + x + 1 + y + 1 + 1 + z := by omega
@[go_sem] theorem lt_o1x1y2z1 (a x y z : Nat) : a < a + 1 + x + 1 + y + 1 + 1 + z + 1 := by omega
@[go_sem] theorem lt_o1x1y3z0 (a x y z : Nat) : a < a + 1 + x + 1 + y + 1 + 1 + 1 + z := by omega
@[go_sem] theorem lt_o1x1y3z1 (a x y z : Nat) : a < a + 1 + x + 1 + y + 1 + 1 + 1 + z + 1 := by omega
@[go_sem] theorem lt_o1x2y1z0 (a x y z : Nat) : a < a + 1 + x + 1 + 1 + y + 1 + z := by omega
@[go_sem] theorem lt_o1x2y1z1 (a x y z : Nat) : a < a + 1 + x + 1 + 1 + y + 1 + z + 1 := by omega
@[go_sem] theorem lt_o1x2y2z0 (a x y z : Nat) : a < a + 1 + x + 1 + 1 + y + 1 + 1 + z := by omega
@[go_sem] theorem lt_o1x2y2z1 (a x y z : Nat) : a < a + 1 + x + 1 + 1 + y + 1 + 1 + z + 1 := by omega
@[go_sem] theorem lt_o1x2y3z0 (a x y z : Nat) : a < a + 1 + x + 1 + 1 + y + 1 + 1 + 1 + z := by omega
@[go_sem] theorem lt_o1x2y3z1 (a x y z : Nat) : a < a + 1 + x + 1 + 1 + y + 1 + 1 + 1 + z + 1 := by omega
@[go_sem] theorem lt_o1x3y1z0 (a x y z : Nat) : a < a + 1 + x + 1 + 1 + 1 + y + 1 + z := by omega
@[go_sem] theorem lt_o1x3y1z1 (a x y z : Nat) : a < a + 1 + x + 1 + 1 + 1 + y + 1 + z + 1 := by omega
@[go_sem] theorem lt_o1x3y2z0 (a x y z : Nat) : a < a + 1 + x + 1 + 1 + 1 + y + 1 + 1 + z := by omega
@[go_sem] theorem lt_o1x3y2z1 (a x y z : Nat) : a < a + 1 + x + 1 + 1 + 1 + y + 1 + 1 + z + 1 := by omega
@[go_sem] theorem lt_o1x3y3z0 (a x y z : Nat) : a < a + 1 + x + 1 + 1 + 1 + y + 1 + 1 + 1 + z := by omega
@[go_sem] theorem lt_o1x3y3z1 (a x y z : Nat) : a < a + 1 + x + 1 + 1 + 1 + y + 1 + 1 + 1 + z + 1 := by omega
@[go_sem] theorem lt_o2x1y1z0 (a x y z : Nat) : a < a + 1 + 1 + x + 1 + y + 1 + z := by omega
@[go_sem] theorem lt_o2x1y1z1 (a x y z : Nat) : a < a + 1 + 1 + x + 1 + y + 1 + z + 1 := by omega
@[go_sem] theorem lt_o2x1y2z0 (a x y z : Nat) : a < a + 1 + 1 + x + 1 + y + 1 + 1 + z := by omega
@[go_sem] theorem lt_o2x1y2z1 (a x y z : Nat) : a < a + 1 + 1 + x + 1 + y + 1 + 1 + z + 1 := by omega
@[go_sem] theorem lt_o2x1y3z0 (a x y z : Nat) : a < a + 1 + 1 + x + 1 + y + 1 + 1 + 1 + z := by omega
@[go_sem] theorem lt_o2x1y3z1 (a x y z : Nat) : a < a + 1 + 1 + x + 1 + y + 1 + 1 + 1 + z + 1 := by omega
@[go_sem] theorem lt_o2x2y1z0 (a x y z : Nat) : a < a + 1 + 1 + x + 1 + 1 + y + 1 + z := by omega
@[go_sem] theorem lt_o2x2y1z1 (a x y z : Nat) : a < a + 1 + 1 + x + 1 + 1 + y + 1 + z + 1 := by omega
@[go_sem] theorem lt_o2x2y2z0 (a x y z : Nat) : a < a + 1 + 1 + x + 1 + 1 + y + 1 + 1 + z := by omega
@[go_sem] theorem lt_o2x2y2z1 (a x y z : Nat) : a < a + 1 + 1 + x + 1 + 1 + y + 1 + 1 + z + 1 := by omega
@[go_sem] theorem lt_o2x2y3z0 (a x y z : Nat) : a < a + 1 + 1 + x + 1 + 1 + y + 1 + 1 + 1 + z := by omega
@[go_sem] theorem lt_o2x2y3z1 (a x y z : Nat) : a < a + 1 + 1 + x + 1 + 1 + y + 1 + 1 + 1 + z + 1 := by omega
@[go_sem] theorem lt_o2x3y1z0 (a x y z : Nat) : a < a + 1 + 1 + x + 1 + 1 + 1 + y + 1 + z := by omega
@[go_sem] theorem lt_o2x3y1z1 (a x y z : Nat) : a < a + 1 + 1 + x + 1 + 1 + 1 + y + 1 + z + 1 := by omega
@[go_sem] theorem lt_o2x3y2z0 (a x y z : Nat) : a < a + 1 + 1 + x + 1 + 1 + 1 + y + 1 + 1 + z := by omega
@[go_sem] theorem lt_o2x3y2z1 (a x y z : Nat) : a < a + 1 + 1 + x + 1 + 1 + 1 + y + 1 + 1 + z + 1 := by omega
@[go_sem] theorem lt_o2x3y3z0 (a x y z : Nat) : a < a + 1 + 1 + x + 1 + 1 + 1 + y + 1 + 1 + 1 + z := by omega
@[go_sem] theorem lt_o2x3y3z1 (a x y z : Nat) : a < a + 1 + 1 + x + 1 + 1 + 1 + y + 1 + 1 + 1 + z + 1 := by omega
@[go_sem] theorem lt_o3x1y1z0 (a x y z : Nat) : a < a + 1 + 1 + 1 + x + 1 + y + 1 + z := by omega
@[go_sem] theorem lt_o3x1y1z1 (a x y z : Nat) : a < a + 1 + 1 + 1 + x + 1 + y + 1 + z + 1 := by omega
@[go_sem] theorem lt_o3x1y2z0 (a x y z : Nat) : a < a + 1 + 1 + 1 + x + 1 + y + 1 + 1 + z := by omega
@[go_sem] theorem lt_o3x1y2z1 (a x y z : Nat) : a < a + 1 + 1 + 1 + x + 1 + y + 1 + 1 + z + 1 := by omega
@[go_sem] theorem lt_o3x1y3z0 (a x y z : Nat) : a < a + 1 + 1 + 1 + x + 1 + y + 1 + 1 + 1 + z := by omega
@[go_sem] theorem lt_o3x1y3z1 (a x y z : Nat) : a < a + 1 + 1 + 1 + x + 1 + y + 1 + 1 + 1 + z + 1 := by omega
@[go_sem] theorem lt_o3x2y1z0 (a x y z : Nat) : a < a + 1 + 1 + 1 + x + 1 + 1 + y + 1 + z := by omega
@[go_sem] theorem lt_o3x2y1z1 (a x y z : Nat) : a < a + 1 + 1 + 1 + x + 1 + 1 + y + 1 + z + 1 := by omega
@[go_sem] theorem lt_o3x2y2z0 (a x y z : Nat) : a < a + 1 + 1 + 1 + x + 1 + 1 + y + 1 + 1 + z := by omega
@[go_sem] theorem lt_o3x2y2z1 (a x y z : Nat) : a < a + 1 + 1 + 1 + x + 1 + 1 + y + 1 + 1 + z + 1 := by omega
@[go_sem] theorem lt_o3x2y3z0 (a x y z : Nat) : a < a + 1 + 1 + 1 + x + 1 + 1 + y + 1 + 1 + 1 + z := by omega
@[go_sem] theorem lt_o3x2y3z1 (a x y z : Nat) : a < a + 1 + 1 + 1 + x + 1 + 1 + y + 1 + 1 + 1 + z + 1 := by omega
@[go_sem] theorem lt_o3x3y1z0 (a x y z : Nat) : a < a + 1 + 1 + 1 + x + 1 + 1 + 1 + y + 1 + z := by omega
@[go_sem] theorem lt_o3x3y1z1 (a x y z : Nat) : a < a + 1 + 1 + 1 + x + 1 + 1 + 1 + y + 1 + z + 1 := by omega
@[go_sem] theorem lt_o3x3y2z0 (a x y z : Nat) : a < a + 1 + 1 + 1 + x + 1 + 1 + 1 + y + 1 + 1 + z := by omega
@[go_sem] theorem lt_o3x3y2z1 (a x y z : Nat) : a < a + 1 + 1 + 1 + x + 1 + 1 + 1 + y + 1 + 1 + z + 1 := by omega
@[go_sem] theorem lt_o3x3y3z0 (a x y z : Nat) : a < a + 1 + 1 + 1 + x + 1 + 1 + 1 + y + 1 + 1 + 1 + z := by omega
@[go_sem] theorem lt_o3x3y3z1 (a x y z : Nat) : a < a + 1 + 1 + 1 + x + 1 + 1 + 1 + y + 1 + 1 + 1 + z + 1 := by omega
@[go_sem] theorem lt_o4x1y1z0 (a x y z : Nat) : a < a + 1 + 1 + 1 + 1 + x + 1 + y + 1 + z := by omega
@[go_sem] theorem lt_o4x1y1z1 (a x y z : Nat) : a < a + 1 + 1 + 1 + 1 + x + 1 + y + 1 + z + 1 := by omega
@[go_sem] theorem lt_o4x1y2z0 (a x y z : Nat) : a < a + 1 + 1 + 1 + 1 + x + 1 + y + 1 + 1 + z := by omega
@[go_sem] theorem lt_o4x1y2z1 (a x y z : Nat) : a < a + 1 + 1 + 1 + 1 + x + 1 + y + 1 + 1 + z + 1 := by omega
@[go_sem] theorem lt_o4x1y3z0 (a x y z : Nat) : a < a + 1 + 1 + 1 + 1 + x + 1 + y + 1 + 1 + 1 + z := by omega
@[go_sem] theorem lt_o4x1y3z1 (a x y z : Nat) : a < a + 1 + 1 + 1 + 1 + x + 1 + y + 1 + 1 + 1 + z + 1 := by omega
@[go_sem] theorem lt_o4x2y1z0 (a x y z : Nat) : a < a + 1 + 1 + 1 + 1 + x + 1 + 1 + y + 1 + z := by omega
@[go_sem] theorem lt_o4x2y1z1 (a x y z : Nat) : a < a + 1 + 1 + 1 + 1 + x + 1 + 1 + y + 1 + z + 1 := by omega
@[go_sem] theorem lt_o4x2y2z0 (a x y z : Nat) : a < a + 1 + 1 + 1 + 1 + x + 1 + 1 + y + 1 + 1 + z := by omega
@[go_sem] theorem lt_o4x2y2z1 (a x y z : Nat) : a < a + 1 + 1 + 1 + 1 + x + 1 + 1 + y + 1 + 1 + z + 1 := by omega
@[go_sem] theorem lt_o4x2y3z0 (a x y z : Nat) : a < a + 1 + 1 + 1 + 1 + x + 1 + 1 + y + 1 + 1 + 1 + z := by omega
@[go_sem] theorem lt_o4x2y3z1 (a x y z : Nat) : a < a + 1 + 1 + 1 + 1 + x + 1 + 1 + y + 1 + 1 + 1 + z + 1 := by omega
@[go_sem] theorem lt_o4x3y1z0 (a x y z : Nat) : a < a + 1 + 1 + 1 + 1 + x + 1 + 1 + 1 + y + 1 + z := by omega
@[go_sem] theorem lt_o4x3y1z1 (a x y z : Nat) : a < a + 1 + 1 + 1 + 1 + x + 1 + 1 + 1 + y + 1 + z + 1 := by omega
@[go_sem] theorem lt_o4x3y2z0 (a x y z : Nat) : a < a + 1 + 1 + 1 + 1 + x + 1 + 1 + 1 + y + 1 + 1 + z := by omega
@[go_sem] theorem lt_o4x3y2z1 (a x y z : Nat) : a < a + 1 + 1 + 1 + 1 + x + 1 + 1 + 1 + y + 1 + 1 + z + 1 := by omega
@[go_sem] theorem lt_o4x3y3z0 (a x y z : Nat) : a < a + 1 + 1 + 1 + 1 + x + 1 + 1 + 1 + y + 1 + 1 + 1 + z := by omega
@[go_sem] theorem lt_o4x3y3z1 (a x y z : Nat) : a < a + 1 + 1 + 1 + 1 + x + 1 + 1 + 1 + y + 1 + 1 + 1 + z + 1 := by omega
@[go_sem] theorem lt_o5x1y1z0 (a x y z : Nat) : a < a + 1 + 1 + 1 + 1 + 1 + x + 1 + y + 1 + z := by omega
@[go_sem] theorem lt_o5x1y1z1 (a x y z : Nat) : a < a + 1 + 1 + 1 + 1 + 1 + x + 1 + y + 1 + z + 1 := by omega
@[go_sem] theorem lt_o5x1y2z0 (a x y z : Nat) : a < a + 1 + 1 + 1 + 1 + 1 + x + 1 + y + 1 + 1 + z := by omega
@[go_sem] theorem lt_o5x1y2z1 (a x y z : Nat) : a < a + 1 + 1 + 1 + 1 + 1 + x + 1 + y + 1 + 1 + z + 1 := by omega
@[go_sem] theorem lt_o5x1y3z0 (a x y z : Nat) : a < a + 1 + 1 + 1 + 1 + 1 + x + 1 + y + 1 + 1 + 1 + z := by omega
@[go_sem] theorem lt_o5x1y3z1 (a x y z : Nat) : a < a + 1 + 1 + 1 + 1 + 1 + x + 1 + y + 1 + 1 + 1 + z + 1 := by omega
@[go_sem] theorem lt_o5x2y1z0 (a x y z : Nat) : a < a + 1 + 1 + 1 + 1 + 1 + x + 1 + 1 + y + 1 + z := by omega
@[go_sem] theorem lt_o5x2y1z1 (a x y z : Nat) : a < a + 1 + 1 + 1 + 1 + 1 + x + 1 + 1 + y + 1 + z + 1 := by omega
@[go_sem] theorem lt_o5x2y2z0 (a x y z : Nat) : a < a + 1 + 1 + 1 + 1 + 1 + x + 1 + 1 + y + 1 + 1 + z := by omega
@[go_sem] theorem lt_o5x2y2z1 (a x y z : Nat) : a < a + 1 + 1 + 1 + 1 + 1 + x + 1 + 1 + y + 1 + 1 + z + 1 := by omega
@[go_sem] theorem lt_o5x2y3z0 (a x y z : Nat) : a < a + 1 + 1 + 1 + 1 + 1 + x + 1 + 1 + y + 1 + 1 + 1 + z := by omega
@[go_sem] theorem lt_o5x2y3z1 (a x y z : Nat) : a < a + 1 + 1 + 1 + 1 + 1 + x + 1 + 1 + y + 1 + 1 + 1 + z + 1 := by omega
@[go_sem] theorem lt_o5x3y1z0 (a x y z : Nat) : a < a + 1 + 1 + 1 + 1 + 1 + x + 1 + 1 + 1 + y + 1 + z := by omega
@[go_sem] theorem lt_o5x3y1z1 (a x y z : Nat) : a < a + 1 + 1 + 1 + 1 + 1 + x + 1 + 1 + 1 + y + 1 + z + 1 := by omega
@[go_sem] theorem lt_o5x3y2z0 (a x y z : Nat) : a < a + 1 + 1 + 1 + 1 + 1 + x + 1 + 1 + 1 + y + 1 + 1 + z := by omega
@[go_sem] theorem lt_o5x3y2z1 (a x y z : Nat) : a < a + 1 + 1 + 1 + 1 + 1 + x + 1 + 1 + 1 + y + 1 + 1 + z + 1 := by omega
@[go_sem] theorem lt_o5x3y3z0 (a x y z : Nat) : a < a + 1 + 1 + 1 + 1 + 1 + x + 1 + 1 + 1 + y + 1 + 1 + 1 + z := by omega
@[go_sem] theorem lt_o5x3y3z1 (a x y z : Nat) : a < a + 1 + 1 + 1 + 1 + 1 + x + 1 + 1 + 1 + y + 1 + 1 + 1 + z + 1 := by omega
@[go_sem] theorem lt_ext_deep (a b c : Nat) (h : a < b) : a < b + c := by omega
end Go.Proofs.Ytjincjlalopbfaa

namespace Go.Proofs.Ytjincjlalopbfaa
open Go.RowKit
attribute [local go_sem ↓] Go.wp_at_zero Go.wp_at_succ
set_option linter.unusedVariables false
set_option linter.unusedSimpArgs false
set_option maxRecDepth 10000
theorem bool_ret {a b : Bool} (h : a = b) : Ending.returned (.bool a) = .returned (.bool b) := by rw [h]
set_option maxHeartbeats 2000000 in
theorem small_any (c : Int) (w : World) : Calls Try.prog 73 #[.int .u8 c] w fun e w' => e = .returned (.bool (decide (97 ≤ c ∧ c ≤ 122))) ∧ w' = w := by
  go_enter Try.func73, Try.ntmps73
  go_wp2
  all_goals (go_ret; refine ⟨bool_ret ?_, rfl⟩; rw [Bool.eq_iff_iff]; (first | simp only [on_iff] | skip); simp only [beq_iff_eq, bne_iff_ne, beq_eq_false_iff_ne, ne_eq, decide_eq_true_eq, Bool.or_eq_true, Bool.and_eq_true, Bool.false_eq_true, false_iff, true_iff] at *; omega)
set_option maxHeartbeats 2000000 in
theorem digit_any (c : Int) (w : World) : Calls Try.prog 74 #[.int .u8 c] w fun e w' => e = .returned (.bool (decide (48 ≤ c ∧ c ≤ 57))) ∧ w' = w := by
  go_enter Try.func74, Try.ntmps74
  go_wp2
  all_goals (go_ret; refine ⟨bool_ret ?_, rfl⟩; rw [Bool.eq_iff_iff]; (first | simp only [on_iff] | skip); simp only [beq_iff_eq, bne_iff_ne, beq_eq_false_iff_ne, ne_eq, decide_eq_true_eq, Bool.or_eq_true, Bool.and_eq_true, Bool.false_eq_true, false_iff, true_iff] at *; omega)
set_option maxHeartbeats 2000000 in
theorem sign_any (c : Int) (w : World) : Calls Try.prog 75 #[.int .u8 c] w fun e w' => e = .returned (.bool (decide (c = 123 ∨ c = 125 ∨ c = 44 ∨ c = 59 ∨ c = 58 ∨ c = 47 ∨ c = 45))) ∧ w' = w := by
  go_enter Try.func75, Try.ntmps75
  go_wp2
  all_goals (go_ret; refine ⟨bool_ret ?_, rfl⟩; rw [Bool.eq_iff_iff]; (first | simp only [on_iff] | skip); simp only [beq_iff_eq, bne_iff_ne, beq_eq_false_iff_ne, ne_eq, decide_eq_true_eq, Bool.or_eq_true, Bool.and_eq_true, Bool.false_eq_true, false_iff, true_iff] at *; omega)
end Go.Proofs.Ytjincjlalopbfaa

namespace Go.Proofs.Ytjincjlalopbfaa
open Go.RowKit
set_option linter.unusedVariables false
set_option linter.unusedSimpArgs false
theorem add_block (ad : Addr) (n : Nat) : (ad.add n).block = ad.block := by unfold Addr.add; split <;> rfl
theorem add_plain (b o n : Nat) : (⟨b, o, none⟩ : Addr).add n = ⟨b, o + n, none⟩ := by unfold Addr.add; split <;> simp_all
/-- v is a slice that reads as the bytes l -/
def By (w : World) (v : Value) (l : List UInt8) : Prop := ∃ a cap, v = .slice a l.length cap ∧ l.length ≤ cap ∧ ∀ k, k < l.length → ∃ ad, a = some ad ∧ ad.block < w.heap.size ∧ w.cell? (ad.add k) = some (.int .u8 ((l.getD k 0).toNat : Int))
theorem By.keep {w w' : World} {v : Value} {l : List UInt8} (h : By w v l) (hk : Keep w w') : By w' v l := by
  obtain ⟨a, cap, rfl, hc, h⟩ := h
  refine ⟨a, cap, rfl, hc, fun k hlt => ?_⟩
  obtain ⟨ad, h0, h1, h2⟩ := h k hlt
  exact ⟨ad, h0, Nat.lt_of_lt_of_le h1 (Below.size hk), by rw [Below.cell hk (by rw [add_block]; exact h1)]; exact h2⟩
theorem By.shape {w : World} {v : Value} {l : List UInt8} (h : By w v l) : ∃ a cap, v = .slice a l.length cap := by obtain ⟨a, cap, rfl, _⟩ := h; exact ⟨a, cap, rfl⟩
end Go.Proofs.Ytjincjlalopbfaa

namespace Go.Proofs.Ytjincjlalopbfaa
open Go.RowKit
attribute [local go_sem ↓] Go.wp_at_zero Go.wp_at_succ
set_option linter.unusedVariables false
set_option linter.unusedSimpArgs false
set_option maxRecDepth 10000
/-- the cells of a slice are the numbers C -/
def Cy (w : World) (a : Option Addr) (n : Nat) (C : Nat → Int) : Prop := ∀ k, k < n → ∃ ad, a = some ad ∧ ad.block < w.heap.size ∧ w.cell? (ad.add k) = some (.int .u8 (C k))
theorem Cy.keep {w w' : World} {a : Option Addr} {n : Nat} {C : Nat → Int} (h : Cy w a n C) (hk : Keep w w') : Cy w' a n C := by
  intro k hlt
  obtain ⟨ad, h0, h1, h2⟩ := h k hlt
  exact ⟨ad, h0, Nat.lt_of_lt_of_le h1 (Below.size hk), by rw [Below.cell hk (by rw [add_block]; exact h1)]; exact h2⟩
theorem By.cy {w : World} {a : Option Addr} {n cap : Nat} {l : List UInt8} (h : By w (.slice a n cap) l) : Cy w a l.length (fun k => ((l.getD k 0).toNat : Int)) := by
  obtain ⟨a', cap', e, _, h⟩ := h
  injection e with e1 e2 e3
  subst e1
  exact h
set_option maxHeartbeats 4000000 in
theorem skip_core (a : Option Addr) (n cap i E : Nat) (C : Nat → Int) (S R : Nat → Nat) (w : World) (hn : n ≤ 70000) (hi : i ≤ n)
    (HC : Hid (Cy w a n C))
    (H0 : Hid (∀ k, k < n → C k = 35 → R k = S k))
    (H1 : Hid (∀ k, k < n → C k ≠ 10 → R (k + 1) = R k))
    (H2 : Hid (∀ k, k < n → C k = 10 → R k = S k))
    (H3 : Hid (∀ k, n ≤ k → S k = k ∧ R k = k))
    (H4 : Hid (∀ k, k < n → (C k = 32 ∨ C k = 9 ∨ C k = 10 ∨ C k = 13) → S (k + 1) = S k))
    (H5 : Hid (∀ k, k < n → ¬ (C k = 35 ∨ C k = 32 ∨ C k = 9 ∨ C k = 10 ∨ C k = 13) → S k = k))
    (HE : Hid (S i = E)) :
    Calls Try.prog 55 #[.slice a n cap, .int .i64 (i : Int)] w fun e w' => e = .returned (.int .i64 (E : Int)) ∧ w' = w := by
  go_enter Try.func55, Try.ntmps55
  go_wp2_with fail
  go_loop [1] (fun vi => ∃ k : Nat, k ≤ n ∧ vi = .int .i64 (k : Int) ∧ Hid (S k = E)) (fun vi => n - (intOf vi).toNat)
  case atStart => exact ⟨i, hi, rfl, HE⟩
  case round =>
    obtain ⟨k, hk, rfl, hE⟩ := hrel
    by_cases hlt : k < n
    · have li : (k : Int) < (n : Int) := by omega
      obtain ⟨ad, rfl, hb, ck⟩ := (uq HC) k hlt
      by_cases hc : C k = 35
      · have h35 : (C k == 35) = true := by simp [hc]
        have HCk := hide hc
        clear hc
        go_wp2_with fail
        go_loop [1] (fun vi => ∃ j : Nat, k ≤ j ∧ j ≤ n ∧ vi = .int .i64 (j : Int) ∧ Hid (R j = E)) (fun vi => n - (intOf vi).toNat)
        case atStart => exact ⟨k, Nat.le_refl _, hk, rfl, ((uq H0) k hlt (uq HCk)).trans (uq hE)⟩
        case round =>
          obtain ⟨j, hkj, hj, rfl, hR⟩ := hrel
          by_cases hjn : j < n
          · have lj : (j : Int) < (n : Int) := by omega
            obtain ⟨ad', e, _, cj⟩ := (uq HC) j hjn
            injection e with e
            subst e
            by_cases h10 : C j = 10
            · have hb10 : (C j != 10) = false := by simp [h10]
              have hne : k ≠ j := by
                intro e
                have h0 := uq HCk
                rw [e, h10] at h0
                omega
              have HS : Hid (S j = E) := ((uq H2) j hjn h10).symm.trans (uq hR)
              clear h10
              go_wp2_with fail
              exact ⟨⟨j, hj, rfl, HS⟩, by simp [intOf]; omega⟩
            · have hb10 : (C j != 10) = true := by simp [h10]
              have HR' : Hid (R (j + 1) = E) := ((uq H1) j hjn h10).trans (uq hR)
              clear h10
              go_wp2_with fail
              exact ⟨⟨j + 1, by omega, hjn, by go_num, HR'⟩, by simp [intOf]; omega⟩
          · have HS : Hid (S j = E) := by
              have h3 := (uq H3) j (by omega)
              exact (h3.1.trans h3.2.symm).trans (uq hR)
            go_wp2_with fail
            exact ⟨⟨j, hj, rfl, HS⟩, by simp [intOf]; omega⟩
      · have h35 : (C k == 35) = false := by simp [hc]
        have HCk := hide hc
        clear hc
        go_wp2_with fail
        iterate 4
          · refine ⟨⟨k + 1, hlt, by go_num, ?_⟩, by simp [intOf]; omega⟩
            refine ((uq H4) k hlt ?_).trans (uq hE)
            simp only [beq_iff_eq] at *
            omega
        · have hEk : k = E := by
            have := uq hE
            rw [(uq H5) k hlt (by have := uq HCk; simp only [beq_eq_false_iff_ne] at *; omega)] at this
            omega
          subst hEk
          go_ret
          exact ⟨rfl, rfl⟩
    · have hEk : k = E := by have := uq hE; rw [((uq H3) k (by omega)).1] at this; omega
      subst hEk
      go_wp2_with fail
      go_ret
      exact ⟨rfl, rfl⟩
theorem skip_any (v : Value) (l : List UInt8) (i : Nat) (w : World) (hl : l.length ≤ 70000) (hi : i ≤ l.length) (h : By w v l) :
    Calls Try.prog 55 #[v, .int .i64 (i : Int)] w fun e w' => e = .returned (.int .i64 (sk false l i : Nat)) ∧ w' = w := by
  obtain ⟨a, cap, rfl⟩ := h.shape
  exact skip_core a l.length cap i _ (fun k => ((l.getD k 0).toNat : Int)) (sk false l) (sk true l) w hl hi (hide h.cy)
    (hide fun k hk hq => sk_hash l k hk ((kd_3 _).2 hq)) (hide fun k hk hq => sk_tgo l k hk (fun h => hq ((kd_2 _).1 h))) (hide fun k hk hq => sk_t10 l k hk ((kd_2 _).2 hq)) (hide fun k hk => ⟨sk_end _ _ _ hk, sk_end _ _ _ hk⟩)
    (hide fun k hk hq => sk_blank l k hk (by rw [kd_1, kd_2]; omega)) (hide fun k hk hq => sk_stop l k hk (by rw [kd_1, kd_2, kd_3]; omega)) (hide rfl)
end Go.Proofs.Ytjincjlalopbfaa
