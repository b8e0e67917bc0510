/- A world with later blocks: what a callee leaves that turns nothing. The walk goes past them. -/
import Derived.Test.YtakandlehneciaaNum
import Derived.WalkKit
import Derived.ProofKit
namespace Go.Proofs.Ytakandlehneciaa
open Go.RowKit
set_option linter.unusedVariables false
/-- the world with later blocks, so many numbers drawn -/
def ext (w : World) (os : Array Obj) (k : Nat) : World := { w with heap := w.heap ++ os, drawn := k }
theorem Keep.ext {w w' : World} (h : Keep w w') : ∃ os k, w' = ext w os k := by
  obtain ⟨h1, h2, h3, h4, h5⟩ := h
  refine ⟨w'.heap.extract w.heap.size w'.heap.size, w'.drawn, ?_⟩
  have e : w'.heap = w.heap ++ w'.heap.extract w.heap.size w'.heap.size := by
    apply Array.ext_getElem?
    intro i
    by_cases hi : i < w.heap.size
    · rw [h5 i hi, Array.getElem?_append_left hi]
    · rw [Array.getElem?_append_right (by omega), Array.getElem?_extract]
      by_cases h6 : i < w'.heap.size
      · rw [if_pos (by omega)]
        congr 1; omega
      · rw [if_neg (by omega), Array.getElem?_eq_none (by omega)]
  obtain ⟨a, b, c, d, f⟩ := w'
  obtain ⟨a', b', c', d', f'⟩ := w
  simp only at h1 h2 h3 e
  subst h1 h2 h3
  simp only [Proofs.Ytakandlehneciaa.ext]
  rw [← e]
theorem keep_ext {a w : World} (h : Keep a w) (os : Array Obj) (k : Nat) : Keep a (ext w os k) := by
  refine h.trans ⟨rfl, rfl, rfl, by simp [ext], fun i hi => ?_⟩
  simp only [ext]
  rw [Array.getElem?_append_left hi]
@[go_sem, simp] theorem ext_size (w : World) (os : Array Obj) (k : Nat) : (ext w os k).heap.size = w.heap.size + os.size := by simp [ext]
@[go_sem] theorem ext_cell (w : World) (os : Array Obj) (k n i : Nat) (hn : n < w.heap.size) : (ext w os k).cell? ⟨n, i, none⟩ = w.cell? ⟨n, i, none⟩ :=
  (keep_ext (Keep.refl w) os k).cell hn
@[go_sem] theorem ext_frozen (w : World) (os : Array Obj) (k n i : Nat) (hn : n < w.heap.size) : (ext w os k).frozen? ⟨n, i, none⟩ = w.frozen? ⟨n, i, none⟩ :=
  (keep_ext (Keep.refl w) os k).frozen hn
@[go_sem] theorem ext_setCell (w : World) (os : Array Obj) (k n i : Nat) (v : Value) (hn : n < w.heap.size) : (ext w os k).setCell ⟨n, i, none⟩ v = ext (w.setCell ⟨n, i, none⟩ v) os k := by
  unfold World.setCell ext
  congr 1
  apply Array.ext_getElem?
  intro j
  simp only [Array.getElem?_modify, Array.getElem?_append, Array.size_modify]
  by_cases hj : j < w.heap.size
  · simp [hj]
  · have : ¬ n = j := by omega
    simp [hj, this]
@[go_sem] theorem ext_ext (w : World) (o1 o2 : Array Obj) (k1 k2 : Nat) : ext (ext w o1 k1) o2 k2 = ext w (o1 ++ o2) k2 := by simp [ext, Array.append_assoc]
@[go_sem] theorem ext_drew (w : World) (os : Array Obj) (k : Nat) : ext w.drew os k = ext w os k := rfl
@[go_sem] theorem lt_o1x0 (a x : Nat) : a < a + 1 + x := by omega
@[go_sem] theorem lt_o1x1 (a x : Nat) : a < a + 1 + x + 1 := by omega
@[go_sem] theorem lt_o1x1y0 (a x y : Nat) : a < a + 1 + x + 1 + y := by omega
@[go_sem] theorem lt_o1x1y1 (a x y : Nat) : a < a + 1 + x + 1 + y + 1 := by omega
@[go_sem] theorem lt_o1x1y2 (a x y : Nat) : a < a + 1 + x + 1 + y + 1 + 1 := by omega
@[go_sem] theorem lt_o1x1y3 (a x y : Nat) : a < a + 1 + x + 1 + y + 1 + 1 + 1 := by omega
@[go_sem] theorem lt_o1x2 (a x : Nat) : a < a + 1 + x + 1 + 1 := by omega
@[go_sem] theorem lt_o1x2y0 (a x y : Nat) : a < a + 1 + x + 1 + 1 + y := by omega
@[go_sem] theorem lt_o1x2y1 (a x y : Nat) : a < a + 1 + x + 1 + 1 + y + 1 := by omega
@[go_sem] theorem lt_o1x2y2 (a x y : Nat) : a < a + 1 + x + 1 + 1 + y + 1 + 1 := by omega
@[go_sem] theorem lt_o1x2y3 (a x y : Nat) : a < a + 1 + x + 1 + 1 + y + 1 + 1 + 1 := by omega
@[go_sem] theorem lt_o1x3 (a x : Nat) : a < a + 1 + x + 1 + 1 + 1 := by omega
@[go_sem] theorem lt_o1x3y0 (a x y : Nat) : a < a + 1 + x + 1 + 1 + 1 + y := by omega
@[go_sem] theorem lt_o1x3y1 (a x y : Nat) : a < a + 1 + x + 1 + 1 + 1 + y + 1 := by omega
@[go_sem] theorem lt_o1x3y2 (a x y : Nat) : a < a + 1 + x + 1 + 1 + 1 + y + 1 + 1 := by omega
@[go_sem] theorem lt_o1x3y3 (a x y : Nat) : a < a + 1 + x + 1 + 1 + 1 + y + 1 + 1 + 1 := by omega
@[go_sem] theorem lt_o2 (a : Nat) : a < a + 1 + 1 := by omega
@[go_sem] theorem lt_o2x0 (a x : Nat) : a < a + 1 + 1 + x := by omega
@[go_sem] theorem lt_o2x1 (a x : Nat) : a < a + 1 + 1 + x + 1 := by omega
@[go_sem] theorem lt_o2x1y0 (a x y : Nat) : a < a + 1 + 1 + x + 1 + y := by omega
@[go_sem] theorem lt_o2x1y1 (a x y : Nat) : a < a + 1 + 1 + x + 1 + y + 1 := by omega
@[go_sem] theorem lt_o2x1y2 (a x y : Nat) : a < a + 1 + 1 + x + 1 + y + 1 + 1 := by omega
@[go_sem] theorem lt_o2x1y3 (a x y : Nat) : a < a + 1 + 1 + x + 1 + y + 1 + 1 + 1 := by omega
@[go_sem] theorem lt_o2x2 (a x : Nat) : a < a + 1 + 1 + x + 1 + 1 := by omega
@[go_sem] theorem lt_o2x2y0 (a x y : Nat) : a < a + 1 + 1 + x + 1 + 1 + y := by omega
@[go_sem] theorem lt_o2x2y1 (a x y : Nat) : a < a + 1 + 1 + x + 1 + 1 + y + 1 := by omega
@[go_sem] theorem lt_o2x2y2 (a x y : Nat) : a < a + 1 + 1 + x + 1 + 1 + y + 1 + 1 := by omega
@[go_sem] theorem lt_o2x2y3 (a x y : Nat) : a < a + 1 + 1 + x + 1 + 1 + y + 1 + 1 + 1 := by omega
@[go_sem] theorem lt_o2x3 (a x : Nat) : a < a + 1 + 1 + x + 1 + 1 + 1 := by omega
@[go_sem] theorem lt_o2x3y0 (a x y : Nat) : a < a + 1 + 1 + x + 1 + 1 + 1 + y := by omega
@[go_sem] theorem lt_o2x3y1 (a x y : Nat) : a < a + 1 + 1 + x + 1 + 1 + 1 + y + 1 := by omega
@[go_sem] theorem lt_o2x3y2 (a x y : Nat) : a < a + 1 + 1 + x + 1 + 1 + 1 + y + 1 + 1 := by omega
@[go_sem] theorem lt_o2x3y3 (a x y : Nat) : a < a + 1 + 1 + x + 1 + 1 + 1 + y + 1 + 1 + 1 := by omega
@[go_sem] theorem lt_o3 (a : Nat) : a < a + 1 + 1 + 1 := by omega
@[go_sem] theorem lt_o3x0 (a x : Nat) : a < a + 1 + 1 + 1 + x := by omega
@[go_sem] theorem lt_o3x1 (a x : Nat) : a < a + 1 + 1 + 1 + x + 1 := by omega
@[go_sem] theorem lt_o3x1y0 (a x y : Nat) : a < a + 1 + 1 + 1 + x + 1 + y := by omega
@[go_sem] theorem lt_o3x1y1 (a x y : Nat) : a < a + 1 + 1 + 1 + x + 1 + y + 1 := by omega
@[go_sem] theorem lt_o3x1y2 (a x y : Nat) : a < a + 1 + 1 + 1 + x + 1 + y + 1 + 1 := by omega
@[go_sem] theorem lt_o3x1y3 (a x y : Nat) : a < a + 1 + 1 + 1 + x + 1 + y + 1 + 1 + 1 := by omega
@[go_sem] theorem lt_o3x2 (a x : Nat) : a < a + 1 + 1 + 1 + x + 1 + 1 := by omega
@[go_sem] theorem lt_o3x2y0 (a x y : Nat) : a < a + 1 + 1 + 1 + x + 1 + 1 + y := by omega
@[go_sem] theorem lt_o3x2y1 (a x y : Nat) : a < a + 1 + 1 + 1 + x + 1 + 1 + y + 1 := by omega
@[go_sem] theorem lt_o3x2y2 (a x y : Nat) : a < a + 1 + 1 + 1 + x + 1 + 1 + y + 1 + 1 := by omega
@[go_sem] theorem lt_o3x2y3 (a x y : Nat) : a < a + 1 + 1 + 1 + x + 1 + 1 + y + 1 + 1 + 1 := by omega
@[go_sem] theorem lt_o3x3 (a x : Nat) : a < a + 1 + 1 + 1 + x + 1 + 1 + 1 := by omega
@[go_sem] theorem lt_o3x3y0 (a x y : Nat) : a < a + 1 + 1 + 1 + x + 1 + 1 + 1 + y := by omega
@[go_sem] theorem lt_o3x3y1 (a x y : Nat) : a < a + 1 + 1 + 1 + x + 1 + 1 + 1 + y + 1 := by omega
@[go_sem] theorem lt_o3x3y2 (a x y : Nat) : a < a + 1 + 1 + 1 + x + 1 + 1 + 1 + y + 1 + 1 := by omega
@[go_sem] theorem lt_o3x3y3 (a x y : Nat) : a < a + 1 + 1 + 1 + x + 1 + 1 + 1 + y + 1 + 1 + 1 := by omega
@[go_sem] theorem lt_o4 (a : Nat) : a < a + 1 + 1 + 1 + 1 := by omega
@[go_sem] theorem lt_o4x0 (a x : Nat) : a < a + 1 + 1 + 1 + 1 + x := by omega
@[go_sem] theorem lt_o4x1 (a x : Nat) : a < a + 1 + 1 + 1 + 1 + x + 1 := by omega
@[go_sem] theorem lt_o4x1y0 (a x y : Nat) : a < a + 1 + 1 + 1 + 1 + x + 1 + y := by omega
@[go_sem] theorem lt_o4x1y1 (a x y : Nat) : a < a + 1 + 1 + 1 + 1 + x + 1 + y + 1 := by omega
@[go_sem] theorem lt_o4x1y2 (a x y : Nat) : a < a + 1 + 1 + 1 + 1 + x + 1 + y + 1 + 1 := by omega
@[go_sem] theorem lt_o4x1y3 (a x y : Nat) : a < a + 1 + 1 + 1 + 1 + x + 1 + y + 1 + 1 + 1 := by omega
@[go_sem] theorem lt_o4x2 (a x : Nat) : a < a + 1 + 1 + 1 + 1 + x + 1 + 1 := by omega
@[go_sem] theorem lt_o4x2y0 (a x y : Nat) : a < a + 1 + 1 + 1 + 1 + x + 1 + 1 + y := by omega
@[go_sem] theorem lt_o4x2y1 (a x y : Nat) : a < a + 1 + 1 + 1 + 1 + x + 1 + 1 + y + 1 := by omega
@[go_sem] theorem lt_o4x2y2 (a x y : Nat) : a < a + 1 + 1 + 1 + 1 + x + 1 + 1 + y + 1 + 1 := by omega
@[go_sem] theorem lt_o4x2y3 (a x y : Nat) : a < a + 1 + 1 + 1 + 1 + x + 1 + 1 + y + 1 + 1 + 1 := by omega
@[go_sem] theorem lt_o4x3 (a x : Nat) : a < a + 1 + 1 + 1 + 1 + x + 1 + 1 + 1 := by omega
@[go_sem] theorem lt_o4x3y0 (a x y : Nat) : a < a + 1 + 1 + 1 + 1 + x + 1 + 1 + 1 + y := by omega
@[go_sem] theorem lt_o4x3y1 (a x y : Nat) : a < a + 1 + 1 + 1 + 1 + x + 1 + 1 + 1 + y + 1 := by omega
@[go_sem] theorem lt_o4x3y2 (a x y : Nat) : a < a + 1 + 1 + 1 + 1 + x + 1 + 1 + 1 + y + 1 + 1 := by omega
@[go_sem] theorem lt_o4x3y3 (a x y : Nat) : a < a + 1 + 1 + 1 + 1 + x + 1 + 1 + 1 + y + 1 + 1 + 1 := by omega
@[go_sem] theorem lt_o5 (a : Nat) : a < a + 1 + 1 + 1 + 1 + 1 := by omega
@[go_sem] theorem lt_o5x0 (a x : Nat) : a < a + 1 + 1 + 1 + 1 + 1 + x := by omega
@[go_sem] theorem lt_o5x1 (a x : Nat) : a < a + 1 + 1 + 1 + 1 + 1 + x + 1 := by omega
@[go_sem] theorem lt_o5x1y0 (a x y : Nat) : a < a + 1 + 1 + 1 + 1 + 1 + x + 1 + y := by omega
@[go_sem] theorem lt_o5x1y1 (a x y : Nat) : a < a + 1 + 1 + 1 + 1 + 1 + x + 1 + y + 1 := by omega
@[go_sem] theorem lt_o5x1y2 (a x y : Nat) : a < a + 1 + 1 + 1 + 1 + 1 + x + 1 + y + 1 + 1 := by omega
@[go_sem] theorem lt_o5x1y3 (a x y : Nat) : a < a + 1 + 1 + 1 + 1 + 1 + x + 1 + y + 1 + 1 + 1 := by omega
@[go_sem] theorem lt_o5x2 (a x : Nat) : a < a + 1 + 1 + 1 + 1 + 1 + x + 1 + 1 := by omega
@[go_sem] theorem lt_o5x2y0 (a x y : Nat) : a < a + 1 + 1 + 1 + 1 + 1 + x + 1 + 1 + y := by omega
@[go_sem] theorem lt_o5x2y1 (a x y : Nat) : a < a + 1 + 1 + 1 + 1 + 1 + x + 1 + 1 + y + 1 := by omega
@[go_sem] theorem lt_o5x2y2 (a x y : Nat) : a < a + 1 + 1 + 1 + 1 + 1 + x + 1 + 1 + y + 1 + 1 := by omega
@[go_sem] theorem lt_o5x2y3 (a x y : Nat) : a < a + 1 + 1 + 1 + 1 + 1 + x + 1 + 1 + y + 1 + 1 + 1 := by omega
@[go_sem] theorem lt_o5x3 (a x : Nat) : a < a + 1 + 1 + 1 + 1 + 1 + x + 1 + 1 + 1 := by omega
@[go_sem] theorem lt_o5x3y0 (a x y : Nat) : a < a + 1 + 1 + 1 + 1 + 1 + x + 1 + 1 + 1 + y := by omega
@[go_sem] theorem lt_o5x3y1 (a x y : Nat) : a < a + 1 + 1 + 1 + 1 + 1 + x + 1 + 1 + 1 + y + 1 := by omega
@[go_sem] theorem lt_o5x3y2 (a x y : Nat) : a < a + 1 + 1 + 1 + 1 + 1 + x + 1 + 1 + 1 + y + 1 + 1 := by omega
@[go_sem] theorem lt_o5x3y3 (a x y : Nat) : a < a + 1 + 1 + 1 + 1 + 1 + x + 1 + 1 + 1 + y + 1 + 1 + 1 := by omega
@[go_sem] theorem lt_o1x1y1z0 (a x y z : Nat) : a < a + 1 + x + 1 + y + 1 + z := by omega
@[go_sem] theorem lt_o1x1y1z1 (a x y z : Nat) : a < a + 1 + x + 1 + y + 1 + z + 1 := by omega
@[go_sem] theorem lt_o1x1y2z0 (a x y z : Nat) : a < a + 1 + x + 1 + y + 1 + 1 + z := by omega
@[go_sem] theorem lt_o1x1y2z1 (a x y z : Nat) : a < a + 1 + x + 1 + y + 1 + 1 + z + 1 := by omega
@[go_sem] theorem lt_o1x1y3z0 (a x y z : Nat) : a < a + 1 + x + 1 + y + 1 + 1 + 1 + z := by omega
@[go_sem] theorem lt_o1x1y3z1 (a x y z : Nat) : a < a + 1 + x + 1 + y + 1 + 1 + 1 + z + 1 := by omega
@[go_sem] theorem lt_o1x2y1z0 (a x y z : Nat) : a < a + 1 + x + 1 + 1 + y + 1 + z := by omega
@[go_sem] theorem lt_o1x2y1z1 (a x y z : Nat) : a < a + 1 + x + 1 + 1 + y + 1 + z + 1 := by omega
@[go_sem] theorem lt_o1x2y2z0 (a x y z : Nat) : a < a + 1 + x + 1 + 1 + y + 1 + 1 + z := by omega
@[go_sem] theorem lt_o1x2y2z1 (a x y z : Nat) : a < a + 1 + x + 1 + 1 + y + 1 + 1 + z + 1 := by omega
@[go_sem] theorem lt_o1x2y3z0 (a x y z : Nat) : a < a + 1 + x + 1 + 1 + y + 1 + 1 + 1 + z := by omega
@[go_sem] theorem lt_o1x2y3z1 (a x y z : Nat) : a < a + 1 + x + 1 + 1 + y + 1 + 1 + 1 + z + 1 := by omega
@[go_sem] theorem lt_o1x3y1z0 (a x y z : Nat) : a < a + 1 + x + 1 + 1 + 1 + y + 1 + z := by omega
@[go_sem] theorem lt_o1x3y1z1 (a x y z : Nat) : a < a + 1 + x + 1 + 1 + 1 + y + 1 + z + 1 := by omega
@[go_sem] theorem lt_o1x3y2z0 (a x y z : Nat) : a < a + 1 + x + 1 + 1 + 1 + y + 1 + 1 + z := by omega
@[go_sem] theorem lt_o1x3y2z1 (a x y z : Nat) : a < a + 1 + x + 1 + 1 + 1 + y + 1 + 1 + z + 1 := by omega
@[go_sem] theorem lt_o1x3y3z0 (a x y z : Nat) : a < a + 1 + x + 1 + 1 + 1 + y + 1 + 1 + 1 + z := by omega
@[go_sem] theorem lt_o1x3y3z1 (a x y z : Nat) : a < a + 1 + x + 1 + 1 + 1 + y + 1 + 1 + 1 + z + 1 := by omega
@[go_sem] theorem lt_o2x1y1z0 (a x y z : Nat) : a < a + 1 + 1 + x + 1 + y + 1 + z := by omega
@[go_sem] theorem lt_o2x1y1z1 (a x y z : Nat) : a < a + 1 + 1 + x + 1 + y + 1 + z + 1 := by omega
@[go_sem] theorem lt_o2x1y2z0 (a x y z : Nat) : a < a + 1 + 1 + x + 1 + y + 1 + 1 + z := by omega
@[go_sem] theorem lt_o2x1y2z1 (a x y z : Nat) : a < a + 1 + 1 + x + 1 + y + 1 + 1 + z + 1 := by omega
@[go_sem] theorem lt_o2x1y3z0 (a x y z : Nat) : a < a + 1 + 1 + x + 1 + y + 1 + 1 + 1 + z := by omega
@[go_sem] theorem lt_o2x1y3z1 (a x y z : Nat) : a < a + 1 + 1 + x + 1 + y + 1 + 1 + 1 + z + 1 := by omega
@[go_sem] theorem lt_o2x2y1z0 (a x y z : Nat) : a < a + 1 + 1 + x + 1 + 1 + y + 1 + z := by omega
@[go_sem] theorem lt_o2x2y1z1 (a x y z : Nat) : a < a + 1 + 1 + x + 1 + 1 + y + 1 + z + 1 := by omega
@[go_sem] theorem lt_o2x2y2z0 (a x y z : Nat) : a < a + 1 + 1 + x + 1 + 1 + y + 1 + 1 + z := by omega
@[go_sem] theorem lt_o2x2y2z1 (a x y z : Nat) : a < a + 1 + 1 + x + 1 + 1 + y + 1 + 1 + z + 1 := by omega
@[go_sem] theorem lt_o2x2y3z0 (a x y z : Nat) : a < a + 1 + 1 + x + 1 + 1 + y + 1 + 1 + 1 + z := by omega
@[go_sem] theorem lt_o2x2y3z1 (a x y z : Nat) : a < a + 1 + 1 + x + 1 + 1 + y + 1 + 1 + 1 + z + 1 := by omega
@[go_sem] theorem lt_o2x3y1z0 (a x y z : Nat) : a < a + 1 + 1 + x + 1 + 1 + 1 + y + 1 + z := by omega
@[go_sem] theorem lt_o2x3y1z1 (a x y z : Nat) : a < a + 1 + 1 + x + 1 + 1 + 1 + y + 1 + z + 1 := by omega
@[go_sem] theorem lt_o2x3y2z0 (a x y z : Nat) : a < a + 1 + 1 + x + 1 + 1 + 1 + y + 1 + 1 + z := by omega
@[go_sem] theorem lt_o2x3y2z1 (a x y z : Nat) : a < a + 1 + 1 + x + 1 + 1 + 1 + y + 1 + 1 + z + 1 := by omega
@[go_sem] theorem lt_o2x3y3z0 (a x y z : Nat) : a < a + 1 + 1 + x + 1 + 1 + 1 + y + 1 + 1 + 1 + z := by omega
@[go_sem] theorem lt_o2x3y3z1 (a x y z : Nat) : a < a + 1 + 1 + x + 1 + 1 + 1 + y + 1 + 1 + 1 + z + 1 := by omega
@[go_sem] theorem lt_o3x1y1z0 (a x y z : Nat) : a < a + 1 + 1 + 1 + x + 1 + y + 1 + z := by omega
@[go_sem] theorem lt_o3x1y1z1 (a x y z : Nat) : a < a + 1 + 1 + 1 + x + 1 + y + 1 + z + 1 := by omega
@[go_sem] theorem lt_o3x1y2z0 (a x y z : Nat) : a < a + 1 + 1 + 1 + x + 1 + y + 1 + 1 + z := by omega
@[go_sem] theorem lt_o3x1y2z1 (a x y z : Nat) : a < a + 1 + 1 + 1 + x + 1 + y + 1 + 1 + z + 1 := by omega
@[go_sem] theorem lt_o3x1y3z0 (a x y z : Nat) : a < a + 1 + 1 + 1 + x + 1 + y + 1 + 1 + 1 + z := by omega
@[go_sem] theorem lt_o3x1y3z1 (a x y z : Nat) : a < a + 1 + 1 + 1 + x + 1 + y + 1 + 1 + 1 + z + 1 := by omega
@[go_sem] theorem lt_o3x2y1z0 (a x y z : Nat) : a < a + 1 + 1 + 1 + x + 1 + 1 + y + 1 + z := by omega
@[go_sem] theorem lt_o3x2y1z1 (a x y z : Nat) : a < a + 1 + 1 + 1 + x + 1 + 1 + y + 1 + z + 1 := by omega
@[go_sem] theorem lt_o3x2y2z0 (a x y z : Nat) : a < a + 1 + 1 + 1 + x + 1 + 1 + y + 1 + 1 + z := by omega
@[go_sem] theorem lt_o3x2y2z1 (a x y z : Nat) : a < a + 1 + 1 + 1 + x + 1 + 1 + y + 1 + 1 + z + 1 := by omega
@[go_sem] theorem lt_o3x2y3z0 (a x y z : Nat) : a < a + 1 + 1 + 1 + x + 1 + 1 + y + 1 + 1 + 1 + z := by omega
@[go_sem] theorem lt_o3x2y3z1 (a x y z : Nat) : a < a + 1 + 1 + 1 + x + 1 + 1 + y + 1 + 1 + 1 + z + 1 := by omega
@[go_sem] theorem lt_o3x3y1z0 (a x y z : Nat) : a < a + 1 + 1 + 1 + x + 1 + 1 + 1 + y + 1 + z := by omega
@[go_sem] theorem lt_o3x3y1z1 (a x y z : Nat) : a < a + 1 + 1 + 1 + x + 1 + 1 + 1 + y + 1 + z + 1 := by omega
@[go_sem] theorem lt_o3x3y2z0 (a x y z : Nat) : a < a + 1 + 1 + 1 + x + 1 + 1 + 1 + y + 1 + 1 + z := by omega
@[go_sem] theorem lt_o3x3y2z1 (a x y z : Nat) : a < a + 1 + 1 + 1 + x + 1 + 1 + 1 + y + 1 + 1 + z + 1 := by omega
@[go_sem] theorem lt_o3x3y3z0 (a x y z : Nat) : a < a + 1 + 1 + 1 + x + 1 + 1 + 1 + y + 1 + 1 + 1 + z := by omega
@[go_sem] theorem lt_o3x3y3z1 (a x y z : Nat) : a < a + 1 + 1 + 1 + x + 1 + 1 + 1 + y + 1 + 1 + 1 + z + 1 := by omega
@[go_sem] theorem lt_o4x1y1z0 (a x y z : Nat) : a < a + 1 + 1 + 1 + 1 + x + 1 + y + 1 + z := by omega
@[go_sem] theorem lt_o4x1y1z1 (a x y z : Nat) : a < a + 1 + 1 + 1 + 1 + x + 1 + y + 1 + z + 1 := by omega
@[go_sem] theorem lt_o4x1y2z0 (a x y z : Nat) : a < a + 1 + 1 + 1 + 1 + x + 1 + y + 1 + 1 + z := by omega
@[go_sem] theorem lt_o4x1y2z1 (a x y z : Nat) : a < a + 1 + 1 + 1 + 1 + x + 1 + y + 1 + 1 + z + 1 := by omega
@[go_sem] theorem lt_o4x1y3z0 (a x y z : Nat) : a < a + 1 + 1 + 1 + 1 + x + 1 + y + 1 + 1 + 1 + z := by omega
@[go_sem] theorem lt_o4x1y3z1 (a x y z : Nat) : a < a + 1 + 1 + 1 + 1 + x + 1 + y + 1 + 1 + 1 + z + 1 := by omega
@[go_sem] theorem lt_o4x2y1z0 (a x y z : Nat) : a < a + 1 + 1 + 1 + 1 + x + 1 + 1 + y + 1 + z := by omega
@[go_sem] theorem lt_o4x2y1z1 (a x y z : Nat) : a < a + 1 + 1 + 1 + 1 + x + 1 + 1 + y + 1 + z + 1 := by omega
@[go_sem] theorem lt_o4x2y2z0 (a x y z : Nat) : a < a + 1 + 1 + 1 + 1 + x + 1 + 1 + y + 1 + 1 + z := by omega
@[go_sem] theorem lt_o4x2y2z1 (a x y z : Nat) : a < a + 1 + 1 + 1 + 1 + x + 1 + 1 + y + 1 + 1 + z + 1 := by omega
@[go_sem] theorem lt_o4x2y3z0 (a x y z : Nat) : a < a + 1 + 1 + 1 + 1 + x + 1 + 1 + y + 1 + 1 + 1 + z := by omega
@[go_sem] theorem lt_o4x2y3z1 (a x y z : Nat) : a < a + 1 + 1 + 1 + 1 + x + 1 + 1 + y + 1 + 1 + 1 + z + 1 := by omega
@[go_sem] theorem lt_o4x3y1z0 (a x y z : Nat) : a < a + 1 + 1 + 1 + 1 + x + 1 + 1 + 1 + y + 1 + z := by omega
@[go_sem] theorem lt_o4x3y1z1 (a x y z : Nat) : a < a + 1 + 1 + 1 + 1 + x + 1 + 1 + 1 + y + 1 + z + 1 := by omega
@[go_sem] theorem lt_o4x3y2z0 (a x y z : Nat) : a < a + 1 + 1 + 1 + 1 + x + 1 + 1 + 1 + y + 1 + 1 + z := by omega
@[go_sem] theorem lt_o4x3y2z1 (a x y z : Nat) : a < a + 1 + 1 + 1 + 1 + x + 1 + 1 + 1 + y + 1 + 1 + z + 1 := by omega
@[go_sem] theorem lt_o4x3y3z0 (a x y z : Nat) : a < a + 1 + 1 + 1 + 1 + x + 1 + 1 + 1 + y + 1 + 1 + 1 + z := by omega
@[go_sem] theorem lt_o4x3y3z1 (a x y z : Nat) : a < a + 1 + 1 + 1 + 1 + x + 1 + 1 + 1 + y + 1 + 1 + 1 + z + 1 := by omega
@[go_sem] theorem lt_o5x1y1z0 (a x y z : Nat) : a < a + 1 + 1 + 1 + 1 + 1 + x + 1 + y + 1 + z := by omega
@[go_sem] theorem lt_o5x1y1z1 (a x y z : Nat) : a < a + 1 + 1 + 1 + 1 + 1 + x + 1 + y + 1 + z + 1 := by omega
@[go_sem] theorem lt_o5x1y2z0 (a x y z : Nat) : a < a + 1 + 1 + 1 + 1 + 1 + x + 1 + y + 1 + 1 + z := by omega
@[go_sem] theorem lt_o5x1y2z1 (a x y z : Nat) : a < a + 1 + 1 + 1 + 1 + 1 + x + 1 + y + 1 + 1 + z + 1 := by omega
@[go_sem] theorem lt_o5x1y3z0 (a x y z : Nat) : a < a + 1 + 1 + 1 + 1 + 1 + x + 1 + y + 1 + 1 + 1 + z := by omega
@[go_sem] theorem lt_o5x1y3z1 (a x y z : Nat) : a < a + 1 + 1 + 1 + 1 + 1 + x + 1 + y + 1 + 1 + 1 + z + 1 := by omega
@[go_sem] theorem lt_o5x2y1z0 (a x y z : Nat) : a < a + 1 + 1 + 1 + 1 + 1 + x + 1 + 1 + y + 1 + z := by omega
@[go_sem] theorem lt_o5x2y1z1 (a x y z : Nat) : a < a + 1 + 1 + 1 + 1 + 1 + x + 1 + 1 + y + 1 + z + 1 := by omega
@[go_sem] theorem lt_o5x2y2z0 (a x y z : Nat) : a < a + 1 + 1 + 1 + 1 + 1 + x + 1 + 1 + y + 1 + 1 + z := by omega
@[go_sem] theorem lt_o5x2y2z1 (a x y z : Nat) : a < a + 1 + 1 + 1 + 1 + 1 + x + 1 + 1 + y + 1 + 1 + z + 1 := by omega
@[go_sem] theorem lt_o5x2y3z0 (a x y z : Nat) : a < a + 1 + 1 + 1 + 1 + 1 + x + 1 + 1 + y + 1 + 1 + 1 + z := by omega
@[go_sem] theorem lt_o5x2y3z1 (a x y z : Nat) : a < a + 1 + 1 + 1 + 1 + 1 + x + 1 + 1 + y + 1 + 1 + 1 + z + 1 := by omega
@[go_sem] theorem lt_o5x3y1z0 (a x y z : Nat) : a < a + 1 + 1 + 1 + 1 + 1 + x + 1 + 1 + 1 + y + 1 + z := by omega
@[go_sem] theorem lt_o5x3y1z1 (a x y z : Nat) : a < a + 1 + 1 + 1 + 1 + 1 + x + 1 + 1 + 1 + y + 1 + z + 1 := by omega
@[go_sem] theorem lt_o5x3y2z0 (a x y z : Nat) : a < a + 1 + 1 + 1 + 1 + 1 + x + 1 + 1 + 1 + y + 1 + 1 + z := by omega
@[go_sem] theorem lt_o5x3y2z1 (a x y z : Nat) : a < a + 1 + 1 + 1 + 1 + 1 + x + 1 + 1 + 1 + y + 1 + 1 + z + 1 := by omega
@[go_sem] theorem lt_o5x3y3z0 (a x y z : Nat) : a < a + 1 + 1 + 1 + 1 + 1 + x + 1 + 1 + 1 + y + 1 + 1 + 1 + z := by omega
@[go_sem] theorem lt_o5x3y3z1 (a x y z : Nat) : a < a + 1 + 1 + 1 + 1 + 1 + x + 1 + 1 + 1 + y + 1 + 1 + 1 + z + 1 := by omega
@[go_sem] theorem lt_ext_deep (a b c : Nat) (h : a < b) : a < b + c := by omega
end Go.Proofs.Ytakandlehneciaa
