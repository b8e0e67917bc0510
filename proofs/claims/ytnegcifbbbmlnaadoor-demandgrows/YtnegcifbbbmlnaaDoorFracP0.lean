/- Package frac: sums of fractions: what the walk of plus holds at its cuts. -/
import Derived.Test.YtnegcifbbbmlnaaDoorFracC
import Derived.Deep.DeepCutAuto
namespace Go.Proofs.YtnegcifbbbmlnaaDoor
open Go.RowKit
set_option linter.unusedVariables false
theorem keep_set {a w : World} (n i : Nat) (v : Value) (hn : a.heap.size ≤ n) (h : Keep a w) : Keep a (w.setCell ⟨n, i, none⟩ v) := Below.setCell h hn v
theorem keep_set2 {a w : World} (i : Nat) (v : Value) (h : Keep a w) : Keep a (w.setCell ⟨a.heap.size + 1 + 1, i, none⟩ v) := Below.setCell h (Nat.le_trans (Nat.le_succ _) (Nat.le_succ _)) v
/-- the two parameters and the result as they were laid -/
def Fr (w wc : World) (bp bq : Bool) (pn pd qn qd : Int) : Prop :=
  Keep w wc ∧ w.heap.size < wc.heap.size ∧ w.heap.size + 1 < wc.heap.size ∧ w.heap.size + 1 + 1 < wc.heap.size
  ∧ wc.cell? ⟨w.heap.size, 0, none⟩ = some (.bool bp) ∧ wc.cell? ⟨w.heap.size, 1, none⟩ = some (.int .u64 pn) ∧ wc.cell? ⟨w.heap.size, 2, none⟩ = some (.int .u64 pd) ∧ wc.cell? ⟨w.heap.size + 1, 0, none⟩ = some (.bool bq) ∧ wc.cell? ⟨w.heap.size + 1, 1, none⟩ = some (.int .u64 qn) ∧ wc.cell? ⟨w.heap.size + 1, 2, none⟩ = some (.int .u64 qd)
  ∧ wc.cell? ⟨w.heap.size + 1 + 1, 0, none⟩ = some (.int .i64 0) ∧ wc.cell? ⟨w.heap.size + 1 + 1, 1, none⟩ = some (.int .i64 0)
  ∧ wc.frozen? ⟨w.heap.size + 1 + 1, 0, none⟩ = false ∧ wc.frozen? ⟨w.heap.size + 1 + 1, 1, none⟩ = false
/-- a number of 128 bits that lies in a block -/
def Bk (wc : World) (B : Nat) (s : Value) (H L : Int) : Prop := s = .pointer (some ⟨B, 0, none⟩) ∧ B < wc.heap.size ∧ wc.cell? ⟨B, 0, none⟩ = some (.int .u64 H) ∧ wc.cell? ⟨B, 1, none⟩ = some (.int .u64 L)
end Go.Proofs.YtnegcifbbbmlnaaDoor
