/- Package group: what Lay told, in a box of the law's. -/
import Derived.Test.YtakandlehneciaaGqC
namespace Go.Proofs.Ytakandlehneciaa
open Go.RowKit
attribute [local go_sem ↓] Go.wp_at_zero Go.wp_at_succ
set_option linter.unusedVariables false
set_option linter.unusedSimpArgs false
set_option maxRecDepth 10000
namespace Gp
open Pa
theorem Ft.kt {A : TypeId → Prop} {RR : List (List Int)} {w w' : World} {v : Value} {B : Option Bt} (h : Ft RR w v B) (hk : Kt A w w') (h1 : ¬ A 49) (h2 : ¬ A 3) (h3 : ¬ A 39) (h4 : ¬ A T2) : Ft RR w' v B := by
  cases B with
  | none => exact h
  | some b =>
    obtain ⟨vo, st, e, g1, g2⟩ := h
    exact ⟨vo, st, e, g1.kt hk h1 h2, g2.kt hk h3 h4⟩
/-- a layout that was told, in a box -/
def Bxf (RR : List (List Int)) (B : Option Bt) (w wc : World) (fb : Nat) : Prop := ∃ (x : Int) (ao : Option Addr) (lo co : Nat) (as9 : Option Addr) (ls cs : Nat), wc.heap[fb]? = some (.cells #[.int .i64 x, .slice ao lo co, .slice as9 ls cs] 30 (0, 0)) ∧ Ft RR wc (.agg #[.int .i64 x, .slice ao lo co, .slice as9 ls cs]) B ∧ Keep w wc ∧ w.heap.size ≤ fb
theorem Bxf.mv {RR : List (List Int)} {B : Option Bt} {w wc w' : World} {fb : Nat} (h : Bxf RR B w wc fb) (hk : Keep wc w') : Bxf RR B w w' fb := by
  obtain ⟨x, ao, lo, co, as9, ls, cs, h1, h2, h3, h4⟩ := h
  exact ⟨x, ao, lo, co, as9, ls, cs, (hk.block _ (Array.getElem?_eq_some_iff.1 h1).1).trans h1, h2.keep hk, h3.trans hk, h4⟩
theorem Bxf.kp {RR : List (List Int)} {B : Option Bt} {w wc : World} {fb : Nat} (h : Bxf RR B w wc fb) : Keep w wc := by
  obtain ⟨x, ao, lo, co, as9, ls, cs, h1, h2, h3, h4⟩ := h
  exact h3
theorem lay_end {RR : List (List Int)} {B : Option Bt} {w w5 : World} {fb : Nat} {x : Int} {ao : Option Addr} {lo co : Nat} {as9 : Option Addr} {ls cs : Nat} {arr0 arr1 arr2 : Value} (hk : Keep w w5) (hl : w.heap.size ≤ fb) (hb : w5.heap[fb]? = some (.cells #[arr0, arr1, arr2] 30 (0, 0))) (hf : Ft RR w5 (.agg #[.int .i64 x, .slice ao lo co, .slice as9 ls cs]) B) :
    Bxf RR B w (((w5.setCell ⟨fb, 0, none⟩ (.int .i64 x)).setCell ⟨fb, 1, none⟩ (.slice ao lo co)).setCell ⟨fb, 2, none⟩ (.slice as9 ls cs)) fb := by
  have q1 := heap_setCell_same _ fb 0 _ _ (.int .i64 x) hb
  have q2 := heap_setCell_same _ fb 1 _ _ (.slice ao lo co) q1
  have kt : Kt (fun e => e = 30) w5 (((w5.setCell ⟨fb, 0, none⟩ (.int .i64 x)).setCell ⟨fb, 1, none⟩ (.slice ao lo co)).setCell ⟨fb, 2, none⟩ (.slice as9 ls cs)) := ((Kt.set (A := fun e => e = 30) (i := 0) hb rfl).trans (Kt.set (A := fun e => e = 30) (i := 1) q1 rfl)).trans (Kt.set (A := fun e => e = 30) (i := 2) q2 rfl)
  exact ⟨x, ao, lo, co, as9, ls, cs, fit_sto hb _ _ _, hf.kt kt (by decide) (by decide) (by decide) (by decide), Below.setCell (Below.setCell (Below.setCell hk hl _) hl _) hl _, hl⟩
/-- a box that is made at once -/
theorem lay_new {RR : List (List Int)} {B : Option Bt} {w w5 : World} {x : Int} {ao : Option Addr} {lo co : Nat} {as9 : Option Addr} {ls cs : Nat} (hk : Keep w w5) (hf : Ft RR w5 (.agg #[.int .i64 x, .slice ao lo co, .slice as9 ls cs]) B) :
    Bxf RR B w (w5.alloc (.cells #[.int .i64 x, .slice ao lo co, .slice as9 ls cs] 30)) w5.heap.size := ⟨x, ao, lo, co, as9, ls, cs, heap_alloc_new _ _, hf.keep ((Keep.refl w5).alloc _), hk.alloc _, Below.size hk⟩
end Gp
end Go.Proofs.Ytakandlehneciaa
