/- Arguments opened: arrays of two and of four numbers. -/
import Derived.Test.YtfholjcncnbocaaNum
import Derived.WalkKit
import Derived.ProofKit
import Derived.OpenShut
import Derived.ShutString
import Derived.ChangeOld
import Derived.Below
namespace Go.Proofs.Ytfholjcncnbocaa
open Go.ChangeShapes Go.WideShapes Go.ChangeAt Go.RowKit
set_option linter.unusedVariables false
/-- an array of two integers, opened -/
theorem open_num2 {H : Type} {enc : TypeId × Value → H} {P : Program} {w : World} {base : Nat} {spare : Nat → Bool} {held : Bool} {r : Reach} {b0 : Nat} {t e : TypeId} {v : Value} {d : DataW H} {p : List MemPlace} (ht : P.underlying t = some (.array 2 e)) (i0 : P.underlying e = some (.int .i64)) (hCe : P.cellsOf e = 1) (hC : P.cellsOf t = 2)
    (hv : Value.okWide P w r b0 t v) (h : DataW.Trod enc P w base spare held t v d p) :
    ∃ (x0 x1 : Int), v = .agg #[.int .i64 x0, .int .i64 x1] ∧ (Lit.int .i64 x0).wf = true ∧ (Lit.int .i64 x1).wf = true := by
  unfold Value.okWide at hv
  rw [ht] at hv
  obtain ⟨cs, rfl, hsz, _⟩ := hv
  obtain ⟨c0, c1, rfl⟩ : ∃ c0 c1, cs = #[c0, c1] := by
    have h2 := hsz.trans hC
    obtain ⟨l⟩ := cs
    match l, h2 with
    | [a, b], _ => exact ⟨a, b, rfl⟩
  obtain ⟨fuel, hf⟩ := h
  obtain ⟨xs, m, _, hx, _, hlen, hall⟩ := DataW.trod_array ht hf
  match xs, hlen with
  | [u0, u1], _ =>
    have e0 := hall 0 (by omega)
    have e1 := hall 1 (by omega)
    rw [hCe] at e0 e1
    simp only [Value.cells, List.drop, List.take, Nat.one_mul, List.getElem?_cons_zero, List.getElem?_cons_succ] at e0 e1
    obtain ⟨a0, q0, _, w0⟩ := DataW.trod_int i0 e0
    obtain ⟨a1, q1, _, w1⟩ := DataW.trod_int i0 e1
    simp at q0 q1
    subst q0 q1
    exact ⟨a0, a1, rfl, w0, w1⟩
/-- an array of four integers, opened -/
theorem open_num4 {H : Type} {enc : TypeId × Value → H} {P : Program} {w : World} {base : Nat} {spare : Nat → Bool} {held : Bool} {r : Reach} {b0 : Nat} {t e : TypeId} {v : Value} {d : DataW H} {p : List MemPlace} (ht : P.underlying t = some (.array 4 e)) (i0 : P.underlying e = some (.int .i64)) (hCe : P.cellsOf e = 1) (hC : P.cellsOf t = 4)
    (hv : Value.okWide P w r b0 t v) (h : DataW.Trod enc P w base spare held t v d p) :
    ∃ (x0 x1 x2 x3 : Int), v = .agg #[.int .i64 x0, .int .i64 x1, .int .i64 x2, .int .i64 x3] ∧ (Lit.int .i64 x0).wf = true ∧ (Lit.int .i64 x1).wf = true ∧ (Lit.int .i64 x2).wf = true ∧ (Lit.int .i64 x3).wf = true := by
  unfold Value.okWide at hv
  rw [ht] at hv
  obtain ⟨cs, rfl, hsz, _⟩ := hv
  obtain ⟨c0, c1, c2, c3, rfl⟩ : ∃ c0 c1 c2 c3, cs = #[c0, c1, c2, c3] := by
    have h2 := hsz.trans hC
    obtain ⟨l⟩ := cs
    match l, h2 with
    | [a, b, c, d], _ => exact ⟨a, b, c, d, rfl⟩
  obtain ⟨fuel, hf⟩ := h
  obtain ⟨xs, m, _, hx, _, hlen, hall⟩ := DataW.trod_array ht hf
  match xs, hlen with
  | [u0, u1, u2, u3], _ =>
    have e0 := hall 0 (by omega)
    have e1 := hall 1 (by omega)
    have e2 := hall 2 (by omega)
    have e3 := hall 3 (by omega)
    rw [hCe] at e0 e1 e2 e3
    simp only [Value.cells, List.drop, List.take, Nat.one_mul, List.getElem?_cons_zero, List.getElem?_cons_succ] at e0 e1 e2 e3
    obtain ⟨a0, q0, _, w0⟩ := DataW.trod_int i0 e0
    obtain ⟨a1, q1, _, w1⟩ := DataW.trod_int i0 e1
    obtain ⟨a2, q2, _, w2⟩ := DataW.trod_int i0 e2
    obtain ⟨a3, q3, _, w3⟩ := DataW.trod_int i0 e3
    simp at q0 q1 q2 q3
    subst q0 q1 q2 q3
    exact ⟨a0, a1, a2, a3, rfl, w0, w1, w2, w3⟩
end Go.Proofs.Ytfholjcncnbocaa
