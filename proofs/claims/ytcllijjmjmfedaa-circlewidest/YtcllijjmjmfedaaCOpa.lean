/- Arguments opened: a slice of arcs, an array of two arcs, an array of two numbers. -/
import Derived.Test.YtcllijjmjmfedaaCRow
import Derived.WalkKit
import Derived.ProofKit
import Derived.OpenShut
import Derived.ShutString
import Derived.ChangeOld
import Derived.Below
import Derived.Lib.SmallJoins
import Derived.JoinedOf
import Derived.Stop.Joined
namespace Go.Proofs.Ytcllijjmjmfedaa
open Go.ChangeShapes Go.WideShapes Go.ChangeAt Go.RowKit Go.Joins
set_option linter.unusedVariables false
set_option maxRecDepth 10000
theorem list_of {P : Nat → Int × Int → Prop} : ∀ n, (∀ i, i < n → ∃ p, P i p) → ∃ L : List (Int × Int), L.length = n ∧ ∀ i, i < n → P i (L.getD i (0, 0))
  | 0, _ => ⟨[], rfl, fun i h => by omega⟩
  | n + 1, h => by
    obtain ⟨L, h1, h2⟩ := list_of n (fun i hi => h i (by omega))
    obtain ⟨p, hp⟩ := h n (by omega)
    refine ⟨L ++ [p], by simp [h1], fun i hi => ?_⟩
    by_cases hin : i < n
    · have := h2 i hin
      rw [List.getD_eq_getElem?_getD, List.getElem?_append_left (by omega), ← List.getD_eq_getElem?_getD]
      exact this
    · have : i = n := by omega
      subst this
      rw [List.getD_eq_getElem?_getD, List.getElem?_append_right (by omega), h1]
      simpa using hp
theorem mapM_some_at {α β : Type} {f : α → Option β} {l : List α} {r : List β} (h : l.mapM f = some r) (i : Nat) (a : α) (ha : l[i]? = some a) : ∃ b, r[i]? = some b ∧ f a = some b := Lib.mapM_at h i a ha
/-- a slice of structs of two integers, opened -/
theorem open_arcs {H : Type} {enc : TypeId × Value → H} {P : Program} {w : World} {base : Nat} {spare : Nat → Bool} {held : Bool} {r : Reach} {b0 : Nat} {t e : TypeId} {f0 f1 : Field} {v : Value} {d : DataW H} {p : List MemPlace} (ht : P.underlying t = some (.slice e)) (he : P.underlying e = some (.struct #[f0, f1])) (hone : Go.Deep.oneCellFields P #[f0, f1] = true) (hCe : P.cellsOf e = 2)
    (i0 : P.underlying f0.type = some (.int .i64)) (i1 : P.underlying f1.type = some (.int .i64))
    (hv : Value.okWide P w r b0 t v) (h : DataW.Trod enc P w base spare held t v d p) :
    ∃ L : List Pr, Rs w v L := by
  obtain ⟨a0, len, cap, rfl⟩ := okWide_slice ht hv
  obtain ⟨fuel, hf⟩ := h
  rcases Go.Deep.open_slice ht hf with ⟨hcs, _⟩ | ⟨a, len', cap', m, n, D, Pl, hcs, _, hl, hm, hmm, _, hall⟩
  · simp [Value.cells] at hcs
    obtain ⟨rfl, rfl, rfl⟩ := hcs
    exact ⟨[], rs_nil w⟩
  · simp [Value.cells] at hcs
    obtain ⟨rfl, rfl, rfl⟩ := hcs
    obtain ⟨o0, k0⟩ := Go.Deep.hone_of hone 0 f0 rfl
    obtain ⟨o1, k1⟩ := Go.Deep.hone_of hone 1 f1 rfl
    have hml : len ≤ m := by rw [hmm]; split <;> omega
    have each : ∀ i, i < len → ∃ q : Int × Int, a.block < w.heap.size ∧ In q.1 ∧ In q.2 ∧ w.cell? (a.add (i * 2)) = some (.int .i64 q.1) ∧ w.cell? ⟨(a.add (i * 2)).block, (a.add (i * 2)).off + 1, none⟩ = some (.int .i64 q.2) := by
      intro i hi
      obtain ⟨cs', hc, htr⟩ := hall i (by omega)
      rw [hCe] at hc
      unfold World.cells? at hc
      split at hc
      · obtain ⟨c0, g0, e0⟩ := mapM_some_at hc 0 0 rfl
        obtain ⟨c1, g1, e1⟩ := mapM_some_at hc 1 1 rfl
        have hl2 : cs'.length = 2 := by simpa using mapM_some_length hc
        obtain ⟨x0, x1, rfl⟩ : ∃ x0 x1, cs' = [x0, x1] := by
          match cs', hl2 with
          | [x0, x1], _ => exact ⟨x0, x1, rfl⟩
        obtain ⟨y0, y1, nn, _, _, t0, t1⟩ := trod_struct2 he htr
        rw [o0, k0] at t0
        rw [o1, k1] at t1
        obtain ⟨q0, s0, _, w0⟩ := DataW.trod_int i0 t0
        obtain ⟨q1, s1, _, w1⟩ := DataW.trod_int i1 t1
        simp at s0 s1
        subst s0 s1
        simp at g0 g1
        subst g0 g1
        have b0 := bounds_i64 w0
        have b1 := bounds_i64 w1
        have z0 : (a.add (i * 2)).add 0 = a.add (i * 2) := by simp [Addr.add]
        have z1 : (a.add (i * 2)).add 1 = ⟨(a.add (i * 2)).block, (a.add (i * 2)).off + 1, none⟩ := by simp [Addr.add]
        rw [z0] at e0
        rw [z1] at e1
        have hb := World.block_lt_of_cell? w (a.add (i * 2)) e0
        rw [add_block] at hb
        exact ⟨(q0, q1), hb, b0, b1, e0, e1⟩
      · cases hc
    obtain ⟨L, hL, hE⟩ := list_of len each
    subst hL
    refine ⟨L, some a, cap, rfl, hl, fun k hk => ?_⟩
    obtain ⟨h1, h2, h3, h4, h5⟩ := hE k hk
    exact ⟨a, rfl, h1, ⟨h2, h3⟩, h4, h5⟩
theorem array4 {α : Type} {cs : Array α} (h : cs.size = 4) : ∃ c0 c1 c2 c3, cs = #[c0, c1, c2, c3] := by
  obtain ⟨l⟩ := cs
  match l, h with
  | [c0, c1, c2, c3], _ => exact ⟨c0, c1, c2, c3, rfl⟩
theorem array2 {α : Type} {cs : Array α} (h : cs.size = 2) : ∃ c0 c1, cs = #[c0, c1] := by
  obtain ⟨l⟩ := cs
  match l, h with
  | [c0, c1], _ => exact ⟨c0, c1, rfl⟩
/-- an array of two structs of two integers, opened -/
theorem open_arr2 {H : Type} {enc : TypeId × Value → H} {P : Program} {w : World} {base : Nat} {spare : Nat → Bool} {held : Bool} {r : Reach} {b0 : Nat} {t e : TypeId} {f0 f1 : Field} {v : Value} {d : DataW H} {p : List MemPlace} (ht : P.underlying t = some (.array 2 e)) (he : P.underlying e = some (.struct #[f0, f1])) (hone : Go.Deep.oneCellFields P #[f0, f1] = true) (hCe : P.cellsOf e = 2) (hC : P.cellsOf t = 4)
    (i0 : P.underlying f0.type = some (.int .i64)) (i1 : P.underlying f1.type = some (.int .i64))
    (hv : Value.okWide P w r b0 t v) (h : DataW.Trod enc P w base spare held t v d p) :
    ∃ (x0 y0 x1 y1 : Int), v = .agg #[.int .i64 x0, .int .i64 y0, .int .i64 x1, .int .i64 y1] ∧ (Lit.int .i64 x0).wf = true ∧ (Lit.int .i64 y0).wf = true ∧ (Lit.int .i64 x1).wf = true ∧ (Lit.int .i64 y1).wf = true := by
  unfold Value.okWide at hv
  rw [ht] at hv
  obtain ⟨cs, rfl, hsz, _⟩ := hv
  obtain ⟨c0, c1, c2, c3, rfl⟩ := array4 (hsz.trans hC)
  obtain ⟨fuel, hf⟩ := h
  obtain ⟨xs, m, _, hx, _, hlen, hall⟩ := DataW.trod_array ht hf
  obtain ⟨o0, k0⟩ := Go.Deep.hone_of hone 0 f0 rfl
  obtain ⟨o1, k1⟩ := Go.Deep.hone_of hone 1 f1 rfl
  match xs, hlen with
  | [u0, u1], _ =>
    have e0 := hall 0 (by omega)
    have e1 := hall 1 (by omega)
    rw [hCe] at e0 e1
    simp only [Value.cells, List.drop, List.take, Nat.one_mul, List.getElem?_cons_zero, List.getElem?_cons_succ] at e0 e1
    obtain ⟨y0, y1, n, _, _, g0, g1⟩ := trod_struct2 he e0
    obtain ⟨y2, y3, n2, _, _, g2, g3⟩ := trod_struct2 he e1
    obtain ⟨a0, q0, _, w0⟩ := DataW.trod_int i0 g0
    obtain ⟨a1, q1, _, w1⟩ := DataW.trod_int i1 g1
    obtain ⟨a2, q2, _, w2⟩ := DataW.trod_int i0 g2
    obtain ⟨a3, q3, _, w3⟩ := DataW.trod_int i1 g3
    simp [o0, k0] at q0 q2
    simp [o1, k1] at q1 q3
    subst q0 q1 q2 q3
    exact ⟨a0, a1, a2, a3, rfl, w0, w1, w2, w3⟩
/-- an array of two integers, opened -/
theorem open_num2 {H : Type} {enc : TypeId × Value → H} {P : Program} {w : World} {base : Nat} {spare : Nat → Bool} {held : Bool} {r : Reach} {b0 : Nat} {t e : TypeId} {v : Value} {d : DataW H} {p : List MemPlace} (ht : P.underlying t = some (.array 2 e)) (i0 : P.underlying e = some (.int .i64)) (hCe : P.cellsOf e = 1) (hC : P.cellsOf t = 2)
    (hv : Value.okWide P w r b0 t v) (h : DataW.Trod enc P w base spare held t v d p) :
    ∃ (x0 x1 : Int), v = .agg #[.int .i64 x0, .int .i64 x1] ∧ (Lit.int .i64 x0).wf = true ∧ (Lit.int .i64 x1).wf = true := by
  unfold Value.okWide at hv
  rw [ht] at hv
  obtain ⟨cs, rfl, hsz, _⟩ := hv
  obtain ⟨c0, c1, rfl⟩ := array2 (hsz.trans hC)
  obtain ⟨fuel, hf⟩ := h
  obtain ⟨xs, m, _, hx, _, hlen, hall⟩ := DataW.trod_array ht hf
  match xs, hlen with
  | [u0, u1], _ =>
    have e0 := hall 0 (by omega)
    have e1 := hall 1 (by omega)
    rw [hCe] at e0 e1
    simp only [Value.cells, List.drop, List.take, Nat.one_mul, List.getElem?_cons_zero, List.getElem?_cons_succ] at e0 e1
    obtain ⟨a0, q0, _, w0⟩ := DataW.trod_int i0 e0
    obtain ⟨a1, q1, _, w1⟩ := DataW.trod_int i0 e1
    simp at q0 q1
    subst q0 q1
    exact ⟨a0, a1, rfl, w0, w1⟩
end Go.Proofs.Ytcllijjmjmfedaa
