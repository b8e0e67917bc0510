/- Arguments opened: edges in a row, an edge; the table of the library. -/
import Derived.Test.YtfofkkjldngkaaaDoorPcD
import Derived.WalkKit
import Derived.ProofKit
import Derived.OpenShut
import Derived.ShutString
import Derived.ChangeOld
import Derived.Below
import Derived.Lib.SmallJoins
import Derived.Lib.LaidTab
import Derived.JoinedOf
import Derived.SevenTiedAt
import Derived.LaidHandle
import Derived.LaidLaws
import Derived.LaidMore
import Derived.LaidOnce
import Derived.Stop.Joined
namespace Go.Proofs.YtfofkkjldngkaaaDoor
open Go.ChangeShapes Go.WideShapes Go.ChangeAt Go.RowKit Go.Joins
open Go.WideMaps Go.WideElems
set_option linter.unusedVariables false
set_option linter.unusedSimpArgs false
set_option maxRecDepth 10000
namespace Pa
theorem list_of {P : Nat → E3 → Prop} : ∀ n, (∀ i, i < n → ∃ p, P i p) → ∃ L : List E3, L.length = n ∧ ∀ i, i < n → P i (L.getD i z3)
  | 0, _ => ⟨[], rfl, fun i h => by omega⟩
  | n + 1, h => by
    obtain ⟨L, h1, h2⟩ := list_of n (fun i hi => h i (by omega))
    obtain ⟨p, hp⟩ := h n (by omega)
    refine ⟨L ++ [p], by simp [h1], fun i hi => ?_⟩
    by_cases hin : i < n
    · have := h2 i hin
      rw [List.getD_eq_getElem?_getD, List.getElem?_append_left (by omega), ← List.getD_eq_getElem?_getD]
      exact this
    · have : i = n := by omega
      subst this
      rw [List.getD_eq_getElem?_getD, List.getElem?_append_right (by omega), h1]
      simpa using hp
theorem edge_cells {H : Type} {enc : TypeId × Value → H} {w : World} {base : Nat} {spare : Nat → Bool} {held : Bool} {fuel : Nat} {cs : List Value} {x : DataW H × List MemPlace} (h : DataW.trod enc Tryd.prog w base spare held fuel 34 cs = some x) : ∃ q : E3, cs = [.int .i64 q.1, .int .i64 q.2.1, .int .i64 q.2.2] ∧ (-9223372036854775808 ≤ q.2.2 ∧ q.2.2 ≤ 9223372036854775807) := by
  obtain ⟨xs, m, _, _, hl, hxl, hf⟩ := DataW.trod_struct Tryd.underlying34 h
  have cE : Tryd.prog.cellsOf 34 = 3 := by kernel_rfl
  have cN : Tryd.prog.cellsOf 3 = 1 := by kernel_rfl
  have cI : Tryd.prog.cellsOf 2 = 1 := by kernel_rfl
  rw [cE] at hl
  have t0 := hf 0 _ rfl
  have t1 := hf 1 _ rfl
  have t2 := hf 2 _ rfl
  match xs, hxl with
  | [y0, y1, y2], _ =>
    obtain ⟨x0, x1, x2, rfl⟩ : ∃ x0 x1 x2, cs = [x0, x1, x2] := by
      match cs, hl with
      | [x0, x1, x2], _ => exact ⟨x0, x1, x2, rfl⟩
    simp [cN, cI] at t0 t1 t2
    obtain ⟨a0, q0, _, w0⟩ := DataW.trod_int Tryd.underlying3 t0
    obtain ⟨a1, q1, _, w1⟩ := DataW.trod_int Tryd.underlying3 t1
    obtain ⟨a2, q2, _, w2⟩ := DataW.trod_int Tryd.underlying2 t2
    simp only [List.cons.injEq, and_true] at q0 q1 q2
    subst q0 q1 q2
    exact ⟨(a0, a1, a2), rfl, bounds_i64 w2⟩
theorem mapM_some_at {α β : Type} {f : α → Option β} {l : List α} {r : List β} (h : l.mapM f = some r) (i : Nat) (a : α) (ha : l[i]? = some a) : ∃ b, r[i]? = some b ∧ f a = some b := Lib.mapM_at h i a ha
/-- a slice of edges, opened -/
theorem open_edges {H : Type} {enc : TypeId × Value → H} {w : World} {base : Nat} {spare : Nat → Bool} {held : Bool} {r : Reach} {b0 : Nat} {v : Value} {d : DataW H} {p : List MemPlace}
    (hv : Value.okWide Tryd.prog w r b0 22 v) (h : DataW.Trod enc Tryd.prog w base spare held 22 v d p) :
    ∃ R : List E3, Es w v R := by
  obtain ⟨a0, len, cap, rfl⟩ := okWide_slice Tryd.underlying22 hv
  obtain ⟨fuel, hf⟩ := h
  have cE : Tryd.prog.cellsOf 34 = 3 := by kernel_rfl
  rcases Go.Deep.open_slice Tryd.underlying22 hf with ⟨hcs, _⟩ | ⟨a, len', cap', m, n, D, Pl, hcs, _, hl, hm, hmm, _, hall⟩
  · simp [Value.cells] at hcs
    obtain ⟨rfl, rfl, rfl⟩ := hcs
    exact ⟨[], none, 0, rfl, fun k hk => by simp at hk⟩
  · simp [Value.cells] at hcs
    obtain ⟨rfl, rfl, rfl⟩ := hcs
    have hml : len ≤ m := by rw [hmm]; split <;> omega
    have each : ∀ i, i < len → ∃ q : E3, C3 w (a.add (i * 3)) q := by
      intro i hi
      obtain ⟨cs', hc, htr⟩ := hall i (by omega)
      rw [cE] at hc
      unfold World.cells? at hc
      split at hc
      · obtain ⟨c0, g0, e0⟩ := mapM_some_at hc 0 0 rfl
        obtain ⟨c1, g1, e1⟩ := mapM_some_at hc 1 1 rfl
        obtain ⟨c2, g2, e2⟩ := mapM_some_at hc 2 2 rfl
        obtain ⟨q, rfl, _⟩ := edge_cells htr
        simp at g0 g1 g2
        subst g0 g1 g2
        have z0 : (a.add (i * 3)).add 0 = a.add (i * 3) := by simp [Addr.add]
        have z1 : (a.add (i * 3)).add 1 = ⟨(a.add (i * 3)).block, (a.add (i * 3)).off + 1, none⟩ := by simp [Addr.add]
        have z2 : (a.add (i * 3)).add 2 = ⟨(a.add (i * 3)).block, (a.add (i * 3)).off + 2, none⟩ := by simp [Addr.add]
        rw [z0] at e0
        rw [z1] at e1
        rw [z2] at e2
        exact ⟨q, e0, e1, e2⟩
      · cases hc
    obtain ⟨L, hL, hE⟩ := list_of len each
    subst hL
    exact ⟨L, some a, cap, rfl, fun k hk => ⟨a, rfl, hE k hk⟩⟩
/-- an edge, opened -/
theorem open_edge {H : Type} {enc : TypeId × Value → H} {w : World} {base : Nat} {spare : Nat → Bool} {held : Bool} {r : Reach} {b0 : Nat} {v : Value} {d : DataW H} {p : List MemPlace}
    (hv : Value.okWide Tryd.prog w r b0 34 v) (h : DataW.Trod enc Tryd.prog w base spare held 34 v d p) :
    ∃ q : E3, v = .agg #[.int .i64 q.1, .int .i64 q.2.1, .int .i64 q.2.2] ∧ (-9223372036854775808 ≤ q.2.2 ∧ q.2.2 ≤ 9223372036854775807) := by
  obtain ⟨cs, rfl, hsz⟩ := okWide_struct Tryd.underlying34 hv
  obtain ⟨fuel, hf⟩ := h
  obtain ⟨q, h1, h2⟩ := edge_cells hf
  refine ⟨q, ?_, h2⟩
  have : cs.toList = [.int .i64 q.1, .int .i64 q.2.1, .int .i64 q.2.2] := by simpa [Value.cells] using h1
  rw [← Array.toArray_toList (xs := cs), this]
/-- the table, out of what the row says -/
theorem tab_of {rest : List (String × DataW Unit)} {W : World} (h : laidMet Tryd.prog (("math/bits.deBruijn64tab", Lib.tabData .u8 (Lib.deBruijn64tab.map fun x : Nat => (x : Int))) :: rest) W) : Tab W := by
  have hg : Tryd.prog.globalNamed "math/bits.deBruijn64tab" = some 0 := by kernel_rfl
  have ht := Lib.tabIs_of_head hg (t := 71) (by kernel_rfl) Tryd.underlying71 (by kernel_rfl) (by kernel_rfl) (by kernel_rfl) h
  intro j hj
  have h1 := ht.cell hg j (by simpa using hj)
  rw [h1, List.getD_eq_getElem?_getD, List.getD_eq_getElem?_getD, List.getElem?_map, List.getElem?_eq_getElem hj]
  rfl
theorem lg_len (n : Int) (R : List E3) : (lg n R).1.length ≤ 64 := by
  by_cases h : (lg n R).2 = 0
  · obtain ⟨m, d, rfl, _, _, h2, _, hd, he, _⟩ := lg_ok h
    rw [he]
    simp only [hd.1.1]; exact h2
  · cases hG : isG n R with
    | false => rw [lg_no hG]; simp
    | true =>
      obtain ⟨m, rfl, _⟩ := isG_gr hG
      rw [lg_yes hG] at h ⊢
      rcases lgd_or (n := m) (nE R) with h3 | ⟨d, h3, h4⟩
      · rw [h3]; simp
      · rw [h4] at h; exact absurd rfl h
theorem lg_err {n : Int} {R : List E3} (h : (lg n R).2 ≠ 0) : (lg n R).1 = [] := by
  cases hG : isG n R with
  | false => rw [lg_no hG]
  | true =>
    obtain ⟨m, rfl, _⟩ := isG_gr hG
    rw [lg_yes hG] at h ⊢
    rcases lgd_or (n := m) (nE R) with h3 | ⟨d, h3, h4⟩
    · rw [h3]
    · rw [h4] at h; exact absurd rfl h
theorem wy_len (n : Int) (R : List E3) (td : Int) : (wy n R td).length ≤ 64 := by
  unfold wy
  split
  · rename_i h
    obtain ⟨m, d, rfl, _, _, h2, _, hd, he, _⟩ := lg_ok h.1
    rw [nI_len]
    exact Nat.le_trans (on_len _ _ _ _ _ _) (by simpa using h2)
  · simp
end Pa
end Go.Proofs.YtfofkkjldngkaaaDoor
