/- Bytes appended to bytes that the call owns. -/
import Derived.Test.YtmplckdpddmifaaGreatDoorLToks
namespace Go.Proofs.YtmplckdpddmifaaGreatDoor
open Go.RowKit
set_option linter.unusedVariables false
set_option linter.unusedSimpArgs false
set_option maxRecDepth 10000
/-- bytes as cells -/
def bc (l : List UInt8) : List Value := l.map fun x => Value.int .u8 (x.toNat : Int)
theorem bc_length (l : List UInt8) : (bc l).length = l.length := List.length_map _
theorem bc_append (l m : List UInt8) : bc (l ++ m) = bc l ++ bc m := List.map_append
theorem infoY : (Tryz.prog.info? 5).map (fun i => (i.zero, i.size, i.bytes)) = some (some (.int .u8 0), 1, 1) := by kernel_rfl
theorem by_own {w : World} {base : Nat} {e : TypeId} {v : Value} {l : List UInt8} (h : w.ownsRow base e 1 v l.length (bc l)) : By w v l := by
  obtain ⟨_, h⟩ := h
  rcases h with ⟨rfl, h0⟩ | ⟨g, cap, cur, rfl, hb, hg, hc, hm, hs, ht⟩
  · have : l = [] := List.eq_nil_of_length_eq_zero h0
    subst this
    exact by_nil w
  · refine ⟨_, cap, rfl, hc, fun k hk => ⟨_, rfl, (Array.getElem?_eq_some_iff.1 hg).1, ?_⟩⟩
    rw [add_plain, Nat.zero_add]
    have h1 : (bc l)[k]? = some (.int .u8 ((l.getD k 0).toNat : Int)) := by
      unfold bc
      rw [List.getElem?_map, List.getD_eq_getElem?_getD, List.getElem?_eq_getElem hk]; rfl
    rw [← ht, List.getElem?_take_of_lt (by omega)] at h1
    simp only [World.cell?, hg]
    simpa using h1
theorem run_append_by (w : World) (base : Nat) (t ty : TypeId) (ht : Tryz.prog.underlying t = some (.slice 5))
    (v : Value) (A : List UInt8) (hown : w.ownsRow base 5 1 v A.length (bc A)) (x : Value) (B : List UInt8) (hx : By w x B) (hl : A.length + B.length ≤ 100000) (hbase : base ≤ w.heap.size) :
    ∃ v' w', (Builtin.append_ #[t, t] ty #[v, x]).run Tryz.prog w = .ok v' w' ∧ w'.ownsRow base 5 1 v' (A ++ B).length (bc (A ++ B)) ∧ w.grownBy w' v.ownBlock := by
  obtain ⟨i, hi, hz, hsize, hby⟩ := info_parts infoY
  obtain ⟨a, cap, rfl, _, hc⟩ := hx
  cases a with
  | none =>
    have hB : B = [] := by
      cases B with
      | nil => rfl
      | cons p B => obtain ⟨ad, h0, _⟩ := hc 0 (by simp); cases h0
    subst hB
    refine ⟨v, w, ?_, by rw [List.append_nil]; exact hown, ⟨rfl, rfl, rfl, Nat.le_refl _, fun _ _ _ => rfl⟩⟩
    rcases hown.2 with ⟨rfl, h0⟩ | ⟨g, cp, cur, rfl, _, _, hc, _⟩
    · simp [Builtin.append_, run_underlying ht, sizeOf, typeInfo, hi, Builtin.lenOf, Builtin.firstCells, Result.andThen]
    · simp [Builtin.append_, run_underlying ht, sizeOf, typeInfo, hi, Builtin.lenOf, hc, Builtin.firstCells, storeCells, Result.andThen]
  | some ad =>
    obtain ⟨v', w', h1, h2, h3, _⟩ := run_append_own (P := Tryz.prog) w base t ty 5 i _ 1 1 ht hi hz hsize hby rfl (by decide) v A.length (bc A) hown ad B.length cap (bc B) (by rw [bc_length]; omega)
      (fun j u hu => by
        have hj : j < B.length := by have := (List.getElem?_eq_some_iff.1 hu).1; rwa [bc_length] at this
        obtain ⟨ad', e, _, hcj⟩ := hc j hj
        injection e with e
        subst e
        rw [hcj]
        unfold bc at hu
        rw [List.getElem?_map, List.getElem?_eq_getElem hj] at hu
        rw [List.getD_eq_getElem?_getD, List.getElem?_eq_getElem hj]
        exact hu)
      (fun u hu => by unfold bc at hu; obtain ⟨x, _, rfl⟩ := List.mem_map.1 hu; rfl) (by unfold maxLen; omega) (by omega) hbase
    refine ⟨v', w', h1, ?_, h3⟩
    rw [bc_append, List.length_append]
    exact h2
theorem wpList_append_by {ops : Array Oper} {rest : List Oper} {o : Oper} {a : Act} {Q : Exit → Act → World → Prop} (w : World) (hgd : o.guard = none) (s x : Operand) (t : TypeId)
    (ho : o.op = .call { callee := .builtin .append, args := #[s, x], argTypes := #[t, t] })
    (base : Nat) (ht : Tryz.prog.underlying t = some (.slice 5))
    (v : Value) (A : List UInt8) (hs : a.eval s = v) (hown : w.ownsRow base 5 1 v A.length (bc A)) (xv : Value) (B : List UInt8) (hx : a.eval x = xv) (hr : By w xv B) (hl : A.length + B.length ≤ 100000) (hbase : base ≤ w.heap.size)
    (h : ∀ v' w', w'.ownsRow base 5 1 v' (A ++ B).length (bc (A ++ B)) → w.grownBy w' v.ownBlock → wpList Tryz.prog ops Q rest (a.put o.dst v') w') :
    wpList Tryz.prog ops Q (o :: rest) a w := by
  refine wpList_plain hgd fun K hK => ?_
  obtain ⟨v', w', hr, h2, h3⟩ := run_append_by w base t o.type ht v A hown xv B hr hl hbase
  unfold Oper.wp execOp
  simp only [ho, resolve, invoke, builtin, Sem.run_bind, Sem.run_pure, Result.andThen_ok, List.map_toArray, List.map_cons, List.map_nil, hs, hx, hr]
  exact hK _ _ (h v' w' h2 h3)
end Go.Proofs.YtmplckdpddmifaaGreatDoor
