/- An append of all of a slice of arcs to one that the call owns. -/
import Derived.Test.YtcllijjmjmfedaaCSetC
namespace Go.Proofs.Ytcllijjmjmfedaa
open Go.RowKit Go.Shelf
set_option linter.unusedVariables false
set_option linter.unusedSimpArgs false
theorem rs_news {w : World} {ad : Addr} {n cap : Nat} {B : List Pr} (h : Rs w (.slice (some ad) n cap) B) : ∀ j u, (cl B)[j]? = some u → w.cell? (ad.add j) = some u := by
  obtain ⟨a, cap', e, _, h⟩ := h
  injection e with e1 e2 e3
  subst e1
  intro j u hu
  have hj : j < B.length * 2 := by
    rw [← cl_length]
    exact (List.getElem?_eq_some_iff.1 hu).1
  obtain ⟨ad', h0, _, _, c0, c1⟩ := h (j / 2) (by omega)
  injection h0 with h0
  subst h0
  rcases Nat.mod_two_eq_zero_or_one j with hm | hm
  · have := cl_at0 B (j / 2) (by omega)
    rw [show j / 2 * 2 = j by omega] at this c0
    rw [hu] at this
    rw [c0, this]
  · have := cl_at1 B (j / 2) (by omega)
    rw [show j / 2 * 2 + 1 = j by omega] at this
    rw [hu] at this
    have e : ad.add j = ⟨(ad.add (j / 2 * 2)).block, (ad.add (j / 2 * 2)).off + 1, none⟩ := by
      have h1 : (ad.add (j / 2 * 2)).add 1 = ⟨(ad.add (j / 2 * 2)).block, (ad.add (j / 2 * 2)).off + 1, none⟩ := by simp [Addr.add]
      rw [← h1, Addr.add_add, show j / 2 * 2 + 1 = j by omega]
    rw [e, c1, this]
theorem run_append_rs (w : World) (base : Nat) (t ty e : TypeId) (i : TypeInfo) (z : Value) (ht : Try.prog.underlying t = some (.slice e)) (hi : Try.prog.info? e = some i) (hz : i.zero = some z)
    (hsize : i.size = 2) (hby : i.bytes = 16) (hzs : z.cells.size = 2)
    (v : Value) (A : List Pr) (hown : w.ownsRow base e 2 v A.length (cl A)) (x : Value) (B : List Pr) (hx : Rs w x B) (hl : A.length + B.length ≤ 100000) (hbase : base ≤ w.heap.size) :
    ∃ v' w', (Builtin.append_ #[t, t] ty #[v, x]).run Try.prog w = .ok v' w' ∧ w'.ownsRow base e 2 v' (A ++ B).length (cl (A ++ B)) ∧ w.grownBy w' v.ownBlock := by
  obtain ⟨a, cap, rfl⟩ := rs_slice hx
  cases a with
  | none =>
    have hB : B = [] := by
      cases B with
      | nil => rfl
      | cons p B =>
        obtain ⟨a, cap', e, _, h⟩ := hx
        obtain ⟨ad, h0, _⟩ := h 0 (by simp)
        injection e with e1 e2 e3
        rw [h0] at e1; cases e1
    subst hB
    refine ⟨v, w, ?_, by rw [List.append_nil]; exact hown, ⟨rfl, rfl, rfl, Nat.le_refl _, fun _ _ _ => rfl⟩⟩
    rcases hown.2 with ⟨rfl, h0⟩ | ⟨g, cp, cur, rfl, _, _, hc, _⟩
    · simp [Builtin.append_, run_underlying ht, sizeOf, typeInfo, hi, Builtin.lenOf, Builtin.firstCells, Result.andThen]
    · simp [Builtin.append_, run_underlying ht, sizeOf, typeInfo, hi, Builtin.lenOf, hc, Builtin.firstCells, storeCells, Result.andThen]
  | some ad =>
    obtain ⟨v', w', h1, h2, h3, _⟩ := run_append_own (P := Try.prog) w base t ty e i z 2 16 ht hi hz hsize hby hzs (by decide) v A.length (cl A) hown ad B.length cap (cl B) (cl_length B) (rs_news hx) (cl_one B) (by unfold maxLen; omega) (by omega) hbase
    refine ⟨v', w', h1, ?_, h3⟩
    rw [cl_append, List.length_append]
    exact h2
theorem wpList_append_rs {ops : Array Oper} {rest : List Oper} {o : Oper} {a : Act} {Q : Exit → Act → World → Prop} (w : World) (hgd : o.guard = none) (s x : Operand) (t : TypeId)
    (ho : o.op = .call { callee := .builtin .append, args := #[s, x], argTypes := #[t, t] })
    (base : Nat) (e : TypeId) (i : TypeInfo) (z : Value) (ht : Try.prog.underlying t = some (.slice e)) (hi : Try.prog.info? e = some i) (hz : i.zero = some z)
    (hsize : i.size = 2) (hby : i.bytes = 16) (hzs : z.cells.size = 2)
    (v : Value) (A : List Pr) (hs : a.eval s = v) (hown : w.ownsRow base e 2 v A.length (cl A)) (xv : Value) (B : List Pr) (hx : a.eval x = xv) (hr : Rs w xv B) (hl : A.length + B.length ≤ 100000) (hbase : base ≤ w.heap.size)
    (h : ∀ v' w', w'.ownsRow base e 2 v' (A ++ B).length (cl (A ++ B)) → w.grownBy w' v.ownBlock → wpList Try.prog ops Q rest (a.put o.dst v') w') :
    wpList Try.prog ops Q (o :: rest) a w := by
  refine wpList_plain hgd fun K hK => ?_
  obtain ⟨v', w', hr, h2, h3⟩ := run_append_rs w base t o.type e i z ht hi hz hsize hby hzs v A hown xv B hr hl hbase
  unfold Oper.wp execOp
  simp only [ho, resolve, invoke, builtin, Sem.run_bind, Sem.run_pure, Result.andThen_ok, List.map_toArray, List.map_cons, List.map_nil, hs, hx, hr]
  exact hK _ _ (h v' w' h2 h3)
theorem own_slice {w : World} {base : Nat} {e : TypeId} {v : Value} {n : Nat} {xs : List Value} (h : w.ownsRow base e 2 v n xs) : ∃ a cap, v = .slice a n cap := by
  rcases h.2 with ⟨h, h0⟩ | ⟨g, cap, _, h, _⟩
  · exact ⟨none, 0, by rw [h, h0]⟩
  · exact ⟨_, cap, h⟩
end Go.Proofs.Ytcllijjmjmfedaa
