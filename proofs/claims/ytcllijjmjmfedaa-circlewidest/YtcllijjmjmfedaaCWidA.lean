/- An append of arcs onto a row of the call's own, and where the new row lies. -/
import Derived.Test.YtcllijjmjmfedaaCApp
namespace Go.Proofs.Ytcllijjmjmfedaa
open Go.RowKit Go.Shelf
set_option linter.unusedVariables false
set_option linter.unusedSimpArgs false
theorem run_append_rs2 (w : World) (base : Nat) (t ty e : TypeId) (i : TypeInfo) (z : Value) (ht : Try.prog.underlying t = some (.slice e)) (hi : Try.prog.info? e = some i) (hz : i.zero = some z)
    (hsize : i.size = 2) (hby : i.bytes = 16) (hzs : z.cells.size = 2)
    (v : Value) (A : List Pr) (hown : w.ownsRow base e 2 v A.length (cl A)) (x : Value) (B : List Pr) (hx : Rs w x B) (hl : A.length + B.length ≤ 100000) (hbase : base ≤ w.heap.size) :
    ∃ v' w', (Builtin.append_ #[t, t] ty #[v, x]).run Try.prog w = .ok v' w' ∧ w'.ownsRow base e 2 v' (A ++ B).length (cl (A ++ B)) ∧ w.grownBy w' v.ownBlock ∧ (v'.ownBlock = v.ownBlock ∨ v'.ownBlock = some w.heap.size) := by
  obtain ⟨a, cap, rfl⟩ := rs_slice hx
  cases a with
  | none =>
    have hB : B = [] := by
      cases B with
      | nil => rfl
      | cons p B =>
        obtain ⟨a, cap', e, _, h⟩ := hx
        obtain ⟨ad, h0, _⟩ := h 0 (by simp)
        injection e with e1 e2 e3
        rw [h0] at e1; cases e1
    subst hB
    refine ⟨v, w, ?_, by rw [List.append_nil]; exact hown, ⟨rfl, rfl, rfl, Nat.le_refl _, fun _ _ _ => rfl⟩, .inl rfl⟩
    rcases hown.2 with ⟨rfl, h0⟩ | ⟨g, cp, cur, rfl, _, _, hc, _⟩
    · simp [Builtin.append_, run_underlying ht, sizeOf, typeInfo, hi, Builtin.lenOf, Builtin.firstCells, Result.andThen]
    · simp [Builtin.append_, run_underlying ht, sizeOf, typeInfo, hi, Builtin.lenOf, hc, Builtin.firstCells, storeCells, Result.andThen]
  | some ad =>
    obtain ⟨v', w', h1, h2, h3, h4⟩ := run_append_own (P := Try.prog) w base t ty e i z 2 16 ht hi hz hsize hby hzs (by decide) v A.length (cl A) hown ad B.length cap (cl B) (cl_length B) (rs_news hx) (cl_one B) (by unfold maxLen; omega) (by omega) hbase
    have hB2 : (cl B).length = B.length * i.size := by rw [hsize]; exact cl_length B
    refine ⟨v', w', h1, by rw [cl_append, List.length_append]; exact h2, h3, ?_⟩
    rcases hown.2 with ⟨rfl, h0⟩ | ⟨g, cp, cur, rfl, hbg, hg, hnc, hcm, hcs, htake⟩
    · by_cases hm : B.length = 0
      · left; rw [h4.2 ⟨rfl, hm⟩]
      · right
        have hr2 := run_append_nil (P := Try.prog) w t ty e i z ht hi hz ad B.length cap (cl B) hB2 (rs_news hx) (by omega) (by omega) (by rw [hby]; omega)
        injection (h1.symm.trans hr2) with e1 _
        rw [e1]; rfl
    · by_cases hroom : A.length + B.length ≤ cp
      · left
        have hr2 := run_append_room (P := Try.prog) w t ty e i ht hi g A.length cp cur hg ad B.length cap (cl B) hB2 (rs_news hx) (cl_one B) hroom (by rw [cl_length, hcs, hsize]; omega)
        injection (h1.symm.trans hr2) with e1 _
        rw [e1]; rfl
      · right
        have hr2 := run_append_grow (P := Try.prog) w t ty e i z ht hi hz ⟨g, 0, none⟩ A.length cp (cl A) (by rw [hsize]; exact cl_length A) (hown.cells (g := g) rfl) ad B.length cap (cl B) hB2 (rs_news hx) (by omega) (by omega) (growslice_fits (by omega) (by rw [hby]; omega))
        injection (h1.symm.trans hr2) with e1 _
        rw [e1]; rfl
/-- a box of two, of the call's own, apart from the owned slice v -/
def Bx (n₀ : Nat) (W : World) (v : Value) (g : Nat) (p : Pr) : Prop := Two W g 33 p ∧ n₀ ≤ g ∧ v.ownBlock ≠ some g
/-- a slice of arcs of the call's own -/
def Ow (n₀ : Nat) (W : World) (v : Value) (A : List Pr) : Prop := W.ownsRow n₀ 33 2 v A.length (cl A)
theorem Ow.alloc {n₀ : Nat} {W : World} {v : Value} {A : List Pr} (h : Ow n₀ W v A) (o : Obj) : Ow n₀ (W.alloc o) v A := World.ownsRow.alloc h o
theorem Bx.alloc {n₀ : Nat} {W : World} {v : Value} {g : Nat} {p : Pr} (h : Bx n₀ W v g p) (o : Obj) : Bx n₀ (W.alloc o) v g p := ⟨h.1.alloc o, h.2⟩
theorem bx_new {wa W : World} {v : Value} (hk : Keep wa W) (p : Pr) (hv : ∀ g, v.ownBlock = some g → g < W.heap.size) : Bx wa.heap.size (W.alloc (.cells #[.int .i64 p.1, .int .i64 p.2] 33)) v W.heap.size p :=
  ⟨Two.new W _ p, Below.size hk, fun e => by have := hv _ e; omega⟩
theorem ow_lt {n₀ : Nat} {W : World} {v : Value} {A : List Pr} (h : Ow n₀ W v A) : ∀ g, v.ownBlock = some g → g < W.heap.size := fun g e => (World.ownsRow.lt h g e).2
theorem ow_new {wa W : World} (hk : Keep wa W) : Ow wa.heap.size (W.alloc (.cells #[] 33)) (.slice (some ⟨W.heap.size, 0, none⟩) 0 0) [] :=
  World.ownsRow_made (size := 2) W #[] 0 (Below.size hk) (by unfold maxLen; omega) rfl
theorem Bx.ow {n₀ : Nat} {W : World} {v : Value} {g : Nat} {p : Pr} (h : Bx n₀ W v g p) (o : Obj) : Bx n₀ (W.alloc o) (.slice (some ⟨W.heap.size, 0, none⟩) 0 0) g p :=
  ⟨h.1.alloc o, h.2.1, fun e => by have := h.1.lt; simp only [Value.ownBlock, Option.some.injEq] at e; omega⟩
theorem Bx.keep {n₀ : Nat} {W W' : World} {v : Value} {g : Nat} {p : Pr} (h : Bx n₀ W v g p) (hk : Keep W W') : Bx n₀ W' v g p := ⟨h.1.keep hk, h.2⟩
theorem rs_two {W : World} {g : Nat} {p : Pr} (h : Two W g 33 p) (hp : InP p) : Rs W (.slice (some ⟨g, 0, none⟩) 1 1) [p] := by
  refine ⟨_, 1, rfl, Nat.le_refl _, fun k hk => ⟨_, rfl, h.lt, ?_, ?_, ?_⟩⟩
  all_goals
    have : k = 0 := by simp at hk; exact hk
    subst this
  · exact hp
  · rw [add_plain]; exact h.c0
  · rw [add_plain]; exact h.c1
theorem app_step {wa W : World} {v : Value} {A : List Pr} {xv : Value} {B : List Pr} (hk : Keep wa W) (ho : Ow wa.heap.size W v A) (hx : Rs W xv B) (hl : A.length + B.length ≤ 100000)
    {o : Oper} {a : Act} {K : Act → World → Prop} {Q : Exit → Act → World → Prop} {s x : Operand}
    (hop : o.op = .call { callee := .builtin .append, args := #[s, x], argTypes := #[22, 22] }) (hs : a.eval s = v) (hxv : a.eval x = xv)
    (h : ∀ v' W', Keep wa W' → Ow wa.heap.size W' v' (A ++ B) → (∀ g p, Bx wa.heap.size W v g p → Bx wa.heap.size W' v' g p) → K (a.put o.dst v') W') : o.wp Try.prog a W K Q := by
  obtain ⟨i0, hi, hz0, hz1, hz2⟩ := info_parts infoA
  obtain ⟨v', W', hr, h2, h3, h4⟩ := run_append_rs2 W wa.heap.size 22 o.type 33 i0 _ Try.underlying22 hi hz0 hz1 hz2 rfl v A ho xv B hx hl (Below.size hk)
  unfold Oper.wp execOp
  simp only [hop, resolve, invoke, builtin, Sem.run_bind, Sem.run_pure, Result.andThen_ok, List.map_toArray, List.map_cons, List.map_nil, hs, hxv, hr]
  refine h v' W' (Below.grown hk h3 (Below.size hk) (fun j ej => (World.ownsRow.lt ho j ej).1)) h2 fun g p hb => ⟨hb.1.kept h3 (fun e => hb.2.2 e.symm), hb.2.1, ?_⟩
  rcases h4 with e | e
  · rw [e]; exact hb.2.2
  · rw [e]
    intro e2
    have := hb.1.lt
    injection e2 with e2
    omega
end Go.Proofs.Ytcllijjmjmfedaa
