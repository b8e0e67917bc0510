/- Rows of orders: what the call itself has made; the document's Orders. -/
import Derived.Test.YtakandlehneciaaOdC
namespace Go.Proofs.Ytakandlehneciaa
open Go.RowKit
attribute [local go_sem ↓] Go.wp_at_zero Go.wp_at_succ
set_option linter.unusedVariables false
set_option linter.unusedSimpArgs false
set_option maxRecDepth 10000
namespace Od
theorem Iw.sl {w : World} {u : Value} {L : List Int} (h : Iw w u L) : ∃ a c, u = .slice a L.length c := by
  rcases h with ⟨rfl, rfl⟩ | ⟨g, c, arr, rfl, _⟩
  · exact ⟨none, 0, rfl⟩
  · exact ⟨_, c, rfl⟩
theorem own_k {w w' : World} {base : Nat} {e : TypeId} {z n : Nat} {v : Value} {xs : List Value} (h : w.ownsRow base e z v n xs) (hk : Keep w w') : w'.ownsRow base e z v n xs :=
  h.kept (row := none) ⟨hk.os, hk.tape, hk.output, hk.size, fun i hi _ => hk.block i hi⟩ (by cases v.ownBlock <;> simp)
theorem own_mono {w : World} {B B' : Nat} {e : TypeId} {z n : Nat} {v : Value} {xs : List Value} (h : w.ownsRow B e z v n xs) (hb : B' ≤ B) : w.ownsRow B' e z v n xs := by
  obtain ⟨h1, h2⟩ := h
  refine ⟨h1, ?_⟩
  rcases h2 with h2 | ⟨g, cap, cur, e, hg, r⟩
  · exact .inl h2
  · exact .inr ⟨g, cap, cur, e, by omega, r⟩
theorem new_v (w : World) (vs : List Value) (t : TypeId) : ∀ j u, vs[j]? = some u → (w.alloc (.cells vs.toArray t)).cell? ((⟨w.heap.size, 0, none⟩ : Addr).add j) = some u := by
  intro j u hj
  rw [add_pl, Nat.zero_add]
  have h := heap_alloc_new w (.cells vs.toArray t)
  simp only [World.cell?, h]
  simpa using hj
theorem own_cell {w : World} {B : Nat} {e : TypeId} {z n : Nat} {v : Value} {xs : List Value} (h : w.ownsRow B e z v n xs) : ∃ a cap, v = .slice a n cap ∧ (0 < n → ∃ g, a = some ⟨g, 0, none⟩ ∧ g < w.heap.size ∧ B ≤ g ∧ n ≤ cap ∧ ∀ j u, xs[j]? = some u → w.cell? ⟨g, j, none⟩ = some u) := by
  rcases h.2 with ⟨rfl, h0⟩ | ⟨g, cap, cur, rfl, hb, hg, hc, hm, hs, ht⟩
  · exact ⟨none, 0, by rw [h0], fun h => by omega⟩
  · refine ⟨_, cap, rfl, fun _ => ⟨g, rfl, (Array.getElem?_eq_some_iff.1 hg).1, hb, hc, fun j u hu => ?_⟩⟩
    rw [← ht, List.getElem?_take] at hu
    simp only [World.cell?, hg]
    split at hu
    · simpa using hu
    · cases hu
theorem own_l {w : World} {B : Nat} {e : TypeId} {z n : Nat} {v : Value} {xs : List Value} (h : w.ownsRow B e z v n xs) : ∃ a cap, v = .slice a n cap := by
  obtain ⟨a, cap, e, _⟩ := own_cell h
  exact ⟨a, cap, e⟩
def ics (L : List Int) : List Value := L.map (.int .i64)
theorem ics_app (L M : List Int) : ics (L ++ M) = ics L ++ ics M := by simp [ics]
/-- an own row reads as numbers -/
theorem iw_own {w : World} {B : Nat} {v : Value} {L : List Int} (h : w.ownsRow B 3 1 v L.length (ics L)) : Iw w v L := by
  rcases h.2 with ⟨rfl, h0⟩ | ⟨g, cap, cur, rfl, hb, hg, hc, hm, hs, ht⟩
  · exact .inl ⟨rfl, List.eq_nil_of_length_eq_zero h0⟩
  · refine .inr ⟨g, cap, cur, rfl, hg, fun k hk => ?_⟩
    have h1 : (cur.toList.take (L.length * 1))[k]? = some (.int .i64 (L.getD k 0)) := by rw [ht]; simp [ics, hk]
    rw [List.getElem?_take, if_pos (by omega)] at h1
    simpa using h1
/-- where rows of unlike things grow, these stay -/
theorem iw_g {w w' : World} {B : Nat} {e : TypeId} {z n : Nat} {v u : Value} {xs : List Value} {L : List Int} (h : Iw w u L) (h' : w.ownsRow B e z v n xs) (he : e ≠ 3) (hg : w.grownBy w' v.ownBlock) : Iw w' u L := by
  rcases h with h | ⟨g, c, arr, rfl, ha, hc⟩
  · exact .inl h
  · refine .inr ⟨g, c, arr, rfl, ?_, hc⟩
    rw [hg.block g (Array.getElem?_eq_some_iff.1 ha).1 (fun e2 => ?_)]
    · exact ha
    · rcases h'.2 with ⟨rfl, _⟩ | ⟨g', c', cur, rfl, _, h2, _⟩
      · simp [Value.ownBlock] at e2
      · simp only [Value.ownBlock, Option.some.injEq] at e2
        subst e2
        rw [ha] at h2
        injection h2 with h2
        injection h2 with h3 h4
        exact he h4.symm
theorem run_append_is (w : World) (base : Nat) (t ty e : TypeId) (i : TypeInfo) (z : Value) (ht : Try.prog.underlying t = some (.slice e)) (hi : Try.prog.info? e = some i) (hz : i.zero = some z)
    (hsize : i.size = 1) (hby : i.bytes = 8) (hzs : z.cells.size = 1)
    (v : Value) (A : List Int) (hown : w.ownsRow base e 1 v A.length (ics A)) (x : Value) (B : List Int) (hx : Is w x B) (hl : A.length + B.length ≤ 1000000) (hbase : base ≤ w.heap.size) :
    ∃ v' w', (Builtin.append_ #[t, t] ty #[v, x]).run Try.prog w = .ok v' w' ∧ w'.ownsRow base e 1 v' (A ++ B).length (ics (A ++ B)) ∧ w.grownBy w' v.ownBlock := by
  obtain ⟨a, cap, rfl, hx⟩ := hx
  cases a with
  | none =>
    have hB : B = [] := by
      cases B with
      | nil => rfl
      | cons p B => obtain ⟨ad, h0, _⟩ := hx 0 (by simp); cases h0
    subst hB
    refine ⟨v, w, ?_, by rw [List.append_nil]; exact hown, ⟨rfl, rfl, rfl, Nat.le_refl _, fun _ _ _ => rfl⟩⟩
    rcases hown.2 with ⟨rfl, h0⟩ | ⟨g, cp, cur, rfl, _, _, hc, _⟩
    · simp [Builtin.append_, run_underlying ht, sizeOf, typeInfo, hi, Builtin.lenOf, Builtin.firstCells, Result.andThen]
    · simp [Builtin.append_, run_underlying ht, sizeOf, typeInfo, hi, Builtin.lenOf, hc, Builtin.firstCells, storeCells, Result.andThen]
  | some ad =>
    have hnews : ∀ j u, (ics B)[j]? = some u → w.cell? (ad.add j) = some u := by
      intro j u hu
      have hj : j < B.length := by
        rcases Nat.lt_or_ge j B.length with h | h
        · exact h
        · rw [ics, List.getElem?_map, List.getElem?_eq_none h] at hu; cases hu
      obtain ⟨ad2, h0, hc⟩ := hx j hj
      injection h0 with h0
      subst h0
      rw [ics, List.getElem?_map, List.getElem?_eq_getElem hj] at hu
      rw [hc, List.getD_eq_getElem?_getD, List.getElem?_eq_getElem hj]
      simpa using hu
    obtain ⟨v', w', h1, h2, h3, _⟩ := run_append_own (P := Try.prog) w base t ty e i z 1 8 ht hi hz hsize hby hzs (by decide) v A.length (ics A) hown ad B.length cap (ics B) (by simp [ics]) hnews (by simp [ics, Value.oneCell']) (by unfold maxLen; omega) (by omega) hbase
    refine ⟨v', w', h1, ?_, h3⟩
    rw [ics_app, List.length_append]
    exact h2
theorem wp_append_is {o : Oper} {a : Act} {K : Act → World → Prop} {Q : Exit → Act → World → Prop} (w : World) (s x : Operand) (t : TypeId)
    (ho : o.op = .call { callee := .builtin .append, args := #[s, x], argTypes := #[t, t] })
    (base : Nat) (e : TypeId) (i : TypeInfo) (z : Value) (ht : Try.prog.underlying t = some (.slice e)) (hi : Try.prog.info? e = some i) (hz : i.zero = some z)
    (hsize : i.size = 1) (hby : i.bytes = 8) (hzs : z.cells.size = 1)
    (v : Value) (A : List Int) (hs : a.eval s = v) (hown : w.ownsRow base e 1 v A.length (ics A)) (xv : Value) (B : List Int) (hx : a.eval x = xv) (hr : Is w xv B) (hl : A.length + B.length ≤ 1000000) (hbase : base ≤ w.heap.size)
    (h : ∀ v' w', w'.ownsRow base e 1 v' (A ++ B).length (ics (A ++ B)) → w.grownBy w' v.ownBlock → K (a.put o.dst v') w') : o.wp Try.prog a w K Q := by
  obtain ⟨v', w', hr, h2, h3⟩ := run_append_is w base t o.type e i z ht hi hz hsize hby hzs v A hown xv B hr hl hbase
  unfold Oper.wp execOp
  simp only [ho, resolve, invoke, builtin, Sem.run_bind, Sem.run_pure, Result.andThen_ok, List.map_toArray, List.map_cons, List.map_nil, hs, hx, hr]
  exact h v' w' h2 h3
theorem wpList_append_is {ops : Array Oper} {rest : List Oper} {o : Oper} {a : Act} {Q : Exit → Act → World → Prop} (w : World) (hgd : o.guard = none) (s x : Operand) (t : TypeId)
    (ho : o.op = .call { callee := .builtin .append, args := #[s, x], argTypes := #[t, t] })
    (base : Nat) (e : TypeId) (i : TypeInfo) (z : Value) (ht : Try.prog.underlying t = some (.slice e)) (hi : Try.prog.info? e = some i) (hz : i.zero = some z)
    (hsize : i.size = 1) (hby : i.bytes = 8) (hzs : z.cells.size = 1)
    (v : Value) (A : List Int) (hs : a.eval s = v) (hown : w.ownsRow base e 1 v A.length (ics A)) (xv : Value) (B : List Int) (hx : a.eval x = xv) (hr : Is w xv B) (hl : A.length + B.length ≤ 1000000) (hbase : base ≤ w.heap.size)
    (h : ∀ v' w', w'.ownsRow base e 1 v' (A ++ B).length (ics (A ++ B)) → w.grownBy w' v.ownBlock → wpList Try.prog ops Q rest (a.put o.dst v') w') : wpList Try.prog ops Q (o :: rest) a w :=
  wpList_plain hgd fun K hK => wp_append_is w s x t ho base e i z ht hi hz hsize hby hzs v A hs hown xv B hx hr hl hbase fun v' w' h2 h3 => hK _ _ (h v' w' h2 h3)
/-- rows of numbers that stand in a row -/
def Wr (w : World) (va : Option Addr) (LL : List (List Int)) : Prop := ∀ k, k < LL.length → ∃ ad u, va = some ad ∧ w.cell? (ad.add k) = some u ∧ Iw w u (LL.getD k [])
theorem Wr.keep {w w' : World} {va : Option Addr} {LL : List (List Int)} (h : Wr w va LL) (hk : Keep w w') : Wr w' va LL := fun k hlt => by
  obtain ⟨ad, u, e, c, o⟩ := h k hlt
  exact ⟨ad, u, e, kc hk c, o.keep hk⟩
def Wq (LL : List (List Int)) (w : World) (e : Ending) (w' : World) : Prop := ∃ va vc, e = .returned (.slice va LL.length vc) ∧ Keep w w' ∧ LL.length ≤ vc ∧ Wr w' va LL
/-- such rows, made by the call itself -/
def Og (B : Nat) (w : World) (v : Value) (LL : List (List Int)) : Prop := ∃ US : List Value, US.length = LL.length ∧ w.ownsRow B 49 1 v LL.length US ∧ ∀ j, j < LL.length → Iw w (US.getD j undef) (LL.getD j [])
theorem Og.wr {B : Nat} {w : World} {va : Option Addr} {n c : Nat} {LL : List (List Int)} (h : Og B w (.slice va n c) LL) : Wr w va LL := by
  obtain ⟨US, hl, ho, hj⟩ := h
  intro k hk
  obtain ⟨a, cap, e, hc⟩ := own_cell ho
  injection e with e1 e2 e3
  subst e1
  obtain ⟨g, rfl, hg, _, _, hc⟩ := hc (by omega)
  refine ⟨_, US.getD k undef, rfl, ?_, hj k hk⟩
  rw [add_pl, Nat.zero_add]
  exact hc k _ (by rw [List.getD_eq_getElem?_getD, List.getElem?_eq_getElem (by omega)]; rfl)
theorem Og.cap {B : Nat} {w : World} {va : Option Addr} {n c : Nat} {LL : List (List Int)} (h : Og B w (.slice va n c) LL) : LL.length ≤ c ∧ n = LL.length := by
  obtain ⟨US, hl, ho, hj⟩ := h
  rcases ho.2 with ⟨e, h0⟩ | ⟨g, cap, cur, e, _, _, hc, _⟩
  · injection e with e1 e2 e3; omega
  · injection e with e1 e2 e3; omega
theorem Og.keep {B : Nat} {w w' : World} {v : Value} {LL : List (List Int)} (h : Og B w v LL) (hk : Keep w w') : Og B w' v LL := by
  obtain ⟨US, hl, ho, hj⟩ := h
  exact ⟨US, hl, own_k ho hk, fun j h => (hj j h).keep hk⟩
theorem og_nil (B : Nat) (w : World) : Og B w (.slice none 0 0) [] := ⟨[], rfl, World.ownsRow_nil _ _ _ _, fun j h => by simp at h⟩
/-- one row more -/
theorem og_more {B n : Nat} {w w' : World} {v v' u : Value} {US : List Value} {LL : List (List Int)} {L : List Int} (hl : US.length = LL.length) (hn : LL.length = n) (ho : w.ownsRow B 49 1 v n US) (hj : ∀ j, j < LL.length → Iw w (US.getD j undef) (LL.getD j [])) (hu : Iw w u L)
    (ho' : w'.ownsRow B 49 1 v' (n + 1) (US ++ [u])) (hg : w.grownBy w' v.ownBlock) : Og B w' v' (LL ++ [L]) := by
  have e9 : (LL ++ [L]).length = n + 1 := by simp [hn]
  refine ⟨US ++ [u], by simp [hl], by rw [e9]; exact ho', fun j h => ?_⟩
  rw [e9] at h
  rcases Nat.lt_or_ge j n with h9 | h9
  · have e1 : (US ++ [u]).getD j undef = US.getD j undef := by rw [List.getD_eq_getElem?_getD, List.getD_eq_getElem?_getD, List.getElem?_append_left (by omega)]
    have e2 : (LL ++ [L]).getD j [] = LL.getD j [] := by rw [List.getD_eq_getElem?_getD, List.getD_eq_getElem?_getD, List.getElem?_append_left (by omega)]
    rw [e1, e2]
    exact iw_g (hj j (by omega)) ho (by decide) hg
  · obtain rfl : j = n := by omega
    have e1 : (US ++ [u]).getD j undef = u := by rw [List.getD_eq_getElem?_getD, List.getElem?_append_right (by omega), show j - US.length = 0 by omega]; rfl
    have e2 : (LL ++ [L]).getD j [] = L := by rw [List.getD_eq_getElem?_getD, List.getElem?_append_right (by omega), show j - LL.length = 0 by omega]; rfl
    rw [e1, e2]
    exact iw_g hu ho (by decide) hg
theorem infoR2 : (Try.prog.info? 49).map (fun i => (i.zero, i.size, i.bytes)) = some (some (.slice none 0 0), 1, 24) := by kernel_rfl
theorem e_row (w : World) (t : TypeId) : (w.alloc (.cells #[] t)).ownsRow w.heap.size t 1 (.slice (some ⟨w.heap.size, 0, none⟩) 0 0) ([] : List Int).length (ics []) := ⟨rfl, .inr ⟨w.heap.size, 0, #[], rfl, Nat.le_refl _, heap_alloc_new w _, Nat.le_refl _, by unfold maxLen; omega, rfl, rfl⟩⟩
theorem one_is (w : World) (x : Int) (t : TypeId) : Is (w.alloc (.cells #[.int .i64 x] t)) (.slice (some ⟨w.heap.size, 0, none⟩) 1 1) [x] := by
  refine ⟨_, 1, rfl, fun k hk => ⟨_, rfl, ?_⟩⟩
  simp only [List.length_cons, List.length_nil] at hk
  obtain rfl : k = 0 := by omega
  exact new_v w [.int .i64 x] t 0 _ rfl
end Od
end Go.Proofs.Ytakandlehneciaa
