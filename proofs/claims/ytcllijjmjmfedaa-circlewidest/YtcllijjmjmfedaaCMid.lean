/- An append into the middle of a row that the call owns: the rest of the row stays. -/
import Derived.Test.YtcllijjmjmfedaaCVal
import Derived.Test.YtcllijjmjmfedaaCSort
namespace Go.Proofs.Ytcllijjmjmfedaa
open Go.RowKit Go.Shelf
set_option linter.unusedVariables false
set_option linter.unusedSimpArgs false
theorem cl_set : ∀ (R : List Pr) (k : Nat) (p : Pr), k < R.length → cl (R.set k p) = (cl R).take (k * 2) ++ cl [p] ++ (cl R).drop (k * 2 + 2)
  | [], k, p, h => by simp at h
  | q :: R, 0, p, h => by simp [cl]
  | q :: R, k + 1, p, h => by
    have := cl_set R k p (by simpa using h)
    rw [show (k + 1) * 2 = k * 2 + 1 + 1 by omega, show k * 2 + 1 + 1 + 2 = k * 2 + 2 + 1 + 1 by omega]
    simp only [List.set_cons_succ, cl, List.take_succ_cons, List.drop_succ_cons, List.cons_append] at this ⊢
    rw [this]
theorem wpListIn_append_mid {F : Fence} {n : Nat} {P : Program} (w : World) {ops : Array Oper} {rest : List Oper} {o : Oper} {a : Act} {Q : Exit → Act → World → Prop}
    (hg : o.guard = none) (s x : Operand) (t : TypeId) (hop : o.op = Op.call { callee := Callee.builtin Builtin.append, args := #[s, x], argTypes := #[t, t] })
    (base : Nat) (e : TypeId) (i : TypeInfo) (h1 : P.underlying t = some (.slice e)) (h2 : P.info? e = some i) (h4 : i.size = 2)
    (g k m cap : Nat) (R : List Pr) (p : Pr) (hs : a.eval s = .slice (some ⟨g, 0, none⟩) k cap) (hown : w.ownsRow base e 2 (.slice (some ⟨g, 0, none⟩) m cap) m (cl R)) (hk : k < m)
    (ad : Addr) (c : Nat) (hx : a.eval x = .slice (some ad) 1 c) (hc : ∀ j u, (cl [p])[j]? = some u → w.cell? (ad.add j) = some u)
    (hK : ∀ w', w'.ownsRow base e 2 (.slice (some ⟨g, 0, none⟩) m cap) m (cl (R.set k p)) → w.grownBy w' (some g) → wpListIn F n P ops Q rest (a.put o.dst (.slice (some ⟨g, 0, none⟩) (k + 1) cap)) w') :
    wpListIn F n P ops Q (o :: rest) a w := by
  obtain ⟨hln, ⟨h0, _⟩ | ⟨g', cap', cur, h0, hb, hgc, hnc, hm, hcs, htk⟩⟩ := hown
  · simp at h0
  simp only [Value.slice.injEq, Option.some.injEq, Addr.mk.injEq, and_true, true_and] at h0
  obtain ⟨rfl, rfl⟩ := h0
  have hRl : R.length = m := by rw [cl_length] at hln; omega
  have hrun := run_append_room (P := P) w t o.type e i h1 h2 g k cap cur hgc ad 1 c (cl [p]) (by rw [h4]; rfl) hc (cl_one [p]) (by omega) (by rw [h4, hcs]; simp [cl]; omega)
  rw [h4] at hrun
  refine wpListIn_plain hg fun K hK' => ?_
  unfold Oper.wpIn
  refine ⟨?_, ?_⟩
  · simp [Oper.about, hop, resolve, Target.leads, Sem.run_pure]
  · rw [Oper.semAt_plain F _ _ (by rw [hop]; intro c hc'; cases hc')]
    simp [execOp, hop, resolve, invoke, builtin, hs, hx, hrun, Result.andThen]
    refine hK' _ _ (hK _ ?_ ?_)
    · have hct : cur.toList = cl R ++ cur.toList.drop (m * 2) := by rw [← htk, List.take_append_drop]
      have hcl : (cl R).length = m * 2 := hln
      have e1 : cur.toList.take (k * 2) ++ (cl [p] ++ cur.toList.drop (k * 2 + (cl [p]).length)) = cl (R.set k p) ++ cur.toList.drop (m * 2) := by
        rw [cl_set R k p (by omega)]
        have a1 : cur.toList.take (k * 2) = (cl R).take (k * 2) := by
          rw [hct, List.take_append_of_le_length (by omega)]
        have a2 : cur.toList.drop (k * 2 + (cl [p]).length) = (cl R).drop (k * 2 + 2) ++ cur.toList.drop (m * 2) := by
          show cur.toList.drop (k * 2 + 2) = _
          conv => lhs; rw [hct]
          rw [List.drop_append_of_le_length (by omega)]
        rw [a1, a2]
        simp [List.append_assoc]
      rw [e1]
      have hsl : (cl (R.set k p)).length = m * 2 := by rw [cl_length, List.length_set, hRl]
      refine ⟨hsl, .inr ⟨g, cap, _, rfl, hb, setRow_heap w g cur _ e _ hgc, hnc, hm, ?_, ?_⟩⟩
      · simp only [List.size_toArray, List.length_append, List.length_drop, hsl]
        have : cur.toList.length = cap * 2 := by simpa using hcs
        omega
      · rw [List.toList_toArray, List.take_append_of_le_length (by omega), List.take_of_length_le (by omega)]
    · exact ⟨rfl, rfl, rfl, by simp, fun k _ hk => setRow_other w g k _ (fun e => hk (by simp [e]))⟩
theorem set_take : ∀ (R : List Pr) (b : Nat) (p : Pr), b < R.length → (R.set b p).take (b + 1) = R.take b ++ [p]
  | [], b, p, h => by simp at h
  | q :: R, 0, p, h => by simp
  | q :: R, b + 1, p, h => by
    have := set_take R b p (by simpa using h)
    simp only [List.set_cons_succ, List.take_succ_cons, List.cons_append] at this ⊢
    rw [this]
theorem set_drop : ∀ (R : List Pr) (b m : Nat) (p : Pr), b < m → (R.set b p).drop m = R.drop m
  | [], b, m, p, h => by simp
  | q :: R, 0, m + 1, p, h => by simp
  | q :: R, b + 1, m + 1, p, h => by simpa using set_drop R b m p (by omega)
  | q :: R, b, 0, p, h => by omega
theorem drop_succ_eq {R M : List Pr} {k : Nat} (h : R.drop k = M.drop k) : R.drop (k + 1) = M.drop (k + 1) := by
  have := congrArg (List.drop 1) h
  simpa [List.drop_drop] using this
theorem drop_head {R M : List Pr} {k : Nat} (h : R.drop k = M.drop k) (hr : k < R.length) (hm : k < M.length) : R.getD k (0, 0) = M.getD k (0, 0) := by
  rw [List.drop_eq_getElem_cons hr, List.drop_eq_getElem_cons hm] at h
  injection h with h1 h2
  rw [List.getD_eq_getElem?_getD, List.getElem?_eq_getElem hr, List.getD_eq_getElem?_getD, List.getElem?_eq_getElem hm, h1]
theorem jns_snoc {M : List Pr} {k : Nat} (h : k < M.length) : jns (M.take (k + 1)) = jn (jns (M.take k)) (M.getD k (0, 0)) := by
  unfold jns
  rw [take_snoc h, List.foldl_append]
  rfl
theorem cl_take : ∀ (R : List Pr) (b : Nat), cl (R.take b) = (cl R).take (b * 2)
  | [], b => by simp [cl]
  | q :: R, 0 => by simp [cl]
  | q :: R, b + 1 => by
    rw [show (b + 1) * 2 = b * 2 + 1 + 1 by omega]
    simp only [List.take_succ_cons, cl, cl_take R b]
/-- the beginning of a row -/
theorem rs_pre {w : World} {base g n cap b : Nat} {e : TypeId} {R : List Pr} (h : w.ownsRow base e 2 (.slice (some ⟨g, 0, none⟩) n cap) n (cl R)) (hb : b ≤ n) (hi : ∀ p, p ∈ R.take b → InP p) : Rs w (.slice (some ⟨g, 0, none⟩) b cap) (R.take b) := by
  obtain ⟨hln, ⟨h0, _⟩ | ⟨g', cap', cur, h0, hbb, hgc, hnc, hm, hcs, htk⟩⟩ := h
  · simp at h0
  simp only [Value.slice.injEq, Option.some.injEq, Addr.mk.injEq, and_true, true_and] at h0
  obtain ⟨rfl, rfl⟩ := h0
  have hRl : R.length = n := by rw [cl_length] at hln; omega
  have hl : (R.take b).length = b := by rw [List.length_take]; omega
  refine rs_own (base := base) (e := e) hi ?_
  rw [hl]
  refine ⟨by rw [cl_length, hl], .inr ⟨g, cap, cur, rfl, hbb, hgc, by omega, hm, hcs, ?_⟩⟩
  rw [cl_take, ← htk, List.take_take, Nat.min_eq_left (by omega)]
/-- sorted, whatever slice it is that the call owns -/
theorem sort_own (base : Nat) (v : Value) (L : List Pr) (W : World) (hown : W.ownsRow base 45 2 v L.length (cl L)) (hl : L.length ≤ 300000) :
    Calls Try.prog 27 #[v, .func (.func 28) #[] #[]] W fun e w' => e = .returned (.tuple #[]) ∧ ∃ M : List Pr, M.Perm L ∧ M.Pairwise (fun p q => p.1 ≤ q.1) ∧ w'.ownsRow base 45 2 v L.length (cl M) ∧ W.grownBy w' v.ownBlock := by
  by_cases h0 : L.length = 0
  · have hL : L = [] := List.eq_nil_of_length_eq_zero h0
    obtain ⟨p, cap, hv⟩ : ∃ p cap, v = .slice p 0 cap := by
      rcases hown.2 with ⟨h, _⟩ | ⟨g, cap, _, h, _⟩
      · exact ⟨_, _, h⟩
      · exact ⟨_, _, by rw [h, h0]⟩
    have hcon := AnyF.slices_SortFunc_none Try.sortIv p cap (.func (.func 28) #[] #[]) W
    change Calls Try.prog 27 _ _ _ at hcon
    rw [hv] at hown ⊢
    refine hcon.mono ?_
    rintro e w' ⟨rfl, rfl⟩
    exact ⟨rfl, L, List.Perm.refl _, by rw [hL]; exact List.Pairwise.nil, hown, ⟨rfl, rfl, rfl, Nat.le_refl _, fun _ _ _ => rfl⟩⟩
  · obtain ⟨g, cap, hv⟩ : ∃ g cap, v = .slice (some ⟨g, 0, none⟩) L.length cap := by
      rcases hown.2 with ⟨h, h'⟩ | ⟨g, cap, _, h, _⟩
      · exact absurd h' h0
      · exact ⟨_, _, h⟩
    subst hv
    exact sort_any base g cap L W hown hl
end Go.Proofs.Ytcllijjmjmfedaa
