/- Package group: what stays in memory while rows of another sort grow; the graph of a group as it stands there. -/
import Derived.Test.YtakandlehneciaaGpO
namespace Go.Proofs.Ytakandlehneciaa
open Go.RowKit
attribute [local go_sem ↓] Go.wp_at_zero Go.wp_at_succ
set_option linter.unusedVariables false
set_option linter.unusedSimpArgs false
set_option maxRecDepth 10000
namespace Gp
open Pa
/-- blocks of other sorts than A stay -/
structure Kt (A : TypeId → Prop) (w w' : World) : Prop where
  size : w.heap.size ≤ w'.heap.size
  block : ∀ (i : Nat) (arr : Array Value) (e : TypeId), w.heap[i]? = some (.cells arr e (0, 0)) → ¬ A e → w'.heap[i]? = some (.cells arr e (0, 0))
theorem Kt.refl (A : TypeId → Prop) (w : World) : Kt A w w := ⟨Nat.le_refl _, fun _ _ _ h _ => h⟩
theorem Kt.trans {A : TypeId → Prop} {w w1 w2 : World} (h : Kt A w w1) (g : Kt A w1 w2) : Kt A w w2 := ⟨Nat.le_trans h.size g.size, fun i arr e h1 h2 => g.block i arr e (h.block i arr e h1 h2) h2⟩
theorem Kt.of {A : TypeId → Prop} {w w' : World} (h : Keep w w') : Kt A w w' := ⟨Below.size h, fun i arr e h1 _ => (h.block i (Array.getElem?_eq_some_iff.1 h1).1).trans h1⟩
theorem Kt.set {A : TypeId → Prop} {w : World} {b i : Nat} {u : Value} {arr : Array Value} {e : TypeId} (hb : w.heap[b]? = some (.cells arr e (0, 0))) (ha : A e) : Kt A w (w.setCell ⟨b, i, none⟩ u) := by
  refine ⟨by simp, fun j ar' e' h1 h2 => ?_⟩
  have : j ≠ b := fun h => by subst h; rw [hb] at h1; injection h1 with h1; injection h1 with h3 h4; subst h4; exact h2 ha
  rw [heap_setCell_other _ _ j _ this]
  exact h1
theorem Kt.grown {A : TypeId → Prop} {w w' : World} {B z n : Nat} {e : TypeId} {v : Value} {xs : List Value} (ho : w.ownsRow B e z v n xs) (ha : A e) (hg : w.grownBy w' v.ownBlock) : Kt A w w' := by
  refine ⟨hg.size, fun i arr e' h1 h2 => ?_⟩
  rw [hg.block i (Array.getElem?_eq_some_iff.1 h1).1 (fun e2 => ?_)]
  · exact h1
  · rcases ho.2 with ⟨rfl, _⟩ | ⟨g, c, cur, rfl, _, h3, _⟩
    · simp [Value.ownBlock] at e2
    · simp only [Value.ownBlock, Option.some.injEq] at e2
      subst e2
      rw [h1] at h3
      injection h3 with h3
      injection h3 with h3 h4
      subst h4
      exact h2 ha
theorem iw_kt {A : TypeId → Prop} {e : TypeId} {w w' : World} {u : Value} {L : List Int} (h : Iw e w u L) (hk : Kt A w w') (ha : ¬ A e) : Iw e w' u L := by
  rcases h with h | ⟨g, c, arr, rfl, h1, h2⟩
  · exact .inl h
  · exact .inr ⟨g, c, arr, rfl, hk.block g arr e h1 ha, h2⟩
theorem own_kt {A : TypeId → Prop} {w w' : World} {B z n : Nat} {e : TypeId} {v : Value} {xs : List Value} (h : w.ownsRow B e z v n xs) (hk : Kt A w w') (ha : ¬ A e) : w'.ownsRow B e z v n xs := by
  refine ⟨h.1, ?_⟩
  rcases h.2 with h1 | ⟨g, cap, cur, h1, h2, h3, h4⟩
  · exact .inl h1
  · exact .inr ⟨g, cap, cur, h1, h2, hk.block g cur e h3 ha, h4⟩
/-- a row of rows of numbers, each of its sort -/
def Tw (e1 e2 : TypeId) (w : World) (v : Value) (LL : List (List Int)) : Prop := (v = .slice none 0 0 ∧ LL = []) ∨ ∃ (g c : Nat) (arr : Array Value), v = .slice (some ⟨g, 0, none⟩) LL.length c ∧ w.heap[g]? = some (.cells arr e1 (0, 0)) ∧ LL.length ≤ c ∧ ∀ k, k < LL.length → ∃ u, arr[k]? = some u ∧ Iw e2 w u (LL.getD k [])
theorem Tw.kt {A : TypeId → Prop} {e1 e2 : TypeId} {w w' : World} {v : Value} {LL : List (List Int)} (h : Tw e1 e2 w v LL) (hk : Kt A w w') (h1 : ¬ A e1) (h2 : ¬ A e2) : Tw e1 e2 w' v LL := by
  rcases h with h | ⟨g, c, arr, e, h3, h4, h5⟩
  · exact .inl h
  · exact .inr ⟨g, c, arr, e, hk.block g arr e1 h3 h1, h4, fun k hlt => by obtain ⟨u, h6, h7⟩ := h5 k hlt; exact ⟨u, h6, iw_kt h7 hk h2⟩⟩
theorem Tw.keep {e1 e2 : TypeId} {w w' : World} {v : Value} {LL : List (List Int)} (h : Tw e1 e2 w v LL) (hk : Keep w w') : Tw e1 e2 w' v LL := h.kt (A := fun _ => False) (Kt.of hk) (fun h => h) (fun h => h)
theorem Tw.sl {e1 e2 : TypeId} {w : World} {v : Value} {LL : List (List Int)} (h : Tw e1 e2 w v LL) : ∃ a c, v = .slice a LL.length c ∧ LL.length ≤ c := by
  rcases h with ⟨rfl, rfl⟩ | ⟨g, c, arr, e, h3, h4, h5⟩
  · exact ⟨none, 0, rfl, Nat.le_refl _⟩
  · exact ⟨_, c, e, h4⟩
theorem Tw.row {e1 e2 : TypeId} {w : World} {a : Option Addr} {n c : Nat} {LL : List (List Int)} (h : Tw e1 e2 w (.slice a n c) LL) {k : Nat} (hk : k < LL.length) : ∃ g u, a = some ⟨g, 0, none⟩ ∧ w.cell? ⟨g, k, none⟩ = some u ∧ Iw e2 w u (LL.getD k []) := by
  rcases h with ⟨e, rfl⟩ | ⟨g, c, arr, e, h3, h4, h5⟩
  · simp at hk
  · injection e with e _ _
    obtain ⟨u, h6, h7⟩ := h5 k hk
    exact ⟨g, u, e, by simp [World.cell?, h3, h6], h7⟩
theorem Tw.ir {e1 e2 : TypeId} {w : World} {v : Value} {LL : List (List Int)} (h : Tw e1 e2 w v LL) : Ir w v LL := by
  obtain ⟨a, c, rfl, hc⟩ := h.sl
  refine ⟨a, c, rfl, hc, fun k hk => ?_⟩
  obtain ⟨g, u, rfl, h1, h2⟩ := h.row hk
  exact ⟨_, u, rfl, by rw [add_pl, Nat.zero_add]; exact h1, h2.is⟩
/-- own rows of rows, of any sort -/
def Ow (B : Nat) (e1 e2 : TypeId) (w : World) (v : Value) (LL : List (List Int)) : Prop := ∃ US : List Value, US.length = LL.length ∧ w.ownsRow B e1 1 v LL.length US ∧ ∀ j, j < LL.length → Iw e2 w (US.getD j undef) (LL.getD j [])
theorem Ow.tw {B : Nat} {e1 e2 : TypeId} {w : World} {v : Value} {LL : List (List Int)} (h : Ow B e1 e2 w v LL) : Tw e1 e2 w v LL := by
  obtain ⟨US, hl, ho, hj⟩ := h
  rcases ho.2 with ⟨rfl, h0⟩ | ⟨g, cap, cur, rfl, hb, hg, hc, hm, hs, ht⟩
  · exact .inl ⟨by rw [← h0], List.eq_nil_of_length_eq_zero h0⟩
  · refine .inr ⟨g, cap, cur, rfl, hg, hc, fun k hk => ⟨US.getD k undef, ?_, hj k hk⟩⟩
    have h1 : (cur.toList.take (LL.length * 1))[k]? = some (US.getD k undef) := by rw [ht, List.getD_eq_getElem?_getD, List.getElem?_eq_getElem (by omega)]; rfl
    rw [List.getElem?_take, if_pos (by omega)] at h1
    simpa using h1
theorem Ow.kt {A : TypeId → Prop} {B : Nat} {e1 e2 : TypeId} {w w' : World} {v : Value} {LL : List (List Int)} (h : Ow B e1 e2 w v LL) (hk : Kt A w w') (h1 : ¬ A e1) (h2 : ¬ A e2) : Ow B e1 e2 w' v LL := by
  obtain ⟨US, hl, ho, hj⟩ := h
  exact ⟨US, hl, own_kt ho hk h1, fun j h => iw_kt (hj j h) hk h2⟩
theorem Ow.keep {B : Nat} {e1 e2 : TypeId} {w w' : World} {v : Value} {LL : List (List Int)} (h : Ow B e1 e2 w v LL) (hk : Keep w w') : Ow B e1 e2 w' v LL := h.kt (A := fun _ => False) (Kt.of hk) (fun h => h) (fun h => h)
theorem ow_nil (B : Nat) (e1 e2 : TypeId) (w : World) : Ow B e1 e2 w (.slice none 0 0) [] := ⟨[], rfl, World.ownsRow_nil _ _ _ _, fun j h => by simp at h⟩
theorem Ow.sl {B : Nat} {e1 e2 : TypeId} {w : World} {v : Value} {LL : List (List Int)} (h : Ow B e1 e2 w v LL) : ∃ a c, v = .slice a LL.length c := by
  obtain ⟨US, hl, ho, hj⟩ := h
  exact own_l ho
/-- an own row as edges -/
def ecs : List E3 → List Value
  | [] => []
  | e :: R => .int .i64 e.1 :: .int .i64 e.2.1 :: .int .i64 e.2.2 :: ecs R
theorem ecs_len : ∀ R : List E3, (ecs R).length = R.length * 3
  | [] => rfl
  | e :: R => by simp only [ecs, List.length_cons, ecs_len R]; omega
theorem ecs_app : ∀ A B : List E3, ecs (A ++ B) = ecs A ++ ecs B
  | [], B => rfl
  | e :: A, B => by simp only [List.cons_append, ecs, ecs_app A B]
theorem ecs_one : ∀ R : List E3, ∀ u ∈ ecs R, u.oneCell' = true
  | [], u, hu => by simp [ecs] at hu
  | e :: R, u, hu => by
    simp only [ecs, List.mem_cons] at hu
    rcases hu with rfl | rfl | rfl | hu
    · rfl
    · rfl
    · rfl
    · exact ecs_one R u hu
theorem ecs_at : ∀ (R : List E3) (k : Nat), k < R.length → (ecs R)[k * 3]? = some (.int .i64 (R.getD k z3).1) ∧ (ecs R)[k * 3 + 1]? = some (.int .i64 (R.getD k z3).2.1) ∧ (ecs R)[k * 3 + 2]? = some (.int .i64 (R.getD k z3).2.2)
  | [], k, h => by simp at h
  | e :: R, 0, h => by simp [ecs]
  | e :: R, k + 1, h => by
    have h1 := ecs_at R k (by simpa using h)
    rw [ecs, show (k + 1) * 3 = k * 3 + 1 + 1 + 1 by omega]
    simp only [List.getElem?_cons_succ, List.getD_cons_succ]
    exact h1
theorem es_own {w : World} {B n : Nat} {e : TypeId} {v : Value} {R : List E3} (h : w.ownsRow B e 3 v n (ecs R)) (hn : n = R.length) : Es w v R := by
  subst hn
  rcases h.2 with ⟨rfl, h0⟩ | ⟨g, cap, cur, rfl, hb, hg, hc, hm, hs, ht⟩
  · exact ⟨none, 0, by rw [h0], fun k hk => by omega⟩
  · refine ⟨_, cap, rfl, fun k hk => ⟨_, rfl, ?_⟩⟩
    have h1 := ecs_at R k hk
    rw [← ht, List.getElem?_take, List.getElem?_take, List.getElem?_take, if_pos (by omega), if_pos (by omega), if_pos (by omega)] at h1
    rw [add_pl, Nat.zero_add]
    refine ⟨?_, ?_, ?_⟩
    · simp only [World.cell?, hg]; simpa using h1.1
    · simp only [World.cell?, hg]; simpa using h1.2.1
    · simp only [World.cell?, hg]; simpa using h1.2.2
/-- a slice of edges of a sort of its own -/
def Te (e : TypeId) (w : World) (v : Value) (R : List E3) : Prop := ∃ B, w.ownsRow B e 3 v R.length (ecs R)
theorem Te.kt {A : TypeId → Prop} {e : TypeId} {w w' : World} {v : Value} {R : List E3} (h : Te e w v R) (hk : Kt A w w') (ha : ¬ A e) : Te e w' v R := by
  obtain ⟨B, h⟩ := h
  exact ⟨B, own_kt h hk ha⟩
theorem Te.es {e : TypeId} {w : World} {v : Value} {R : List E3} (h : Te e w v R) : Es w v R := by
  obtain ⟨B, h⟩ := h
  exact es_own h rfl
/-- the graph in its box -/
def Gm (w : World) (gb : Nat) (n : Int) (vo : Value) (PL MK : List (List Int)) (PH : List E3) : Prop :=
  ∃ pl mk ph, w.heap[gb]? = some (.cells #[.int .i64 n, vo, pl, mk, ph] 75 (0, 0)) ∧ Tw 49 3 w pl PL ∧ Tw 49 3 w mk MK ∧ Te 82 w ph PH
theorem Gm.kt {A : TypeId → Prop} {w w' : World} {gb : Nat} {n : Int} {vo : Value} {PL MK : List (List Int)} {PH : List E3} (h : Gm w gb n vo PL MK PH) (hk : Kt A w w') (h1 : ¬ A 75) (h2 : ¬ A 49) (h3 : ¬ A 3) (h4 : ¬ A 82) : Gm w' gb n vo PL MK PH := by
  obtain ⟨pl, mk, ph, g0, g1, g2, g3⟩ := h
  exact ⟨pl, mk, ph, hk.block _ _ _ g0 h1, g1.kt hk h2 h3, g2.kt hk h2 h3, g3.kt hk h4⟩
theorem Gm.keep {w w' : World} {gb : Nat} {n : Int} {vo : Value} {PL MK : List (List Int)} {PH : List E3} (h : Gm w gb n vo PL MK PH) (hk : Keep w w') : Gm w' gb n vo PL MK PH := h.kt (A := fun _ => False) (Kt.of hk) (fun h => h) (fun h => h) (fun h => h) (fun h => h)
/-- one value appended to a row of one's own: where the new row lies -/
theorem run_append_one (w : World) (base : Nat) (t ty e : TypeId) (i : TypeInfo) (z : Value) (ht : Try.prog.underlying t = some (.slice e)) (hi : Try.prog.info? e = some i) (hz : i.zero = some z)
    (hsize : i.size = 1) (hby : i.bytes ≤ 24) (hzs : z.cells.size = 1)
    (v : Value) (n : Nat) (xs : List Value) (hown : w.ownsRow base e 1 v n xs) (ad : Addr) (c : Nat) (u : Value) (hu : w.cell? ad = some u) (h1 : u.oneCell' = true) (hl : n ≤ 100000) (hbase : base ≤ w.heap.size) :
    ∃ v' w', (Builtin.append_ #[t, t] ty #[v, .slice (some ad) 1 c]).run Try.prog w = .ok v' w' ∧ w'.ownsRow base e 1 v' (n + 1) (xs ++ [u]) ∧ w.grownBy w' v.ownBlock ∧ (v'.ownBlock = v.ownBlock ∨ v'.ownBlock = some w.heap.size) := by
  have hnews : ∀ j x, [u][j]? = some x → w.cell? (ad.add j) = some x := fun j x hx => by
    cases j with
    | zero => simp at hx; subst hx; rw [show ad.add 0 = ad by simp [Addr.add]]; exact hu
    | succ j => simp at hx
  have hone : ∀ x ∈ [u], x.oneCell' = true := fun x hx => by simp at hx; subst hx; exact h1
  obtain ⟨v', w', h1, h2, h3, h4⟩ := run_append_own (P := Try.prog) w base t ty e i z 1 i.bytes ht hi hz hsize rfl hzs (by decide) v n xs hown ad 1 c [u] rfl hnews hone (by unfold maxLen; omega) (by have := Nat.mul_le_mul (show n + 1 ≤ 100001 by omega) hby; omega) hbase
  have hB2 : [u].length = 1 * i.size := by rw [hsize]; rfl
  refine ⟨v', w', h1, h2, h3, ?_⟩
  rcases hown.2 with ⟨rfl, h0⟩ | ⟨g, cp, cur, rfl, hbg, hg, hnc, hcm, hcs, htake⟩
  · right
    have hr2 := run_append_nil (P := Try.prog) w t ty e i z ht hi hz ad 1 c [u] hB2 hnews (by omega) (by omega) (by omega)
    injection (h1.symm.trans hr2) with e1 _
    rw [e1]; rfl
  · by_cases hroom : n + 1 ≤ cp
    · left
      have hr2 := run_append_room (P := Try.prog) w t ty e i ht hi g n cp cur hg ad 1 c [u] hB2 hnews hone hroom (by simp [hcs, hsize]; omega)
      injection (h1.symm.trans hr2) with e1 _
      rw [e1]; rfl
    · right
      have hr2 := run_append_grow (P := Try.prog) w t ty e i z ht hi hz ⟨g, 0, none⟩ n cp xs (by rw [hsize]; exact hown.1) (hown.cells (g := g) rfl) ad 1 c [u] hB2 hnews (by omega) (by omega) (growslice_fits (by omega) (by have := Nat.mul_le_mul (show n + 1 ≤ 100001 by omega) hby; omega))
      injection (h1.symm.trans hr2) with e1 _
      rw [e1]; rfl
end Gp
end Go.Proofs.Ytakandlehneciaa
