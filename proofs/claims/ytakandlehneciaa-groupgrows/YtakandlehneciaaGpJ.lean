/- Package group: the search as it stands in memory. -/
import Derived.Test.YtakandlehneciaaGpF
import Derived.Test.YtakandlehneciaaGpE
namespace Go.Proofs.Ytakandlehneciaa
open Go.RowKit
attribute [local go_sem ↓] Go.wp_at_zero Go.wp_at_succ
set_option linter.unusedVariables false
set_option linter.unusedSimpArgs false
set_option maxRecDepth 10000
namespace Gp
open Pa
abbrev O2 := List Int × List Int
abbrev Bt := (O2 × List Int) × Int
/-- the orders of as many rows as there are -/
def oo (R : Nat) (o : O2) : List (List Int) := [o.1, o.2].take R
/-- the edges of a layout, as far as its pairs are settled -/
def edF (RR : List (List Int)) (D : List P2) (o : O2) (L : List Bool) : List E3 := edN (PLn (oo RR.length o) RR.length) (MKn RR RR.length) (PHn RR (oo RR.length o) RR.length) (D.zip L)
noncomputable def fN (RR : List (List Int)) (D : List P2) (o : O2) (L : List Bool) : Option Bt :=
  if (lg (ptN RR RR.length : Int) (edF RR D o L)).2 = 0 then some ((o, (lg (ptN RR RR.length : Int) (edF RR D o L)).1), (lg (ptN RR RR.length : Int) (edF RR D o L)).1.getD 1 0) else none
abbrev MaxI : Int := 9223372036854775807
/-- the best so far, as it stands in memory -/
def Bx (RR : List (List Int)) (w : World) (x : Int) (vo st : Value) : Option Bt → Prop
  | none => x = MaxI ∧ vo = .slice none 0 0 ∧ st = .slice none 0 0
  | some b => x = b.2 ∧ Tw 49 3 w vo (oo RR.length b.1.1) ∧ Tw 39 T2 w st (STn (MKn RR RR.length) (oo RR.length b.1.1) b.1.2 (oo RR.length b.1.1).length)
theorem Bx.kt {A : TypeId → Prop} {RR : List (List Int)} {w w' : World} {x : Int} {vo st : Value} {B : Option Bt} (h : Bx RR w x vo st B) (hk : Kt A w w') (h1 : ¬ A 49) (h2 : ¬ A 3) (h3 : ¬ A 39) (h4 : ¬ A T2) : Bx RR w' x vo st B := by
  cases B with
  | none => exact h
  | some b => exact ⟨h.1, h.2.1.kt hk h1 h2, h.2.2.kt hk h3 h4⟩
/-- what may change: the search's box, and the row of what is left -/
abbrev Ch (e : TypeId) : Prop := e = 47 ∨ e = 69
/-- the search in its box -/
structure Sv (RR : List (List Int)) (w9 w : World) (sb : Nat) (vr vf va vd : Value) (fl bud : Int) (k : Nat) (B : Option Bt) : Prop where
  keep : Keep w9 w
  low : w9.heap.size ≤ sb
  box : ∃ x vo st, w.heap[sb]? = some (.cells #[vr, vf, va, vd, .int .i64 fl, .int .i64 (bud - (k : Int)), .int .i64 bud, .int .i64 x, vo, st] 47 (0, 0)) ∧ Bx RR w x vo st B
variable {RR : List (List Int)} {w9 w w' : World} {sb : Nat} {vr vf va vd : Value} {fl bud : Int} {k : Nat} {B : Option Bt}
theorem Sv.mv (h : Sv RR w9 w sb vr vf va vd fl bud k B) (hk : Keep w w') : Sv RR w9 w' sb vr vf va vd fl bud k B := by
  obtain ⟨x, vo, st, h1, h2⟩ := h.box
  exact ⟨h.keep.trans hk, h.low, x, vo, st, (hk.block sb (Array.getElem?_eq_some_iff.1 h1).1).trans h1, h2.kt (A := fun _ => False) (Kt.of hk) (fun h => h) (fun h => h) (fun h => h) (fun h => h)⟩
theorem sv_at {b0 b1 b2 b3 b4 b5 b6 b7 b8 b9 : Value} {t : TypeId} (h : w.heap[sb]? = some (.cells #[b0, b1, b2, b3, b4, b5, b6, b7, b8, b9] t (0, 0))) :
    w.cell? ⟨sb, 0, none⟩ = some b0 ∧ w.cell? ⟨sb, 1, none⟩ = some b1 ∧ w.cell? ⟨sb, 2, none⟩ = some b2 ∧ w.cell? ⟨sb, 3, none⟩ = some b3 ∧ w.cell? ⟨sb, 4, none⟩ = some b4 ∧ w.cell? ⟨sb, 5, none⟩ = some b5 ∧ w.cell? ⟨sb, 6, none⟩ = some b6 ∧ w.cell? ⟨sb, 7, none⟩ = some b7 ∧ w.cell? ⟨sb, 8, none⟩ = some b8 ∧ w.cell? ⟨sb, 9, none⟩ = some b9 := by simp [World.cell?, h]
/-- the row of what is left grows -/
theorem Sv.grown {z n q : Nat} {v : Value} {xs : List Value} (h : Sv RR w9 w sb vr vf va vd fl bud k B) (ho : w.ownsRow q 69 z v n xs) (hq : w9.heap.size ≤ q) (hg : w.grownBy w' v.ownBlock) : Sv RR w9 w' sb vr vf va vd fl bud k B := by
  obtain ⟨x, vo, st, h1, h2⟩ := h.box
  have hkt : Kt (fun e => e = 69) w w' := Kt.grown ho rfl hg
  exact ⟨Below.grown h.keep hg (Below.size h.keep) (fun j ej => by have := (World.ownsRow.lt ho j ej).1; omega), h.low, x, vo, st, hkt.block _ _ _ h1 (by decide), h2.kt hkt (by decide) (by decide) (by decide) (by decide)⟩
/-- one step more -/
theorem Sv.step (h : Sv RR w9 w sb vr vf va vd fl bud (k + 1) B) : Sv RR w9 (w.setCell ⟨sb, 5, none⟩ (.int .i64 (bud - (k : Int)))) sb vr vf va vd fl bud k B ∧ Kt Ch w (w.setCell ⟨sb, 5, none⟩ (.int .i64 (bud - (k : Int)))) := by
  obtain ⟨x, vo, st, h1, h2⟩ := h.box
  have hs : Kt Ch w (w.setCell ⟨sb, 5, none⟩ (.int .i64 (bud - (k : Int)))) := Kt.set h1 (.inl rfl)
  exact ⟨⟨Below.setCell h.keep h.low _, h.low, x, vo, st, by rw [heap_setCell_same w sb 5 _ _ _ h1]; rfl, h2.kt hs (by decide) (by decide) (by decide) (by decide)⟩, hs⟩
theorem sv_fz {arr : Array Value} {t : TypeId} (h : w.heap[sb]? = some (.cells arr t (0, 0))) (i : Nat) : w.frozen? ⟨sb, i, none⟩ = false := by simp [World.frozen?, h]
/-- the best is another one -/
theorem Sv.best (h : Sv RR w9 w sb vr vf va vd fl bud k B) {x : Int} {vo st : Value} {b : Bt} (hb : Bx RR w x vo st (some b)) : Sv RR w9 (((w.setCell ⟨sb, 7, none⟩ (.int .i64 x)).setCell ⟨sb, 8, none⟩ vo).setCell ⟨sb, 9, none⟩ st) sb vr vf va vd fl bud k (some b) ∧ Kt Ch w (((w.setCell ⟨sb, 7, none⟩ (.int .i64 x)).setCell ⟨sb, 8, none⟩ vo).setCell ⟨sb, 9, none⟩ st) ∧ (((w.setCell ⟨sb, 7, none⟩ (.int .i64 x)).setCell ⟨sb, 8, none⟩ vo).setCell ⟨sb, 9, none⟩ st).cell? ⟨sb, 7, none⟩ = some (.int .i64 x) ∧ (((w.setCell ⟨sb, 7, none⟩ (.int .i64 x)).setCell ⟨sb, 8, none⟩ vo).setCell ⟨sb, 9, none⟩ st).cell? ⟨sb, 4, none⟩ = some (.int .i64 fl) := by
  obtain ⟨x1, vo1, st1, h1, h2⟩ := h.box
  have e1 : (w.setCell ⟨sb, 7, none⟩ (.int .i64 x)).heap[sb]? = some (.cells #[vr, vf, va, vd, .int .i64 fl, .int .i64 (bud - (k : Int)), .int .i64 bud, .int .i64 x, vo1, st1] 47 (0, 0)) := by rw [heap_setCell_same w sb 7 _ _ _ h1]; rfl
  have e2 : ((w.setCell ⟨sb, 7, none⟩ (.int .i64 x)).setCell ⟨sb, 8, none⟩ vo).heap[sb]? = some (.cells #[vr, vf, va, vd, .int .i64 fl, .int .i64 (bud - (k : Int)), .int .i64 bud, .int .i64 x, vo, st1] 47 (0, 0)) := by rw [heap_setCell_same _ sb 8 _ _ _ e1]; rfl
  have e3 : (((w.setCell ⟨sb, 7, none⟩ (.int .i64 x)).setCell ⟨sb, 8, none⟩ vo).setCell ⟨sb, 9, none⟩ st).heap[sb]? = some (.cells #[vr, vf, va, vd, .int .i64 fl, .int .i64 (bud - (k : Int)), .int .i64 bud, .int .i64 x, vo, st] 47 (0, 0)) := by rw [heap_setCell_same _ sb 9 _ _ _ e2]; rfl
  have hs : Kt Ch w (((w.setCell ⟨sb, 7, none⟩ (.int .i64 x)).setCell ⟨sb, 8, none⟩ vo).setCell ⟨sb, 9, none⟩ st) := ((Kt.set h1 (.inl rfl)).trans (Kt.set e1 (.inl rfl))).trans (Kt.set e2 (.inl rfl))
  exact ⟨⟨Below.setCell (Below.setCell (Below.setCell h.keep h.low _) h.low _) h.low _, h.low, x, vo, st, e3, hb.kt hs (by decide) (by decide) (by decide) (by decide)⟩, hs, (sv_at e3).2.2.2.2.2.2.2.1, (sv_at e3).2.2.2.2.1⟩
/-- parts, one behind the other -/
def pts : List (List Bool) → List Value
  | [] => []
  | L :: S => .int .i64 (L.length : Int) :: .int .u64 (xv L : Int) :: pts S
theorem pts_len : ∀ S : List (List Bool), (pts S).length = S.length * 2
  | [] => rfl
  | L :: S => by simp only [pts, List.length_cons, pts_len S]; omega
theorem pts_app : ∀ S T : List (List Bool), pts (S ++ T) = pts S ++ pts T
  | [], T => rfl
  | L :: S, T => by simp only [List.cons_append, pts, pts_app S T]
theorem pts_one : ∀ S : List (List Bool), ∀ u ∈ pts S, u.oneCell' = true
  | [], u, hu => by simp [pts] at hu
  | L :: S, u, hu => by
    simp only [pts, List.mem_cons] at hu
    rcases hu with rfl | rfl | hu
    · rfl
    · rfl
    · exact pts_one S u hu
/-- what is left, the top first -/
def Lf (q : Nat) (w : World) (v : Value) (T : List (List Bool)) : Prop := w.ownsRow q 69 2 v T.length (pts T.reverse)
/-- the top one, and what stays behind it -/
theorem Lf.top {q c : Nat} {w : World} {a : Option Addr} {n : Nat} {L : List Bool} {T : List (List Bool)} (h : Lf q w (.slice a n c) (L :: T)) : ∃ g, a = some ⟨g, 0, none⟩ ∧ n = T.length + 1 ∧ T.length + 1 ≤ c ∧ w.cell? ⟨g, T.length * 2, none⟩ = some (.int .i64 (L.length : Int)) ∧ w.cell? ⟨g, T.length * 2 + 1, none⟩ = some (.int .u64 (xv L : Int)) ∧ Lf q w (.slice (some ⟨g, 0, none⟩) T.length c) T := by
  obtain ⟨h1, h2⟩ := h
  rcases h2 with ⟨e, h0⟩ | ⟨g, cap, cur, e, hb, hg, hc, hm, hs, ht⟩
  · simp at h0
  · injection e with e1 e2 e3
    subst e1 e2 e3
    rw [List.reverse_cons, pts_app] at ht
    have hl : (pts T.reverse).length = T.length * 2 := by rw [pts_len, List.length_reverse]
    have e0 : ∀ j, j < T.length * 2 + 2 → cur[j]? = (pts T.reverse ++ pts [L])[j]? := fun j hj => by
      rw [← ht, List.getElem?_take, if_pos (by simp; omega)]; simp
    simp only [List.length_cons] at hc hm hs
    refine ⟨g, rfl, by simp, hc, ?_, ?_, by simp [pts_len], .inr ⟨g, c, cur, rfl, hb, hg, by omega, hm, hs, ?_⟩⟩
    · simp only [World.cell?, hg]
      rw [e0 _ (by omega), List.getElem?_append_right (by omega), hl, Nat.sub_self]
      rfl
    · simp only [World.cell?, hg]
      rw [e0 _ (by omega), List.getElem?_append_right (by omega), hl, Nat.add_sub_cancel_left]
      rfl
    · have h3 := congrArg (List.take (T.length * 2)) ht
      rw [List.take_take, Nat.min_eq_left (by simp; omega), List.take_append_of_le_length (by omega), List.take_of_length_le (by omega : (pts T.reverse).length ≤ T.length * 2)] at h3
      exact h3
theorem Lf.keep {q : Nat} {v : Value} {T : List (List Bool)} (h : Lf q w v T) (hk : Keep w w') : Lf q w' v T := own_k h hk
theorem Lf.sl {q : Nat} {v : Value} {T : List (List Bool)} (h : Lf q w v T) : ∃ a c, v = .slice a T.length c := own_l h
/-- the stack is no higher than the top is long -/
def SI : List (List Bool) → Prop
  | [] => True
  | L :: T => T.length ≤ L.length ∧ SI T
theorem infoQ : (Try.prog.info? 69).map (fun i => (i.zero, i.size, i.bytes)) = some (some (.agg #[.int .i64 0, .int .u64 0]), 2, 16) := by kernel_rfl
end Gp
end Go.Proofs.Ytakandlehneciaa
