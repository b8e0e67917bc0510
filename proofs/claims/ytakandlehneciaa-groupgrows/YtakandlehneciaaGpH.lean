/- Package group: a graph in its box while it is laid: each step of it. -/
import Derived.Test.YtakandlehneciaaGpG
namespace Go.Proofs.Ytakandlehneciaa
open Go.RowKit
attribute [local go_sem ↓] Go.wp_at_zero Go.wp_at_succ
set_option linter.unusedVariables false
set_option linter.unusedSimpArgs false
set_option maxRecDepth 10000
namespace Gp
open Pa
/-- an append that comes to P -/
theorem wp_ap {o : Oper} {a : Act} {K : Act → World → Prop} {Q : Exit → Act → World → Prop} {w : World} (s x : Operand) (t : TypeId) {v xv : Value} {P : Value → World → Prop}
    (ho : o.op = .call { callee := .builtin .append, args := #[s, x], argTypes := #[t, t] }) (hs : a.eval s = v) (hx : a.eval x = xv)
    (hr : ∃ v' w', (Builtin.append_ #[t, t] o.type #[v, xv]).run Try.prog w = .ok v' w' ∧ P v' w') (h : ∀ v' w', P v' w' → K (a.put o.dst v') w') : o.wp Try.prog a w K Q := by
  obtain ⟨v', w', hr, hp⟩ := hr
  unfold Oper.wp execOp
  simp only [ho, resolve, invoke, builtin, Sem.run_bind, Sem.run_pure, Result.andThen_ok, List.map_toArray, List.map_cons, List.map_nil, hs, hx, hr]
  exact h v' w' hp
theorem wpList_ap {ops : Array Oper} {rest : List Oper} {o : Oper} {a : Act} {Q : Exit → Act → World → Prop} {w : World} (hgd : o.guard = none) (s x : Operand) (t : TypeId) {v xv : Value} {P : Value → World → Prop}
    (ho : o.op = .call { callee := .builtin .append, args := #[s, x], argTypes := #[t, t] }) (hs : a.eval s = v) (hx : a.eval x = xv)
    (hr : ∃ v' w', (Builtin.append_ #[t, t] o.type #[v, xv]).run Try.prog w = .ok v' w' ∧ P v' w') (h : ∀ v' w', P v' w' → wpList Try.prog ops Q rest (a.put o.dst v') w') : wpList Try.prog ops Q (o :: rest) a w :=
  wpList_plain hgd fun K hK => wp_ap s x t ho hs hx hr fun v' w' hp => hK _ _ (h v' w' hp)
theorem infoT : (Try.prog.info? 49).map (fun i => (i.zero, i.size, i.bytes)) = some (some (.slice none 0 0), 1, 24) := by kernel_rfl
theorem infoN : (Try.prog.info? 3).map (fun i => (i.zero, i.size, i.bytes)) = some (some (.int .i64 0), 1, 8) := by kernel_rfl
theorem infoE : (Try.prog.info? 82).map (fun i => (i.zero, i.size, i.bytes)) = some (some (.agg #[.int .i64 0, .int .i64 0, .int .i64 0]), 3, 24) := by kernel_rfl
structure Gs (B gb : Nat) (w : World) (n : Int) (vo pl mk ph : Value) (PL MK : List (List Int)) (PH : List E3) : Prop where
  box : w.heap[gb]? = some (.cells #[.int .i64 n, vo, pl, mk, ph] 75 (0, 0))
  low : B ≤ gb
  wpl : Ow B 49 3 w pl PL
  wmk : Ow B 49 3 w mk MK
  wph : w.ownsRow B 82 3 ph PH.length (ecs PH)
  sep : ∀ g, pl.ownBlock = some g → mk.ownBlock ≠ some g
variable {B gb : Nat} {w w' : World} {n : Int} {vo pl mk ph : Value} {PL MK : List (List Int)} {PH : List E3}
theorem Gs.keep (h : Gs B gb w n vo pl mk ph PL MK PH) (hk : Keep w w') : Gs B gb w' n vo pl mk ph PL MK PH :=
  ⟨(hk.block gb (Array.getElem?_eq_some_iff.1 h.box).1).trans h.box, h.low, h.wpl.keep hk, h.wmk.keep hk, own_k h.wph hk, h.sep⟩
theorem Gs.gm (h : Gs B gb w n vo pl mk ph PL MK PH) : Gm w gb n vo PL MK PH := ⟨pl, mk, ph, h.box, h.wpl.tw, h.wmk.tw, B, h.wph⟩
/-- all stays but the box -/
theorem Gs.but {n' : Int} (h : Gs B gb w n vo pl mk ph PL MK PH) (hg : w.grownBy w' (some gb)) (hb : w'.heap[gb]? = some (.cells #[.int .i64 n', vo, pl, mk, ph] 75 (0, 0))) : Gs B gb w' n' vo pl mk ph PL MK PH := by
  have hk : Kt (fun e => e = 75) w w' := ⟨hg.size, fun i arr e h1 h2 => by
    rw [hg.block i (Array.getElem?_eq_some_iff.1 h1).1 (fun e2 => ?_)]
    · exact h1
    · injection e2 with e2
      subst e2
      rw [h.box] at h1
      injection h1 with h1
      injection h1 with h3 h4
      exact h2 h4.symm⟩
  exact ⟨hb, h.low, h.wpl.kt hk (by decide) (by decide), h.wmk.kt hk (by decide) (by decide), own_kt h.wph hk (by decide), h.sep⟩
theorem Gs.cell (h : Gs B gb w n vo pl mk ph PL MK PH) : w.cell? ⟨gb, 0, none⟩ = some (.int .i64 n) ∧ w.cell? ⟨gb, 1, none⟩ = some vo ∧ w.cell? ⟨gb, 2, none⟩ = some pl ∧ w.cell? ⟨gb, 3, none⟩ = some mk ∧ w.cell? ⟨gb, 4, none⟩ = some ph := by
  simp [World.cell?, h.box]
theorem Gs.fz (h : Gs B gb w n vo pl mk ph PL MK PH) (i : Nat) : w.frozen? ⟨gb, i, none⟩ = false := by simp [World.frozen?, h.box]
theorem Gs.lt (h : Gs B gb w n vo pl mk ph PL MK PH) : gb < w.heap.size := (Array.getElem?_eq_some_iff.1 h.box).1
theorem box_set {a b c d e : Value} {t : TypeId} {i : Nat} {u : Value} (h : w.heap[gb]? = some (.cells #[a, b, c, d, e] t (0, 0))) : (w.setCell ⟨gb, i, none⟩ u).heap[gb]? = some (.cells (#[a, b, c, d, e].setIfInBounds i u) t (0, 0)) := heap_setCell_same w gb i _ _ _ h
theorem kt_set (h : Gs B gb w n vo pl mk ph PL MK PH) (i : Nat) (u : Value) : Kt (fun e => e = 75) w (w.setCell ⟨gb, i, none⟩ u) := Kt.set h.box rfl
theorem Gs.pts (h : Gs B gb w n vo pl mk ph PL MK PH) (m : Int) : Gs B gb (w.setCell ⟨gb, 0, none⟩ (.int .i64 m)) m vo pl mk ph PL MK PH :=
  ⟨by rw [box_set h.box]; rfl, h.low, h.wpl.kt (kt_set h _ _) (by decide) (by decide), h.wmk.kt (kt_set h _ _) (by decide) (by decide), own_kt h.wph (kt_set h _ _) (by decide), h.sep⟩
theorem gb_set (hg : w.grownBy w' (some gb)) (i : Nat) (u : Value) : w.grownBy (w'.setCell ⟨gb, i, none⟩ u) (some gb) :=
  ⟨hg.os, hg.tape, hg.output, by rw [World.size_setCell]; exact hg.size, fun k hk hne => by rw [heap_setCell_other _ _ k _ (fun e => hne (by rw [e]))]; exact hg.block k hk hne⟩
theorem gb_keep {w2 : World} (hg : w.grownBy w' (some gb)) (hk : Keep w' w2) : w.grownBy w2 (some gb) :=
  ⟨hk.os.trans hg.os, hk.tape.trans hg.tape, hk.output.trans hg.output, Nat.le_trans hg.size (Below.size hk), fun k hl hne => (hk.block k (Nat.lt_of_lt_of_le hl hg.size)).trans (hg.block k hl hne)⟩
theorem gb_own {w2 : World} {z m : Nat} {e : TypeId} {v : Value} {xs : List Value} (hg : w.grownBy w' (some gb)) (ho : w'.ownsRow w.heap.size e z v m xs) (h2 : w'.grownBy w2 v.ownBlock) : w.grownBy w2 (some gb) :=
  ⟨h2.os.trans hg.os, h2.tape.trans hg.tape, h2.output.trans hg.output, Nat.le_trans hg.size h2.size, fun k hl hne => (h2.block k (Nat.lt_of_lt_of_le hl hg.size) (fun e => by have := (World.ownsRow.lt ho k e.symm).1; omega)).trans (hg.block k hl hne)⟩
/-- one row more in a row of rows, apart from another such row -/
theorem ow_more {e1 e2 : TypeId} {v : Value} {LL : List (List Int)} {US : List Value} {v' u : Value} {L : List Int} (hne : e1 ≠ e2) (hl : US.length = LL.length) (ho : w.ownsRow B e1 1 v LL.length US) (hj : ∀ j, j < LL.length → Iw e2 w (US.getD j undef) (LL.getD j [])) (hu : Iw e2 w u L)
    (ho' : w'.ownsRow B e1 1 v' (LL.length + 1) (US ++ [u])) (hg : w.grownBy w' v.ownBlock) : Ow B e1 e2 w' v' (LL ++ [L]) := by
  have hk : Kt (fun e => e = e1) w w' := Kt.grown ho rfl hg
  have e9 : (LL ++ [L]).length = LL.length + 1 := by simp
  refine ⟨US ++ [u], by simp [hl], by rw [e9]; exact ho', fun j h => ?_⟩
  rw [e9] at h
  rcases Nat.lt_or_ge j LL.length with h9 | h9
  · have e1 : (US ++ [u]).getD j undef = US.getD j undef := by rw [List.getD_eq_getElem?_getD, List.getD_eq_getElem?_getD, List.getElem?_append_left (by omega)]
    have e2 : (LL ++ [L]).getD j [] = LL.getD j [] := by rw [List.getD_eq_getElem?_getD, List.getD_eq_getElem?_getD, List.getElem?_append_left (by omega)]
    rw [e1, e2]
    exact iw_kt (hj j (by omega)) hk (fun e => hne e.symm)
  · obtain rfl : j = LL.length := by omega
    have e1 : (US ++ [u]).getD LL.length undef = u := by rw [List.getD_eq_getElem?_getD, List.getElem?_append_right (by omega), show LL.length - US.length = 0 by omega]; rfl
    have e2 : (LL ++ [L]).getD LL.length [] = L := by rw [List.getD_eq_getElem?_getD, List.getElem?_append_right (by omega), Nat.sub_self]; rfl
    rw [e1, e2]
    exact iw_kt hu hk (fun e => hne e.symm)
theorem Kt.mono {A A' : TypeId → Prop} {w w' : World} (h : Kt A w w') (ha : ∀ e, A e → A' e) : Kt A' w w' := ⟨h.size, fun i arr e h1 h2 => h.block i arr e h1 (fun h3 => h2 (ha e h3))⟩
/-- what comes of an append that is then stored at i -/
structure Gp1 (b0 : World) (B gb : Nat) (w : World) (n : Int) (vo pl mk ph : Value) (i : Nat) (m : Nat) (S : Value → World → Prop) (v' : Value) (w' : World) : Prop where
  sl : ∃ a c, v' = .slice a m c
  box : w'.heap[gb]? = some (.cells #[.int .i64 n, vo, pl, mk, ph] 75 (0, 0))
  k1 : Keep b0 w'
  k2 : Keep b0 (w'.setCell ⟨gb, i, none⟩ v')
  s : S v' (w'.setCell ⟨gb, i, none⟩ v')
  t : Kt (fun e => e = 49 ∨ e = 82) w w'
theorem Gp1.cell {b0 : World} {i m : Nat} {S : Value → World → Prop} {v' : Value} (h : Gp1 b0 B gb w n vo pl mk ph i m S v' w') : w'.cell? ⟨gb, 0, none⟩ = some (.int .i64 n) ∧ w'.cell? ⟨gb, 1, none⟩ = some vo ∧ w'.cell? ⟨gb, 2, none⟩ = some pl ∧ w'.cell? ⟨gb, 3, none⟩ = some mk ∧ w'.cell? ⟨gb, 4, none⟩ = some ph := by
  simp [World.cell?, h.box]
theorem Gp1.fz {b0 : World} {i m : Nat} {S : Value → World → Prop} {v' : Value} (h : Gp1 b0 B gb w n vo pl mk ph i m S v' w') (j : Nat) : w'.frozen? ⟨gb, j, none⟩ = false := by simp [World.frozen?, h.box]
/-- the row of marks grows -/
theorem Gs.app_mk {b0 : World} (h : Gs B gb w n vo pl mk ph PL MK PH) (hk : Keep b0 w) (hb : b0.heap.size = B) {ty : TypeId} {ad : Addr} {c : Nat} {u : Value} {L : List Int} (hc : w.cell? ad = some u) (hu : Iw 3 w u L) (hl : MK.length ≤ 100000) :
    ∃ v' w', (Builtin.append_ #[28, 28] ty #[mk, .slice (some ad) 1 c]).run Try.prog w = .ok v' w' ∧ Gp1 b0 B gb w n vo pl mk ph 3 (MK.length + 1) (fun v' w2 => Gs B gb w2 n vo pl v' ph PL (MK ++ [L]) PH) v' w' := by
  obtain ⟨i0, hi, hz0, hz1, hz2⟩ := info_f infoT
  obtain ⟨US, hus, hown, hrow⟩ := h.wmk
  have hone : u.oneCell' = true := by rcases hu with ⟨rfl, _⟩ | ⟨_, _, _, rfl, _⟩ <;> rfl
  obtain ⟨v', w', h1, h2, h3, h4⟩ := run_append_one w B 28 ty 49 i0 _ Try.underlying28 hi hz0 hz1 (by omega) rfl mk MK.length US hown ad c u hc hone hl (by rw [← hb]; exact Below.size hk)
  have hkt : Kt (fun e => e = 49) w w' := Kt.grown hown rfl h3
  have hbx := hkt.block _ _ _ h.box (by decide)
  have K1 : Keep b0 w' := Below.grown hk h3 (Below.size hk) (fun j ej => by have := (World.ownsRow.lt hown j ej).1; omega)
  have hs : Kt (fun e => e = 75) w' (w'.setCell ⟨gb, 3, none⟩ v') := Kt.set hbx rfl
  refine ⟨v', w', h1, own_l h2, hbx, K1, Below.setCell K1 (by have := h.low; show b0.heap.size ≤ gb; omega) _, ⟨by rw [box_set hbx]; rfl, h.low, ?_, (ow_more (by decide) hus hown hrow hu h2 h3).kt hs (by decide) (by decide), own_kt (own_kt h.wph hkt (by decide)) hs (by decide), ?_⟩, hkt.mono (fun e h => .inl h)⟩
  · obtain ⟨VS, hvs, hvo, hvr⟩ := h.wpl
    refine ⟨VS, hvs, own_kt (World.ownsRow.kept hvo h3 ?_) hs (by decide), fun j hj => iw_kt (iw_kt (hvr j hj) hkt (by decide)) hs (by decide)⟩
    cases hpl : pl.ownBlock with
    | none => exact .inl rfl
    | some g => exact .inr (fun e => h.sep g hpl e.symm)
  · intro g hg
    rcases h4 with e | e
    · rw [e]; exact h.sep g hg
    · rw [e]
      obtain ⟨VS, hvs, hvo, hvr⟩ := h.wpl
      have := (World.ownsRow.lt hvo g hg).2
      intro e2
      injection e2 with e2
      omega
/-- the row of places grows -/
theorem Gs.app_pl {b0 : World} (h : Gs B gb w n vo pl mk ph PL MK PH) (hk : Keep b0 w) (hb : b0.heap.size = B) {ty : TypeId} {ad : Addr} {c : Nat} {u : Value} {L : List Int} (hc : w.cell? ad = some u) (hu : Iw 3 w u L) (hl : PL.length ≤ 100000) :
    ∃ v' w', (Builtin.append_ #[28, 28] ty #[pl, .slice (some ad) 1 c]).run Try.prog w = .ok v' w' ∧ Gp1 b0 B gb w n vo pl mk ph 2 (PL.length + 1) (fun v' w2 => Gs B gb w2 n vo v' mk ph (PL ++ [L]) MK PH) v' w' := by
  obtain ⟨i0, hi, hz0, hz1, hz2⟩ := info_f infoT
  obtain ⟨US, hus, hown, hrow⟩ := h.wpl
  have hone : u.oneCell' = true := by rcases hu with ⟨rfl, _⟩ | ⟨_, _, _, rfl, _⟩ <;> rfl
  obtain ⟨v', w', h1, h2, h3, h4⟩ := run_append_one w B 28 ty 49 i0 _ Try.underlying28 hi hz0 hz1 (by omega) rfl pl PL.length US hown ad c u hc hone hl (by rw [← hb]; exact Below.size hk)
  have hkt : Kt (fun e => e = 49) w w' := Kt.grown hown rfl h3
  have hbx := hkt.block _ _ _ h.box (by decide)
  have K1 : Keep b0 w' := Below.grown hk h3 (Below.size hk) (fun j ej => by have := (World.ownsRow.lt hown j ej).1; omega)
  have hs : Kt (fun e => e = 75) w' (w'.setCell ⟨gb, 2, none⟩ v') := Kt.set hbx rfl
  refine ⟨v', w', h1, own_l h2, hbx, K1, Below.setCell K1 (by have := h.low; show b0.heap.size ≤ gb; omega) _, ⟨by rw [box_set hbx]; rfl, h.low, (ow_more (by decide) hus hown hrow hu h2 h3).kt hs (by decide) (by decide), ?_, own_kt (own_kt h.wph hkt (by decide)) hs (by decide), ?_⟩, hkt.mono (fun e h => .inl h)⟩
  · obtain ⟨VS, hvs, hvo, hvr⟩ := h.wmk
    refine ⟨VS, hvs, own_kt (World.ownsRow.kept hvo h3 ?_) hs (by decide), fun j hj => iw_kt (iw_kt (hvr j hj) hkt (by decide)) hs (by decide)⟩
    cases hmk : mk.ownBlock with
    | none => exact .inl rfl
    | some g => exact .inr (fun e => h.sep g e.symm hmk)
  · intro g hg
    rcases h4 with e | e
    · rw [e] at hg; exact h.sep g hg
    · rw [e] at hg
      obtain ⟨VS, hvs, hvo, hvr⟩ := h.wmk
      intro e2
      have := (World.ownsRow.lt hvo g e2).2
      injection hg with hg
      omega
/-- the row of edges grows -/
theorem Gs.app_ph {b0 : World} (h : Gs B gb w n vo pl mk ph PL MK PH) (hk : Keep b0 w) (hb : b0.heap.size = B) {ty : TypeId} {ad : Addr} {c : Nat} {e : E3} (hc : ∀ j u, (ecs [e])[j]? = some u → w.cell? (ad.add j) = some u) (hl : PH.length ≤ 100000) {vm : Value} {MM : List Int} (hv : Iw 3 w vm MM) :
    ∃ v' w', (Builtin.append_ #[73, 73] ty #[ph, .slice (some ad) 1 c]).run Try.prog w = .ok v' w' ∧ Gp1 b0 B gb w n vo pl mk ph 4 (PH.length + 1) (fun v' w2 => Gs B gb w2 n vo pl mk v' PL MK (PH ++ [e]) ∧ Iw 3 w2 vm MM) v' w' := by
  obtain ⟨i0, hi, hz0, hz1, hz2⟩ := info_f infoE
  obtain ⟨v', w', h1, h2, h3, _⟩ := run_append_own (P := Try.prog) w B 73 ty 82 i0 _ 3 24 Try.underlying73 hi hz0 hz1 hz2 rfl (by decide) ph PH.length (ecs PH) h.wph ad 1 c (ecs [e]) rfl hc (ecs_one _) (by unfold maxLen; omega) (by omega) (by rw [← hb]; exact Below.size hk)
  have hkt : Kt (fun t => t = 82) w w' := Kt.grown h.wph rfl h3
  have hbx := hkt.block _ _ _ h.box (by decide)
  have K1 : Keep b0 w' := Below.grown hk h3 (Below.size hk) (fun j ej => by have := (World.ownsRow.lt h.wph j ej).1; omega)
  have hs : Kt (fun e => e = 75) w' (w'.setCell ⟨gb, 4, none⟩ v') := Kt.set hbx rfl
  refine ⟨v', w', h1, own_l h2, hbx, K1, Below.setCell K1 (by have := h.low; show b0.heap.size ≤ gb; omega) _, ⟨⟨by rw [box_set hbx]; rfl, h.low, (h.wpl.kt hkt (by decide) (by decide)).kt hs (by decide) (by decide), (h.wmk.kt hkt (by decide) (by decide)).kt hs (by decide) (by decide), ?_, h.sep⟩, iw_kt (iw_kt hv hkt (by decide)) hs (by decide)⟩, hkt.mono (fun e h => .inr h)⟩
  rw [ecs_app, List.length_append]
  exact own_kt h2 hs (by decide)
end Gp
end Go.Proofs.Ytakandlehneciaa
