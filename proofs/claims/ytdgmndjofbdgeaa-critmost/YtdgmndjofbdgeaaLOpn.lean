/- The document's reader in memory; rows that grow; boxes. -/
import Derived.Test.YtdgmndjofbdgeaaNVal
import Derived.LoopTactic
import Derived.Deep.DeepCutAuto
import Derived.Maps.AppendAt
import Derived.WalkKit
import Derived.ProofKit
import Derived.OpenShut
import Derived.ShutString
import Derived.ChangeOld
import Derived.Below
import Derived.Lib.SmallJoins
import Derived.JoinedOf
import Derived.Stop.Joined
namespace Go.Proofs.Ytdgmndjofbdgeaa
open Go.RowKit
set_option linter.unusedVariables false
set_option linter.unusedSimpArgs false
set_option maxRecDepth 10000
namespace Q
/-- tokens that end as they should, with numbers that fit -/
def Wf (l : List Tok) : Prop := l.length ≤ 70000 ∧ (∃ m t, l = m ++ [t] ∧ t.k = 0 ∧ t.s = []) ∧ ∀ t ∈ l, 0 ≤ t.n ∧ t.n ≤ 999999999999999999
theorem cell_lt {w : World} {a : Addr} {v : Value} (h : w.cell? a = some v) : a.block < w.heap.size := World.block_lt_of_cell? w a h
theorem kcell {w w' : World} (k : Keep w w') {a : Addr} {v : Value} (h : w.cell? a = some v) : w'.cell? a = some v := by rw [Below.cell k (cell_lt h)]; exact h
theorem set_ne (w : World) (p a : Addr) (v : Value) (h : p ≠ a) : (w.setCell p v).cell? a = w.cell? a := by apply World.cell?_setCell_other; exact h
theorem set_eq {w : World} {a : Addr} {u : Value} (v : Value) (h : w.cell? a = some u) : (w.setCell a v).cell? a = some v := by apply World.cell?_setCell_same; exact h
theorem cell_of {w w' : World} {a : Addr} (h : w'.heap[a.block]? = w.heap[a.block]?) : w'.cell? a = w.cell? a := World.cell?_of_block h
section
variable {P : Program} {w : World}
end
/-- tokens that end as they should -/
def Wq (L : List Tok) : Prop := Wf L ∧ ∀ t ∈ L, Kf t
theorem Wq.cons {t : Tok} {r : List Tok} (h : Wq (t :: r)) (hk : t.k ≠ 0 ∨ t.s ≠ []) : Wq r ∧ r ≠ [] := by
  obtain ⟨⟨h1, ⟨m, u, e, u1, u2⟩, h3⟩, h4⟩ := h
  cases m with
  | nil =>
    simp only [List.nil_append, List.cons.injEq] at e
    obtain ⟨rfl, _⟩ := e
    rcases hk with hk | hk
    · exact absurd u1 hk
    · exact absurd u2 hk
  | cons x m =>
    simp only [List.cons_append, List.cons.injEq] at e
    obtain ⟨rfl, rfl⟩ := e
    refine ⟨⟨⟨by simp at h1 ⊢; omega, ⟨m, u, rfl, u1, u2⟩, fun t ht => h3 t (List.mem_cons_of_mem _ ht)⟩, fun t ht => h4 t (List.mem_cons_of_mem _ ht)⟩, by simp⟩
theorem Wq.ne {L : List Tok} (h : Wq L) : ∃ t r, L = t :: r := by
  obtain ⟨⟨_, ⟨m, u, rfl, _⟩, _⟩, _⟩ := h
  cases m with
  | nil => exact ⟨u, [], rfl⟩
  | cons x m => exact ⟨x, m ++ [u], rfl⟩
/-- the reader's cells: so many tokens from an address on, what was wrong, and where -/
structure Rm (w : World) (b : Nat) (ad : Addr) (cap : Nat) (e p : Int) (L : List Tok) : Prop where
  c0 : w.cell? ⟨b, 0, none⟩ = some (.slice (some ad) L.length cap)
  c1 : w.cell? ⟨b, 1, none⟩ = some (.int .i64 e)
  c2 : w.cell? ⟨b, 2, none⟩ = some (.int .i64 p)
  f0 : w.frozen? ⟨b, 0, none⟩ = false
  f1 : w.frozen? ⟨b, 1, none⟩ = false
  f2 : w.frozen? ⟨b, 2, none⟩ = false
  le : L.length ≤ cap
  lt : ad.block < b
  tc : ∀ k, k < L.length → Tc w (ad.add (k * 4)) (L.getD k t0)
  wq : Wq L
theorem Rm.bl {w : World} {b : Nat} {ad : Addr} {cap : Nat} {e p : Int} {L : List Tok} (h : Rm w b ad cap e p L) : b < w.heap.size := cell_lt h.c0
theorem tc_move {w w' : World} {ad : Addr} {t : Tok} (h : Tc w ad t) (hk : w'.heap[ad.block]? = w.heap[ad.block]?) : Tc w' ad t := by
  obtain ⟨h0, h1, h2, h3⟩ := h
  exact ⟨(cell_of hk).trans h0, (cell_of (a := ⟨ad.block, ad.off + 1, none⟩) hk).trans h1, (cell_of (a := ⟨ad.block, ad.off + 2, none⟩) hk).trans h2, (cell_of (a := ⟨ad.block, ad.off + 3, none⟩) hk).trans h3⟩
theorem Rm.move {w w' : World} {b : Nat} {ad : Addr} {cap : Nat} {e p : Int} {L : List Tok} (h : Rm w b ad cap e p L) (hb : w'.heap[b]? = w.heap[b]?) (ht : w'.heap[ad.block]? = w.heap[ad.block]?) : Rm w' b ad cap e p L :=
  ⟨(cell_of (a := ⟨b, 0, none⟩) hb).trans h.c0, (cell_of (a := ⟨b, 1, none⟩) hb).trans h.c1, (cell_of (a := ⟨b, 2, none⟩) hb).trans h.c2, (World.frozen?_of_block (a := ⟨b, 0, none⟩) hb).trans h.f0, (World.frozen?_of_block (a := ⟨b, 1, none⟩) hb).trans h.f1, (World.frozen?_of_block (a := ⟨b, 2, none⟩) hb).trans h.f2, h.le, h.lt, fun k hk => tc_move (h.tc k hk) (by rw [add_block]; exact ht), h.wq⟩
theorem Rm.keep {w w' : World} {b : Nat} {ad : Addr} {cap : Nat} {e p : Int} {L : List Tok} (h : Rm w b ad cap e p L) (k : Keep w w') : Rm w' b ad cap e p L := h.move (k.block _ h.bl) (k.block _ (Nat.lt_trans h.lt h.bl))
theorem Rm.fail {w : World} {b : Nat} {ad : Addr} {cap : Nat} {e p e' p' : Int} {L : List Tok} (h : Rm w b ad cap e p L) : Rm ((w.setCell ⟨b, 1, none⟩ (.int .i64 e')).setCell ⟨b, 2, none⟩ (.int .i64 p')) b ad cap e' p' L := by
  have hb : ∀ k, (ad.add (k * 4)).block ≠ b := fun k => by rw [add_block]; have := h.lt; omega
  refine ⟨?_, ?_, ?_, ?_, ?_, ?_, h.le, h.lt, fun k hk => tc_move (h.tc k hk) ?_, h.wq⟩
  · rw [set_ne _ _ _ _ (by simp), set_ne _ _ _ _ (by simp)]; exact h.c0
  · rw [set_ne _ _ _ _ (by simp)]; exact set_eq _ h.c1
  · refine set_eq _ (u := .int .i64 p) ?_
    rw [set_ne _ _ _ _ (by simp)]; exact h.c2
  · rw [World.frozen?_setCell, World.frozen?_setCell]; exact h.f0
  · rw [World.frozen?_setCell, World.frozen?_setCell]; exact h.f1
  · rw [World.frozen?_setCell, World.frozen?_setCell]; exact h.f2
  · rw [Below.heap_setCell _ _ _ _ (hb k), Below.heap_setCell _ _ _ _ (hb k)]
theorem Rm.next {w : World} {b : Nat} {ad : Addr} {cap : Nat} {e p : Int} {t : Tok} {r : List Tok} (h : Rm w b ad cap e p (t :: r)) (hk : t.k ≠ 0 ∨ t.s ≠ []) : Rm (w.setCell ⟨b, 0, none⟩ (.slice (some ⟨ad.block, ad.off + 4, none⟩) r.length (cap - 1))) b ⟨ad.block, ad.off + 4, none⟩ (cap - 1) e p r ∧ 1 < cap ∧ r ≠ [] := by
  have hw := h.wq.cons hk
  have hl : 0 < r.length := List.length_pos_iff.2 hw.2
  have hc := h.le
  simp only [List.length_cons] at hc
  refine ⟨⟨?_, ?_, ?_, ?_, ?_, ?_, by omega, h.lt, fun k hk2 => ?_, hw.1⟩, by omega, hw.2⟩
  · exact set_eq _ h.c0
  · rw [set_ne _ _ _ _ (by simp)]; exact h.c1
  · rw [set_ne _ _ _ _ (by simp)]; exact h.c2
  · rw [World.frozen?_setCell]; exact h.f0
  · rw [World.frozen?_setCell]; exact h.f1
  · rw [World.frozen?_setCell]; exact h.f2
  · have := h.tc (k + 1) (by simp; omega)
    have e1 : ad.add ((k + 1) * 4) = (⟨ad.block, ad.off + 4, none⟩ : Addr).add (k * 4) := by
      rw [add_plain]
      unfold Addr.add
      rw [if_neg (by omega)]
      simp only [Addr.mk.injEq, true_and, and_true]
      omega
    rw [e1] at this
    have e2 : (t :: r).getD (k + 1) t0 = r.getD k t0 := by simp
    rw [e2] at this
    exact tc_move this (by rw [add_block]; exact Below.heap_setCell _ _ _ _ (by have := h.lt; simp only; omega))
/-- the reader stands at what is left, or at what was wrong -/
def Sr (w : World) (b : Nat) (Y : Except Er (List Tok)) : Prop := ∃ ad cap e p L, Rm w b ad cap e p L ∧ match Y with
  | .ok r => L = r ∧ e = 0
  | .error x => e = x.1 ∧ p = x.2 ∧ x.1 ≠ 0
theorem Sr.keep {w w' : World} {b : Nat} {Y : Except Er (List Tok)} (h : Sr w b Y) (k : Keep w w') : Sr w' b Y := by
  obtain ⟨ad, cap, e, p, L, h1, h2⟩ := h
  exact ⟨ad, cap, e, p, L, h1.keep k, h2⟩
theorem Sr.bl {w : World} {b : Nat} {Y : Except Er (List Tok)} (h : Sr w b Y) : b < w.heap.size := by
  obtain ⟨ad, cap, e, p, L, h1, h2⟩ := h
  exact h1.bl
/-- blocks behind the reader's turn -/
theorem Sr.far {w w' : World} {b : Nat} {Y : Except Er (List Tok)} (h : Sr w b Y) (k : ∀ i, i ≤ b → w'.heap[i]? = w.heap[i]?) : Sr w' b Y := by
  obtain ⟨ad, cap, e, p, L, h1, h2⟩ := h
  exact ⟨ad, cap, e, p, L, h1.move (k b (Nat.le_refl _)) (k _ (Nat.le_of_lt h1.lt)), h2⟩
theorem Sr.set {w : World} {b : Nat} {Y : Except Er (List Tok)} (h : Sr w b Y) (a : Addr) (v : Value) (hb : b < a.block) : Sr (w.setCell a v) b Y := h.far (fun i hi => Below.heap_setCell _ _ _ _ (by omega))
theorem Sr.alive {w : World} {b : Nat} {r : List Tok} (h : Sr w b (.ok r)) : ∃ ad cap p t r', r = t :: r' ∧ Rm w b ad cap 0 p (t :: r') := by
  obtain ⟨ad, cap, e, p, L, h1, rfl, rfl⟩ := h
  obtain ⟨t, r', rfl⟩ := h1.wq.ne
  exact ⟨ad, cap, p, t, r', rfl, h1⟩
theorem Sr.dead {w : World} {b : Nat} {x : Er} (h : Sr w b (.error x)) : ∃ ad cap t r', Rm w b ad cap x.1 x.2 (t :: r') ∧ x.1 ≠ 0 := by
  obtain ⟨ad, cap, e, p, L, h1, rfl, rfl, h2⟩ := h
  obtain ⟨t, r', rfl⟩ := h1.wq.ne
  exact ⟨ad, cap, t, r', h1, h2⟩
theorem Sr.ne {w : World} {b : Nat} {Y : Except Er (List Tok)} (h : Sr w b Y) : Y ≠ .ok [] := by
  rintro rfl
  obtain ⟨_, _, _, t, r', e, _⟩ := h.alive
  cases e
/-- the token that is next, alive or not -/
theorem Sr.front {w : World} {b : Nat} {Y : Except Er (List Tok)} (h : Sr w b Y) : ∃ ad cap e p t r', Rm w b ad cap e p (t :: r') ∧ (∀ r, Y = .ok r → r = t :: r') := by
  cases Y with
  | error x => obtain ⟨ad, cap, t, r', h1, _⟩ := h.dead; exact ⟨ad, cap, _, _, t, r', h1, fun r e => by cases e⟩
  | ok r => obtain ⟨ad, cap, p, t, r', e, h1⟩ := h.alive; exact ⟨ad, cap, 0, p, t, r', h1, fun r2 e2 => by cases e2; exact e⟩
/-- a box: its cells -/
def Bxs (w : World) (nb : Nat) (us : List Value) : Prop := ∀ i u, us[i]? = some u → w.cell? ⟨nb, i, none⟩ = some u ∧ w.frozen? ⟨nb, i, none⟩ = false
theorem Bxs.move {w w' : World} {nb : Nat} {us : List Value} (h : Bxs w nb us) (hb : w'.heap[nb]? = w.heap[nb]?) : Bxs w' nb us := fun i u hu => ⟨(cell_of (a := ⟨nb, i, none⟩) hb).trans (h i u hu).1, (World.frozen?_of_block (a := ⟨nb, i, none⟩) hb).trans (h i u hu).2⟩
theorem Bxs.lt {w : World} {nb : Nat} {u : Value} {us : List Value} (h : Bxs w nb (u :: us)) : nb < w.heap.size := cell_lt (h 0 u rfl).1
theorem Bxs.fr {S : Nat → Prop} {w w' : World} {nb : Nat} {u : Value} {us : List Value} (h : Bxs w nb (u :: us)) (k : Fr S w w') (hn : ¬ S nb) : Bxs w' nb (u :: us) := h.move (k.block nb h.lt hn)
theorem Bxs.keep {w w' : World} {nb : Nat} {u : Value} {us : List Value} (h : Bxs w nb (u :: us)) (k : Keep w w') : Bxs w' nb (u :: us) := h.move (k.block nb h.lt)
theorem Bxs.far {w : World} {nb : Nat} {us : List Value} (h : Bxs w nb us) (a : Addr) (v : Value) (hn : a.block ≠ nb) : Bxs (w.setCell a v) nb us := h.move (Below.heap_setCell _ _ _ _ (fun e => hn e.symm))
theorem Bxs.set {w : World} {nb : Nat} {us : List Value} (h : Bxs w nb us) (j : Nat) (v : Value) : Bxs (w.setCell ⟨nb, j, none⟩ v) nb (us.set j v) := by
  intro i u hu
  by_cases e : i = j
  · subst e
    rw [List.getElem?_set] at hu
    simp only [if_true] at hu
    split at hu
    · rename_i hl
      simp only [Option.some.injEq] at hu
      subst hu
      obtain ⟨h1, h2⟩ := h i us[i] (List.getElem?_eq_getElem hl)
      exact ⟨set_eq _ h1, by rw [World.frozen?_setCell]; exact h2⟩
    · cases hu
  · rw [List.getElem?_set_ne (fun x => e x.symm)] at hu
    obtain ⟨h1, h2⟩ := h i u hu
    exact ⟨by rw [set_ne _ _ _ _ (fun x => e (by injection x with _ x _; exact x.symm))]; exact h1, by rw [World.frozen?_setCell]; exact h2⟩
theorem bxs_new (w : World) (us : List Value) (t : TypeId) : Bxs (w.alloc (.cells us.toArray t)) w.heap.size us := by
  intro i u hu
  have := heap_alloc_new w (.cells us.toArray t)
  refine ⟨?_, ?_⟩
  · simp only [World.cell?]; rw [this]; simpa using hu
  · simp only [World.frozen?]; rw [this]; simp
/-- a row that grows: nothing of the world when it began turns but S -/
structure RO (S : Nat → Prop) (w : World) (e z : Nat) (wr : World) (L : List (List D)) (v : Value) : Prop where
  fr : Fr S w wr
  row : Rd wr (.row e z L) (fun b => w.heap.size ≤ b) v
theorem RO.move {S S' : Nat → Prop} {w : World} {e z : Nat} {wr w' : World} {L : List (List D)} {v : Value} (h : RO S w e z wr L v) (k : Fr S' wr w') (hs : ∀ i, S' i → S i ∧ i < w.heap.size) : RO S w e z w' L v :=
  ⟨h.fr.inner k (fun i _ x => (hs i x).1), Rd.move _ _ _ v h.row (fun b hb hl => ⟨k.block b hl (fun x => by have := (hs b x).2; omega), hb⟩)⟩
theorem RO.keep {S : Nat → Prop} {w : World} {e z : Nat} {wr w' : World} {L : List (List D)} {v : Value} (h : RO S w e z wr L v) (k : Keep wr w') : RO S w e z w' L v := h.move (S' := fun _ => False) (.keep k) (fun i x => x.elim)
theorem RO.set {S : Nat → Prop} {w : World} {e z : Nat} {wr : World} {L : List (List D)} {v : Value} (h : RO S w e z wr L v) (a : Addr) (u : Value) (hu : u.oneCell' = true) (ha : S a.block) (hl : a.block < w.heap.size) : RO S w e z (wr.setCell a u) L v :=
  h.move (S' := fun i => i = a.block) ((Fr.refl _ wr).set a u rfl hu) (fun i x => x ▸ ⟨ha, hl⟩)
theorem RO.shape {S : Nat → Prop} {w : World} {e z : Nat} {wr : World} {L : List (List D)} {v : Value} (h : RO S w e z wr L v) : ∃ xs, wr.ownsRow 0 e z v L.length xs ∧ ∀ g, v.ownBlock = some g → w.heap.size ≤ g ∧ g < wr.heap.size := by
  have := h.row
  simp only [Rd] at this
  obtain ⟨xs, h1, h2, _⟩ := this
  exact ⟨xs, h1, fun g hg => ⟨h2 g hg, (h1.lt g hg).2⟩⟩
end Q
end Go.Proofs.Ytdgmndjofbdgeaa

namespace Go.Proofs.Ytdgmndjofbdgeaa
open Go.RowKit
set_option linter.unusedVariables false
set_option linter.unusedSimpArgs false
/-- the j-th cell behind an address -/
def ati (ad : Addr) (j : Nat) : Addr := if j = 0 then ad else ⟨ad.block, ad.off + j, none⟩
theorem ati_plain (b o j : Nat) : ati ⟨b, o, none⟩ j = ⟨b, o + j, none⟩ := by
  unfold ati
  split
  · rename_i h; subst h; rfl
  · rfl
mutual
/-- u reads as a tree -/
def Rv (w : World) : D → Value → Prop
  | .val v, u => u = v
  | .row e z L, u => ∃ a cap, u = .slice a L.length cap ∧ L.length ≤ cap ∧ Rvss w a z L 0
def Rvs (w : World) : List D → List Value → Prop
  | [], us => us = []
  | d :: ds, us => ∃ u vs, us = u :: vs ∧ Rv w d u ∧ Rvs w ds vs
def Rvss (w : World) (a : Option Addr) (z : Nat) : List (List D) → Nat → Prop
  | [], k => True
  | ds :: L, k => (∃ ad us, a = some ad ∧ ad.block < w.heap.size ∧ Rvs w ds us ∧ us.length = z ∧ ∀ j u, us[j]? = some u → w.cell? (ati (ad.add (k * z)) j) = some u) ∧ Rvss w a z L (k + 1)
end
mutual
theorem Rv.keep {w w' : World} (h : Keep w w') : ∀ (d : D) (u : Value), Rv w d u → Rv w' d u
  | .val v, u, h1 => h1
  | .row e z L, u, h1 => by
    simp only [Rv] at h1 ⊢
    obtain ⟨a, cap, h0, hc, h2⟩ := h1
    exact ⟨a, cap, h0, hc, Rvss.keep h a z L 0 h2⟩
theorem Rvs.keep {w w' : World} (h : Keep w w') : ∀ (ds : List D) (us : List Value), Rvs w ds us → Rvs w' ds us
  | [], us, h1 => h1
  | d :: ds, us, h1 => by
    simp only [Rvs] at h1 ⊢
    obtain ⟨u, vs, h0, h2, h3⟩ := h1
    exact ⟨u, vs, h0, Rv.keep h d u h2, Rvs.keep h ds vs h3⟩
theorem Rvss.keep {w w' : World} (h : Keep w w') (a : Option Addr) (z : Nat) : ∀ (L : List (List D)) (k : Nat), Rvss w a z L k → Rvss w' a z L k
  | [], k, h1 => trivial
  | ds :: L, k, h1 => by
    simp only [Rvss] at h1 ⊢
    obtain ⟨⟨ad, us, h0, hb, h2, h3, h4⟩, h5⟩ := h1
    exact ⟨⟨ad, us, h0, Nat.lt_of_lt_of_le hb h.size, Rvs.keep h ds us h2, h3, fun j u hu => Q.kcell h (h4 j u hu)⟩, Rvss.keep h a z L (k + 1) h5⟩
end
theorem rvss_at {w : World} {a : Option Addr} {z : Nat} : ∀ (L : List (List D)) (k : Nat), Rvss w a z L k → ∀ i, i < L.length → ∃ ad us, a = some ad ∧ ad.block < w.heap.size ∧ Rvs w (L.getD i []) us ∧ us.length = z ∧ ∀ j u, us[j]? = some u → w.cell? (ati (ad.add ((k + i) * z)) j) = some u
  | [], k, h, i, hi => by simp at hi
  | ds :: L, k, h, i, hi => by
    simp only [Rvss] at h
    cases i with
    | zero => obtain ⟨⟨ad, us, h0, hb, h2, h3, h4⟩, _⟩ := h; exact ⟨ad, us, h0, hb, by simpa using h2, h3, by simpa using h4⟩
    | succ i =>
      obtain ⟨ad, us, h0, hb, h2, h3, h4⟩ := rvss_at L (k + 1) h.2 i (by simpa using hi)
      refine ⟨ad, us, h0, hb, by simpa using h2, h3, fun j u hu => ?_⟩
      rw [show k + (i + 1) = k + 1 + i by omega]
      exact h4 j u hu
mutual
theorem Rd.rv {w : World} : ∀ (d : D) (P : Nat → Prop) (u : Value), Rd w d P u → Rv w d u
  | .val v, P, u, h => by simp only [Rd] at h; simp only [Rv]; exact h.1
  | .row e z L, P, u, h => by
    simp only [Rd] at h
    simp only [Rv]
    obtain ⟨xs, h1, h2, h3⟩ := h
    rcases h1.2 with ⟨rfl, h0⟩ | ⟨g, cap, cur, rfl, hb, hg, hc, hm, hs, ht⟩
    · have : L = [] := List.eq_nil_of_length_eq_zero h0
      subst this
      exact ⟨none, 0, rfl, Nat.le_refl _, trivial⟩
    · refine ⟨some ⟨g, 0, none⟩, cap, rfl, hc, Rdss.rv L _ z xs g 0 (Array.getElem?_eq_some_iff.1 hg).1 h3 (fun j u hu => ?_)⟩
      rw [← ht] at hu
      have hlt : j < xs.length := by rw [← ht]; exact (List.getElem?_eq_some_iff.1 hu).1
      simp only [World.cell?, hg]
      rw [Nat.zero_mul, Nat.zero_add]
      have : (cur.toList.take (L.length * z))[j]? = some u := hu
      rw [List.getElem?_take] at this
      split at this
      · simpa using this
      · cases this
theorem Rds.rv {w : World} : ∀ (ds : List D) (P : Nat → Prop) (us : List Value), Rds w ds P us → Rvs w ds us
  | [], P, us, h => by simp only [Rds] at h; simp only [Rvs]; exact h
  | d :: ds, P, us, h => by
    simp only [Rds] at h
    simp only [Rvs]
    obtain ⟨v, vs, h0, h1, h2⟩ := h
    exact ⟨v, vs, h0, Rd.rv d P v h1, Rds.rv ds P vs h2⟩
theorem Rdss.rv {w : World} : ∀ (L : List (List D)) (P : Nat → Prop) (z : Nat) (xs : List Value) (g k : Nat), g < w.heap.size → Rdss w L P z xs → (∀ j u, xs[j]? = some u → w.cell? ⟨g, k * z + j, none⟩ = some u) → Rvss w (some ⟨g, 0, none⟩) z L k
  | [], P, z, xs, g, k, hg, h, hx => trivial
  | ds :: L, P, z, xs, g, k, hg, h, hx => by
    simp only [Rdss] at h
    simp only [Rvss]
    obtain ⟨ys, zs, rfl, h1, h2, h3⟩ := h
    refine ⟨⟨⟨g, 0, none⟩, ys, rfl, hg, Rds.rv ds P ys h2, h1, fun j u hu => ?_⟩, Rdss.rv L P z zs g (k + 1) hg h3 (fun j u hu => ?_)⟩
    · rw [add_plain, ati_plain, Nat.zero_add]
      exact hx j u (by rw [List.getElem?_append_left (List.getElem?_eq_some_iff.1 hu).1]; exact hu)
    · have := hx (z + j) u (by rw [List.getElem?_append_right (by omega), h1, Nat.add_sub_cancel_left]; exact hu)
      rw [show (k + 1) * z + j = k * z + (z + j) by rw [Nat.add_mul]; omega]
      exact this
end
/-- what a cell holds, as a slice -/
def slA (w : World) (ad : Addr) : Option Addr := match w.cell? ad with | some (.slice a _ _) => a | _ => none
def slN (w : World) (ad : Addr) : Nat := match w.cell? ad with | some (.slice _ n _) => n | _ => 0
def slC (w : World) (ad : Addr) : Nat := match w.cell? ad with | some (.slice _ _ c) => c | _ => 0
def fS : D → ByteArray
  | .val (.string s) => s
  | _ => ⟨#[]⟩
def fI : D → Int
  | .val (.int .i64 n) => n
  | _ => 0
def fB : D → Bool
  | .val (.bool b) => b
  | _ => false
def fL : D → List (List D)
  | .row _ _ L => L
  | _ => []
end Go.Proofs.Ytdgmndjofbdgeaa

namespace Go.Proofs.Ytdgmndjofbdgeaa
open Go.ChangeShapes Go.WideShapes Go.ChangeAt Go.RowKit Go.Joins
open Go.WideMaps Go.WideElems
open Go.ChangeMaps (open_string shut_string)
set_option linter.unusedVariables false
set_option maxRecDepth 10000
theorem list_of {α : Type} {P : Nat → α → Prop} (z : α) : ∀ n, (∀ i, i < n → ∃ p, P i p) → ∃ L : List α, L.length = n ∧ ∀ i, i < n → P i (L.getD i z)
  | 0, _ => ⟨[], rfl, fun i h => by omega⟩
  | n + 1, h => by
    obtain ⟨L, h1, h2⟩ := list_of z n (fun i hi => h i (by omega))
    obtain ⟨p, hp⟩ := h n (by omega)
    refine ⟨L ++ [p], by simp [h1], fun i hi => ?_⟩
    by_cases hin : i < n
    · have := h2 i hin
      rw [List.getD_eq_getElem?_getD, List.getElem?_append_left (by omega), ← List.getD_eq_getElem?_getD]
      exact this
    · have : i = n := by omega
      subst this
      rw [List.getD_eq_getElem?_getD, List.getElem?_append_right (by omega), h1]
      simpa using hp
theorem mapM_some_at {α β : Type} {f : α → Option β} {l : List α} {r : List β} (h : l.mapM f = some r) (i : Nat) (a : α) (ha : l[i]? = some a) : ∃ b, r[i]? = some b ∧ f a = some b := Lib.mapM_at h i a ha
theorem sv_of (s : ByteArray) : sv s.data.toList = s := by simp [sv]
end Go.Proofs.Ytdgmndjofbdgeaa
