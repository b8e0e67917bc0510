/- The reader and what it fills, in memory; what a step does; steps in order. -/
import Derived.Test.YtmplckdpddmifaaGreatDoorNVal
import Derived.LoopTactic
import Derived.Deep.DeepCutAuto
namespace Go.Proofs.YtmplckdpddmifaaGreatDoor
open Go.RowKit
attribute [local go_sem ↓] Go.wp_at_zero Go.wp_at_succ
set_option linter.unusedVariables false
set_option linter.unusedSimpArgs false
set_option maxRecDepth 10000
/-- tokens that end as they should, with numbers that fit -/
def Wf (l : List Tok) : Prop := l.length ≤ 70000 ∧ (∃ m t, l = m ++ [t] ∧ t.k = 0 ∧ t.s = []) ∧ ∀ t ∈ l, 0 ≤ t.n ∧ t.n ≤ 999999999999999999
/-- where a reading goes on: the blocks that it turns, its reader, all tokens, where its parts stand -/
structure Env where
  S : Nat → Prop
  rb : Nat
  l : List Tok
  ta : Addr
  cap : Nat
  A : Nat → Nat × Nat
  lo : Nat
/-- where slices that are read may lie -/
def Env.P (E : Env) (b : Nat) : Prop := ¬ E.S b ∧ E.lo ≤ b
/-- the reader stands at the tokens r -/
def R0 (rb : Nat) (l : List Tok) (ta : Addr) (cap : Nat) (w : World) (r : List Tok) : Prop := ∃ k : Nat, k < l.length ∧ r = l.drop k ∧ w.cell? ⟨rb, 0, none⟩ = some (.slice (some ta) l.length cap) ∧ w.cell? ⟨rb, 1, none⟩ = some (.int .i64 (k : Int)) ∧ w.frozen? ⟨rb, 1, none⟩ = false ∧ ta.block < w.heap.size ∧ (∀ k, k < l.length → Tc w (ta.add (k * 4)) (l.getD k t0)) ∧ Wf l
def Rdr (E : Env) (w : World) (r : List Tok) : Prop := R0 E.rb E.l E.ta E.cap w r ∧ ¬ E.S E.ta.block ∧ E.S E.rb
/-- the parts read so -/
def Cel (E : Env) (w : World) (cs : List D) : Prop := (∀ i j, i < cs.length → j < cs.length → E.A i = E.A j → i = j) ∧ ∀ j d, cs[j]? = some d → ∃ v, w.cell? ⟨(E.A j).1, (E.A j).2, none⟩ = some v ∧ Rd w d E.P v ∧ w.frozen? ⟨(E.A j).1, (E.A j).2, none⟩ = false ∧ E.S (E.A j).1 ∧ (E.A j).1 ≠ E.rb
/-- an error's value -/
def flt (x : Er) : Value := .iface 44 (.agg #[.int .i64 x.1, .int .i64 x.2])
/-- what a step leaves -/
def Post (E : Env) (w : World) (rest : List D) (n : Nat) (X : Rs) (e : Ending) (w' : World) : Prop := Fr E.S w w' ∧
  match X with
  | .error x => e = .returned (flt x)
  | .ok (c, r) => e = .returned .nilIface ∧ c.length = n ∧ Rdr E w' r ∧ Cel E w' (c ++ rest)
/-- a function with a text of its own -/
def Ent (fn : FuncId) : Prop := ∀ (xs : Array Value) (w : World), (callFunc fn xs).run Tryz.prog w = .ok (.enter fn xs) w
/-- v is a function that does a step -/
def Does (E : Env) (w0 : World) (v : Value) (m : Nat) (zs : List D) (p : Sp) : Prop := ∃ fn xs ys, v = .func (.func fn) xs ys ∧ Ent fn ∧ ∀ w c rest r, Fr E.S w0 w → c.length = m → Rdr E w r → Cel E w (c ++ zs ++ rest) → Calls Tryz.prog fn (xs ++ ys) w (Post E w rest (m + zs.length) (p c r))
theorem Does.fr {E : Env} {w0 w1 : World} {v : Value} {m : Nat} {zs : List D} {p : Sp} (h : Does E w0 v m zs p) (k : Fr E.S w0 w1) : Does E w1 v m zs p := by
  obtain ⟨fn, xs, ys, rfl, h0, h⟩ := h
  exact ⟨fn, xs, ys, rfl, h0, fun w c rest r hf => h w c rest r (k.trans hf)⟩
theorem Does.keep {E : Env} {w0 w1 : World} {v : Value} {m : Nat} {zs : List D} {p : Sp} (h : Does E w0 v m zs p) (k : Keep w0 w1) : Does E w1 v m zs p := h.fr (.keep k)
theorem cell_lt {w : World} {a : Addr} {v : Value} (h : w.cell? a = some v) : a.block < w.heap.size := World.block_lt_of_cell? w a h
theorem Keep.cell' {w w' : World} (k : Keep w w') {a : Addr} {v : Value} (h : w.cell? a = some v) : w'.cell? a = some v := by rw [Below.cell k (cell_lt h)]; exact h
theorem Keep.frozen' {w w' : World} (k : Keep w w') {a : Addr} {v : Value} (h : w.cell? a = some v) (f : w.frozen? a = false) : w'.frozen? a = false := by rw [Below.frozen k (cell_lt h)]; exact f
theorem R0.keep {rb : Nat} {l : List Tok} {ta : Addr} {cap : Nat} {w w' : World} {r : List Tok} (h : R0 rb l ta cap w r) (k : Keep w w') : R0 rb l ta cap w' r := by
  obtain ⟨i, h1, h2, h3, h4, h5, h7, h8, h9⟩ := h
  exact ⟨i, h1, h2, k.cell' h3, k.cell' h4, k.frozen' h4 h5, Nat.lt_of_lt_of_le h7 k.size, fun j hj => (h8 j hj).keep (by rw [add_block]; exact h7) k, h9⟩
theorem Rdr.keep {E : Env} {w w' : World} {r : List Tok} (h : Rdr E w r) (k : Keep w w') : Rdr E w' r := ⟨h.1.keep k, h.2⟩
theorem Rd.keep {P : Nat → Prop} {w w' : World} (k : Keep w w') {d : D} {u : Value} (h : Rd w d P u) : Rd w' d P u := Rd.move d _ _ u h (fun i hi hl => ⟨k.block i hl, hi⟩)
theorem Cel.keep {E : Env} {w w' : World} {cs : List D} (h : Cel E w cs) (k : Keep w w') : Cel E w' cs := by
  refine ⟨h.1, fun j d hd => ?_⟩
  obtain ⟨v, h1, h2, h3, h4⟩ := h.2 j d hd
  exact ⟨v, k.cell' h1, h2.keep k, k.frozen' h1 h3, h4⟩
theorem drop_cons {l : List Tok} {k : Nat} {t : Tok} {r : List Tok} (h : t :: r = l.drop k) : k < l.length ∧ l.getD k t0 = t ∧ r = l.drop (k + 1) := by
  have hk : k < l.length := by
    rcases Nat.lt_or_ge k l.length with h1 | h1
    · exact h1
    · rw [List.drop_eq_nil_of_le h1] at h; cases h
  rw [List.drop_eq_getElem_cons hk] at h
  injection h with h1 h2
  exact ⟨hk, by rw [h1]; simp [List.getD, hk], h2⟩
/-- behind a token that is not the end there is one -/
theorem wf_next {l : List Tok} (h : Wf l) {k : Nat} {t : Tok} {r : List Tok} (e : t :: r = l.drop k) (hn : t.k ≠ 0 ∨ t.s ≠ []) : k + 1 < l.length := by
  obtain ⟨hk, ht, hr⟩ := drop_cons e
  rcases Nat.lt_or_ge (k + 1) l.length with h1 | h1
  · exact h1
  · exfalso
    obtain ⟨_, ⟨m, u, rfl, u1, u2⟩, _⟩ := h
    have : k = m.length := by simp at hk h1; omega
    subst this
    have : t = u := by rw [← ht]; simp
    subst this
    rcases hn with h | h
    · exact h u1
    · exact h u2
theorem r0_cons {rb : Nat} {l : List Tok} {ta : Addr} {cap : Nat} {w : World} {r : List Tok} (h : R0 rb l ta cap w r) : ∃ t r', r = t :: r' := by
  obtain ⟨k, h1, h2, _⟩ := h
  cases r with
  | nil => rw [eq_comm, List.drop_eq_nil_iff] at h2; omega
  | cons t r => exact ⟨t, r, rfl⟩
theorem set_ne (w : World) (p a : Addr) (v : Value) (h : p ≠ a) : (w.setCell p v).cell? a = w.cell? a := by apply World.cell?_setCell_other; exact h
theorem set_eq {w : World} {a : Addr} {u : Value} (v : Value) (h : w.cell? a = some u) : (w.setCell a v).cell? a = some v := by apply World.cell?_setCell_same; exact h
theorem set_far (w : World) (p a : Addr) (v : Value) (h : p.block ≠ a.block) : (w.setCell p v).cell? a = w.cell? a := World.cell?_of_block (Below.heap_setCell _ _ _ _ (fun e => h e.symm))
/-- the token goes by -/
theorem R0.step {rb : Nat} {l : List Tok} {ta : Addr} {cap : Nat} {w : World} {t : Tok} {r : List Tok} (h : R0 rb l ta cap w (t :: r)) (hn : t.k ≠ 0 ∨ t.s ≠ []) (hb : ta.block ≠ rb) :
    ∃ k : Nat, k + 1 < 70001 ∧ w.cell? ⟨rb, 1, none⟩ = some (.int .i64 (k : Int)) ∧ w.frozen? ⟨rb, 1, none⟩ = false ∧ R0 rb l ta cap (w.setCell ⟨rb, 1, none⟩ (.int .i64 ((k + 1 : Nat) : Int))) r := by
  obtain ⟨k, h1, h2, h3, h4, h5, h7, h8, h9⟩ := h
  have hlt := wf_next h9 h2 hn
  have := h9.1
  refine ⟨k, by omega, h4, h5, k + 1, hlt, (drop_cons h2).2.2, ?_, ?_, ?_, ?_, ?_, h9⟩
  · rw [set_ne _ _ _ _ (by simp)]; exact h3
  · exact set_eq _ h4
  · rw [World.frozen?_setCell]; exact h5
  · simpa [World.setCell] using h7
  · intro j hj
    obtain ⟨c0, c1, c2, c3⟩ := h8 j hj
    refine ⟨?_, ?_, ?_, ?_⟩
    · rw [set_far _ _ _ _ (by rw [add_block]; exact fun e => hb e.symm)]; exact c0
    · rw [set_far _ _ _ _ (by show rb ≠ (ta.add (j * 4)).block; rw [add_block]; exact fun e => hb e.symm)]; exact c1
    · rw [set_far _ _ _ _ (by show rb ≠ (ta.add (j * 4)).block; rw [add_block]; exact fun e => hb e.symm)]; exact c2
    · rw [set_far _ _ _ _ (by show rb ≠ (ta.add (j * 4)).block; rw [add_block]; exact fun e => hb e.symm)]; exact c3
end Go.Proofs.YtmplckdpddmifaaGreatDoor
