/- Package demand: a volume, a ratio: steps that go on from what came ahead. -/
import Derived.Test.YtjibbekojbaopaaDMath
import Derived.Test.YtjibbekojbaopaaFracV
import Derived.Deep.DrawnRows
import Derived.Deep.RegionHeld
import Derived.Test.YtjibbekojbaopaaNOpn
import Derived.Test.YtjibbekojbaopaaWbM
namespace Go.Proofs.Ytjibbekojbaopaa
open Go.RowKit
attribute [local go_sem ↓] Go.wp_at_zero Go.wp_at_succ
set_option linter.unusedVariables false
set_option linter.unusedSimpArgs false
set_option maxRecDepth 10000
namespace W
theorem Keep.cl {w w' : World} (k : Keep w w') {a : Addr} {v : Value} (h : w.cell? a = some v) : w'.cell? a = some v := by rw [Below.cell k (World.block_lt_of_cell? w a h)]; exact h
theorem Keep.fz {w w' : World} (k : Keep w w') {a : Addr} {v : Value} (h : w.cell? a = some v) (f : w.frozen? a = false) : w'.frozen? a = false := by rw [Below.frozen k (World.block_lt_of_cell? w a h)]; exact f
/-- of what was there only two blocks turn -/
structure Ch (rb ab : Nat) (w w' : World) : Prop where
  os : w'.os = w.os
  tape : w'.tape = w.tape
  output : w'.output = w.output
  size : w.heap.size ≤ w'.heap.size
  block : ∀ i, i < w.heap.size → i ≠ rb → i ≠ ab → w'.heap[i]? = w.heap[i]?
theorem Ch.keep {rb ab : Nat} {w w' : World} (h : Keep w w') : Ch rb ab w w' := ⟨h.os, h.tape, h.output, h.size, fun i hi _ _ => h.block i hi⟩
theorem Ch.trans {rb ab : Nat} {a b c : World} (h : Ch rb ab a b) (k : Ch rb ab b c) : Ch rb ab a c := ⟨k.os.trans h.os, k.tape.trans h.tape, k.output.trans h.output, Nat.le_trans h.size k.size, fun i hi h1 h2 => (k.block i (Nat.lt_of_lt_of_le hi h.size) h1 h2).trans (h.block i hi h1 h2)⟩
theorem Ch.below {rb ab : Nat} {w0 w w' : World} (h : Ch rb ab w w') (k : Keep w0 w) (h1 : w0.heap.size ≤ rb) (h2 : w0.heap.size ≤ ab) : Keep w0 w' := ⟨h.os.trans k.os, h.tape.trans k.tape, h.output.trans k.output, Nat.le_trans k.size h.size, fun i hi => (h.block i (Nat.lt_of_lt_of_le hi k.size) (by omega) (by omega)).trans (k.block i hi)⟩
theorem Ch.cl {rb ab : Nat} {w w' : World} (h : Ch rb ab w w') {a : Addr} {v : Value} (hc : w.cell? a = some v) (h1 : a.block ≠ rb) (h2 : a.block ≠ ab) : w'.cell? a = some v := by
  rw [World.cell?_of_block (w := w) (h.block a.block (World.block_lt_of_cell? w a hc) h1 h2)]; exact hc
theorem Ch.fz {rb ab : Nat} {w w' : World} (h : Ch rb ab w w') {a : Addr} {v : Value} (hc : w.cell? a = some v) (hf : w.frozen? a = false) (h1 : a.block ≠ rb) (h2 : a.block ≠ ab) : w'.frozen? a = false := by
  rw [World.frozen?_of_block (w := w) (h.block a.block (World.block_lt_of_cell? w a hc) h1 h2)]; exact hf
theorem Ch.set {rb ab b i : Nat} (w : World) (v : Value) (h : b = rb ∨ b = ab) : Ch rb ab w (w.setCell ⟨b, i, none⟩ v) := ⟨rfl, rfl, rfl, by simp [World.setCell], fun k hk h1 h2 => Below.heap_setCell _ _ _ _ (by rcases h with h | h <;> simp only [h] <;> omega)⟩
/-- a store into a block that is newer than the base -/
theorem Ch.new {rb ab b i : Nat} {w w' : World} (h : Ch rb ab w w') (v : Value) (hb : w.heap.size ≤ b) : Ch rb ab w (w'.setCell ⟨b, i, none⟩ v) := ⟨h.os, h.tape, h.output, by have := h.size; simpa [World.setCell] using this, fun k hk h1 h2 => (Below.heap_setCell _ _ _ _ (by simp only; omega)).trans (h.block k hk h1 h2)⟩
/-- what a step goes on from: the fraction at block ab, the error at block rb -/
structure Bx (w : World) (rb ab : Nat) (X Y Z : Int) : Prop where
  ne : rb ≠ ab
  cr : w.cell? ⟨rb, 0, none⟩ = some (.int .i64 Z)
  cx : w.cell? ⟨ab, 0, none⟩ = some (.int .i64 X)
  cy : w.cell? ⟨ab, 1, none⟩ = some (.int .i64 Y)
  fr : w.frozen? ⟨rb, 0, none⟩ = false
  fx : w.frozen? ⟨ab, 0, none⟩ = false
  fy : w.frozen? ⟨ab, 1, none⟩ = false
theorem Bx.more {w w' : World} {rb ab : Nat} {X Y Z : Int} (h : Bx w rb ab X Y Z) (k : Keep w w') : Bx w' rb ab X Y Z := ⟨h.ne, Keep.cl k h.cr, Keep.cl k h.cx, Keep.cl k h.cy, Keep.fz k h.cr h.fr, Keep.fz k h.cx h.fx, Keep.fz k h.cy h.fy⟩
theorem Bx.lt {w : World} {rb ab : Nat} {X Y Z : Int} (h : Bx w rb ab X Y Z) : rb < w.heap.size ∧ ab < w.heap.size := ⟨World.block_lt_of_cell? w _ h.cr, World.block_lt_of_cell? w _ h.cx⟩
theorem Bx.set {w : World} {rb ab : Nat} {X0 Y0 Z0 : Int} (h : Bx w rb ab X0 Y0 Z0) (X Y Z : Int) : Bx (((w.setCell ⟨ab, 0, none⟩ (.int .i64 X)).setCell ⟨ab, 1, none⟩ (.int .i64 Y)).setCell ⟨rb, 0, none⟩ (.int .i64 Z)) rb ab X Y Z := by
  have h1 := h.cr
  have h2 := h.cx
  have h3 := h.cy
  have n3 : ¬ rb = ab := h.ne
  have n4 : ¬ ab = rb := fun h => n3 h.symm
  have f1 := h.fr
  have f2 := h.fx
  have f3 := h.fy
  exact ⟨h.ne, by simp [go_sem, h1, h2, h3, n3, n4], by simp [go_sem, h1, h2, h3, n3, n4], by simp [go_sem, h1, h2, h3, n3, n4], by simp [go_sem, f1, n3, n4], by simp [go_sem, f2, n3, n4], by simp [go_sem, f3, n3, n4]⟩
end W
end Go.Proofs.Ytjibbekojbaopaa

namespace Go.Proofs.Ytjibbekojbaopaa
open Go.ChangeShapes Go.WideShapes Go.ChangeAt Go.RowKit Go.Joins
open Go.WideMaps Go.WideElems
set_option linter.unusedVariables false
set_option linter.unusedSimpArgs false
set_option maxRecDepth 10000
namespace Wb
noncomputable def wnetT : List Ty := [.i, .i, .i, .i, .i, .row 128 7 ((desc Try.prog 10 128).getD []), .row 130 6 ((desc Try.prog 10 130).getD []), .i, .i]
theorem wnet_desc : desc Try.prog 12 32 = some wnetT := by kernel_rfl
def fracT : List Ty := [.i, .i]
theorem frac_desc : desc Try.prog 12 23 = some fracT := by kernel_rfl
def needT : List Ty := [.s, .i, .i, .i, .i, .i, .row 132 3 [.s, .i, .i]]
def needsT : List Ty := [.row 41 7 needT]
theorem needs_desc : desc Try.prog 12 37 = some needsT := by kernel_rfl
def intsT : List Ty := [.row 3 1 [.i]]
theorem ints_desc : desc Try.prog 12 38 = some intsT := by kernel_rfl
variable {H : Type} {enc : TypeId × Value → H} {P : Program} {w : World} {base : Nat} {spare : Nat → Bool} {held : Bool}
/-- a slice, opened -/
theorem open_row {r : Reach} {b0 : Nat} {t e : TypeId} {v : Value} {d : DataW H} {p : List MemPlace} {n : Nat} {fs : List Ty} (ht : P.underlying t = some (.slice e)) (hd : desc P n t = some fs)
    (hv : Value.okWide P w r b0 t v) (h : DataW.Trod enc P w base spare held t v d p) : ∃ ds, ShL fs ds ∧ Rvs w ds [v] := by
  obtain ⟨a0, len, cap, rfl⟩ := okWide_slice ht hv
  obtain ⟨fuel, hf⟩ := h
  obtain ⟨ds, h1, h2⟩ := open_desc n t fs fuel _ _ hd hf
  exact ⟨ds, h1, by simpa [Value.cells] using h2⟩
/-- a network's nine cells -/
theorem nine {w : World} {ds : List D} {us : List Value} (hs : ShL wnetT ds) (hr : Rvs w ds us) : ∃ a0 a1 a2 a3 a4 aN nN cN aS nS cS a5 a6, us = [.int .i64 a0, .int .i64 a1, .int .i64 a2, .int .i64 a3, .int .i64 a4, .slice aN nN cN, .slice aS nS cS, .int .i64 a5, .int .i64 a6] ∧ a2 ≤ 9223372036854775807 := by
  simp only [wnetT, ShL, Sh1] at hs
  obtain ⟨_, _, rfl, ⟨a0, rfl, _⟩, _, _, rfl, ⟨a1, rfl, _⟩, _, _, rfl, ⟨a2, rfl, h2, h2'⟩, _, _, rfl, ⟨a3, rfl, _⟩, _, _, rfl, ⟨a4, rfl, _⟩, _, _, rfl, ⟨L1, rfl, _⟩, _, _, rfl, ⟨L2, rfl, _⟩, _, _, rfl, ⟨a5, rfl, _⟩, _, _, rfl, ⟨a6, rfl, _⟩, rfl⟩ := hs
  simp only [Rvs, Rv, dI] at hr
  obtain ⟨_, _, rfl, rfl, _, _, rfl, rfl, _, _, rfl, rfl, _, _, rfl, rfl, _, _, rfl, rfl, _, _, rfl, ⟨xa, xc, rfl, _⟩, _, _, rfl, ⟨ya, yc, rfl, _⟩, _, _, rfl, rfl, _, _, rfl, rfl, rfl⟩ := hr
  exact ⟨_, _, _, _, _, _, _, _, _, _, _, _, _, rfl, h2'⟩
/-- a fraction's two -/
theorem two {w : World} {ds : List D} {us : List Value} (hs : ShL fracT ds) (hr : Rvs w ds us) : ∃ n d, us = [.int .i64 n, .int .i64 d] ∧ -9223372036854775808 ≤ n ∧ n ≤ 9223372036854775807 ∧ -9223372036854775808 ≤ d ∧ d ≤ 9223372036854775807 := by
  simp only [fracT, ShL, Sh1] at hs
  obtain ⟨_, _, rfl, ⟨a0, rfl, h1, h2⟩, _, _, rfl, ⟨a1, rfl, h3, h4⟩, rfl⟩ := hs
  simp only [Rvs, Rv, dI] at hr
  obtain ⟨_, _, rfl, rfl, _, _, rfl, rfl, rfl⟩ := hr
  exact ⟨_, _, rfl, h1, h2, h3, h4⟩
/-- numbers that stand in a row -/
theorem ints {w : World} {ds : List D} {v : Value} (hs : ShL intsT ds) (hr : Rvs w ds [v]) : ∃ (a : Option Addr) (n c : Nat) (Pl : Nat → Int), v = .slice a n c ∧ n ≤ maxLen ∧ ∀ k, k < n → ∃ ad, a = some ad ∧ ad.block < w.heap.size ∧ w.cell? (ad.add k) = some (.int .i64 (Pl k)) := by
  simp only [intsT, ShL, Sh1] at hs
  obtain ⟨_, _, rfl, ⟨L, rfl, hl, hL⟩, rfl⟩ := hs
  simp only [Rvs, Rv] at hr
  obtain ⟨_, _, he, ⟨a, c, rfl, _, hx⟩, rfl⟩ := hr
  obtain rfl : v = _ := by simpa using he
  have each : ∀ k, k < L.length → ∃ x : Int, ∃ ad, a = some ad ∧ ad.block < w.heap.size ∧ w.cell? (ad.add k) = some (.int .i64 x) := by
    intro k hk
    obtain ⟨ad, us, h0, hb, h2, h3, h4⟩ := rvss_at L 0 hx k hk
    obtain ⟨_, _, e1, ⟨x, rfl, _⟩, rfl⟩ := hL (L.getD k []) (by rw [List.getD_eq_getElem?_getD, List.getElem?_eq_getElem hk]; exact List.getElem_mem hk)
    rw [e1] at h2
    simp only [Rvs, Rv, dI] at h2
    obtain ⟨_, _, rfl, rfl, rfl⟩ := h2
    have := h4 0 _ rfl
    rw [Nat.zero_add, Nat.mul_one] at this
    exact ⟨x, ad, h0, hb, by simpa [ati] using this⟩
  refine ⟨a, L.length, c, fun k => if hk : k < L.length then (each k hk).choose else 0, rfl, hl, fun k hk => ?_⟩
  have := (each k hk).choose_spec
  simp only [hk, dite_true]
  exact this
/-- needs that stand in a row -/
def NeedAt (w : World) (a : Option Addr) (k : Nat) (y r : Int) : Prop := ∃ ad s g p q xa xn xc, a = some ad ∧ ad.block < w.heap.size ∧ w.cell? (ad.add (k * 7)) = some (.string s) ∧ w.cell? ⟨(ad.add (k * 7)).block, (ad.add (k * 7)).off + 1, none⟩ = some (.int .i64 g) ∧ w.cell? ⟨(ad.add (k * 7)).block, (ad.add (k * 7)).off + 2, none⟩ = some (.int .i64 y) ∧ w.cell? ⟨(ad.add (k * 7)).block, (ad.add (k * 7)).off + 3, none⟩ = some (.int .i64 r) ∧ w.cell? ⟨(ad.add (k * 7)).block, (ad.add (k * 7)).off + 4, none⟩ = some (.int .i64 p) ∧ w.cell? ⟨(ad.add (k * 7)).block, (ad.add (k * 7)).off + 5, none⟩ = some (.int .i64 q) ∧ w.cell? ⟨(ad.add (k * 7)).block, (ad.add (k * 7)).off + 6, none⟩ = some (.slice xa xn xc)
theorem NeedAt.keep {w w' : World} {a : Option Addr} {k : Nat} {y r : Int} (h : NeedAt w a k y r) (hk : Keep w w') : NeedAt w' a k y r := by
  obtain ⟨ad, s, g, p, q, xa, xn, xc, h0, hb, c0, c1, c2, c3, c4, c5, c6⟩ := h
  exact ⟨ad, s, g, p, q, xa, xn, xc, h0, Nat.lt_of_lt_of_le hb hk.size, W.Keep.cl hk c0, W.Keep.cl hk c1, W.Keep.cl hk c2, W.Keep.cl hk c3, W.Keep.cl hk c4, W.Keep.cl hk c5, W.Keep.cl hk c6⟩
theorem needs {w : World} {ds : List D} {v : Value} (hs : ShL needsT ds) (hr : Rvs w ds [v]) : ∃ (a : Option Addr) (n c : Nat) (Y R : Nat → Int), v = .slice a n c ∧ n ≤ maxLen ∧ ∀ k, k < n → NeedAt w a k (Y k) (R k) := by
  simp only [needsT, ShL, Sh1] at hs
  obtain ⟨_, _, rfl, ⟨L, rfl, hl, hL⟩, rfl⟩ := hs
  simp only [Rvs, Rv] at hr
  obtain ⟨_, _, he, ⟨a, c, rfl, _, hx⟩, rfl⟩ := hr
  obtain rfl : v = _ := by simpa using he
  have each : ∀ k, k < L.length → ∃ x : Int × Int, NeedAt w a k x.1 x.2 := by
    intro k hk
    obtain ⟨ad, us, h0, hb, h2, h3, h4⟩ := rvss_at L 0 hx k hk
    have hm := hL (L.getD k []) (by rw [List.getD_eq_getElem?_getD, List.getElem?_eq_getElem hk]; exact List.getElem_mem hk)
    simp only [needT, ShL, Sh1] at hm
    obtain ⟨_, _, e1, ⟨s, rfl, _⟩, _, _, rfl, ⟨g, rfl, _⟩, _, _, rfl, ⟨y, rfl, _⟩, _, _, rfl, ⟨r, rfl, _⟩, _, _, rfl, ⟨p, rfl, _⟩, _, _, rfl, ⟨q, rfl, _⟩, _, _, rfl, ⟨L2, rfl, _⟩, rfl⟩ := hm
    rw [e1] at h2
    simp only [Rvs, Rv, dI, dS] at h2
    obtain ⟨_, _, rfl, rfl, _, _, rfl, rfl, _, _, rfl, rfl, _, _, rfl, rfl, _, _, rfl, rfl, _, _, rfl, rfl, _, _, rfl, ⟨xa, xc, rfl, _⟩, rfl⟩ := h2
    have f0 := h4 0 _ rfl
    have f1 := h4 1 _ rfl
    have f2 := h4 2 _ rfl
    have f3 := h4 3 _ rfl
    have f4 := h4 4 _ rfl
    have f5 := h4 5 _ rfl
    have f6 := h4 6 _ rfl
    rw [Nat.zero_add] at f0 f1 f2 f3 f4 f5 f6
    exact ⟨(y, r), ad, _, g, p, q, xa, _, xc, h0, hb, by simpa [ati] using f0, by simpa [ati] using f1, by simpa [ati] using f2, by simpa [ati] using f3, by simpa [ati] using f4, by simpa [ati] using f5, by simpa [ati] using f6⟩
  refine ⟨a, L.length, c, fun k => if hk : k < L.length then (each k hk).choose.1 else 0, fun k => if hk : k < L.length then (each k hk).choose.2 else 0, rfl, hl, fun k hk => ?_⟩
  have := (each k hk).choose_spec
  simp only [hk, dite_true]
  exact this
end Wb
end Go.Proofs.Ytjibbekojbaopaa
