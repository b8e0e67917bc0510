/- The chapter's examples. -/
import Derived.Test.YtfjphcgipbgodaaDoorNWf
namespace Go.Proofs.YtfjphcgipbgodaaDoor
open Go.RowKit
attribute [local go_sem ↓] Go.wp_at_zero Go.wp_at_succ
set_option linter.unusedVariables false
set_option linter.unusedSimpArgs false
set_option maxRecDepth 100000
def ex0 : List UInt8 := [99, 121, 99, 108, 101, 32, 54, 48, 48, 32, 116, 111, 32, 57, 48, 48, 32, 98, 121, 32, 49, 48, 59, 32, 112, 101, 97, 107, 32, 49, 47, 49, 59]
def ex1 : List UInt8 := [99, 121, 99, 108, 101, 32, 54, 48, 48, 59]
def ex2 : List UInt8 := [99, 121, 99, 108, 101, 32, 49, 32, 116, 111, 32, 50, 32, 98, 121, 32, 51, 59, 32, 112, 101, 97, 107, 32, 52, 47, 53, 59, 32, 110, 111, 100, 101, 32, 97, 32, 123, 32, 104, 101, 97, 100, 32, 104, 32, 118, 111, 108, 117, 109, 101, 32, 54, 32, 102, 108, 111, 119, 32, 55, 32, 117, 115, 101, 32, 56, 47, 57, 32, 115, 112, 101, 101, 100, 32, 49, 48, 32, 103, 114, 97, 100, 101, 32, 45, 49, 49, 32, 119, 105, 100, 116, 104, 32, 49, 50, 32, 108, 101, 110, 103, 116, 104, 32, 49, 51, 32, 103, 114, 101, 101, 110, 32, 49, 52, 59, 32, 112, 104, 97, 115, 101, 32, 112, 58, 32, 104, 59, 32, 103, 114, 111, 117, 112, 32, 123, 32, 114, 105, 110, 103, 32, 112, 59, 32, 125, 32, 125]
theorem ex0_N : N ex0 = .ok [dI 600, dI 900, dI 10, dI 1, dI 1, .row 41 7 [], .row 92 6 [], dI 0, dI 0] := by kernel_rfl
theorem ex1_N : N ex1 = .error (50, 9) := by kernel_rfl
theorem ex2_N : N ex2 = .ok [dI 1, dI 2, dI 3, dI 4, dI 5, .row 41 7 [[dS [97], .row 60 11 [[dS [104], dI 6, dI 7, dI 8, dI 9, dI 10, dI (-11), dI 12, dI 13, dI 14, dI 43]], .row 94 6 [], .row 96 3 [[dS [112], .row 9 1 [[dS [104]]], dI 123]], .row 45 1 [[.row 48 2 [[dB false, .row 9 1 [[dS [112]]]]]]], .row 99 3 [], dI 34]], .row 92 6 [], dI 0, dI 0] := by kernel_rfl
theorem by_new (w : World) (l : List UInt8) (t : TypeId) (fr : Nat × Nat) : By (w.alloc (.cells ((l.map fun x => Value.int .u8 (x.toNat : Int)).toArray) t fr)) (.slice (some ⟨w.heap.size, 0, none⟩) l.length l.length) l := by
  refine ⟨_, _, rfl, Nat.le_refl _, fun k hk => ⟨_, rfl, by simp, ?_⟩⟩
  rw [add_plain, Nat.zero_add, World.cell?_alloc_mark, List.getElem?_toArray, List.getElem?_map, List.getD_eq_getElem?_getD, List.getElem?_eq_getElem hk]
  rfl
/-- a text's bytes, as the program's text has them: marked behind their end -/
theorem conv_mark (w : World) (C : Array Value) (n : Nat) (hn : C.size = n) : (convert 22 22 (.slice (some ⟨w.heap.size, 0, none⟩) n n)).run Tryd.prog (w.alloc (.cells C 5)) = .ok (.slice (some ⟨w.heap.size, 0, none⟩) n n) (w.alloc (.cells C 5 (n, n + 1))) := by
  subst hn
  have hsh : (w.alloc (.cells C 5)).shape? w.heap.size = some (5, C.size) := by
    have : (w.alloc (.cells C 5)).heap[w.heap.size]? = some (.cells C 5) := by
      show (w.heap.push (.cells C 5))[w.heap.size]? = _
      simp
    unfold World.shape?
    rw [this]
  have hfr : (w.alloc (.cells C 5)).freeze ⟨w.heap.size, C.size, none⟩ 1 = w.alloc (.cells C 5 (C.size, C.size + 1)) := by
    have hm : ∀ (a : Array Obj) (x : Obj) (f : Obj → Obj), (a.push x).modify a.size f = a.push (f x) := by
      intro a x f
      apply Array.ext
      · simp
      · intro i h1 h2
        simp only [Array.getElem_modify, Array.getElem_push]
        by_cases h : a.size = i
        · subst h
          simp
        · have hi : i < a.size := by simp at h1; omega
          simp [h, hi]
    unfold World.freeze
    rw [if_neg (by decide)]
    show ({ w.alloc (.cells C 5) with heap := (w.heap.push (.cells C 5)).modify w.heap.size _ } : World) = _
    rw [hm]
    rfl
  simp [convert, run_underlying Tryd.underlying22, run_underlying Tryd.underlying5, markStringish, hsh]
  exact hfr
theorem by_ex0 (w : World) : By (w.alloc (.cells #[.int .u8 99, .int .u8 121, .int .u8 99, .int .u8 108, .int .u8 101, .int .u8 32, .int .u8 54, .int .u8 48, .int .u8 48, .int .u8 32, .int .u8 116, .int .u8 111, .int .u8 32, .int .u8 57, .int .u8 48, .int .u8 48, .int .u8 32, .int .u8 98, .int .u8 121, .int .u8 32, .int .u8 49, .int .u8 48, .int .u8 59, .int .u8 32, .int .u8 112, .int .u8 101, .int .u8 97, .int .u8 107, .int .u8 32, .int .u8 49, .int .u8 47, .int .u8 49, .int .u8 59] 5 (33, 34))) (.slice (some ⟨w.heap.size, 0, none⟩) 33 33) ex0 := by_new w ex0 5 (33, 34)
theorem by_ex1 (w : World) : By (w.alloc (.cells #[.int .u8 99, .int .u8 121, .int .u8 99, .int .u8 108, .int .u8 101, .int .u8 32, .int .u8 54, .int .u8 48, .int .u8 48, .int .u8 59] 5 (10, 11))) (.slice (some ⟨w.heap.size, 0, none⟩) 10 10) ex1 := by_new w ex1 5 (10, 11)
def ar2 : Array Value := (ex2.map fun x => Value.int .u8 (x.toNat : Int)).toArray
theorem ar2_size : ar2.size = 148 := by kernel_rfl
theorem by_ex2 (w : World) : By (w.alloc (.cells ar2 5 (148, 149))) (.slice (some ⟨w.heap.size, 0, none⟩) 148 148) ex2 := by_new w ex2 5 (148, 149)
/-- one thing of a row, in memory -/
theorem row_at {w : World} {e z : Nat} {L : List (List D)} {P : Nat → Prop} {v : Value} (h : Rd w (.row e z L) P v) {i : Nat} (hi : i < L.length) : ∃ g cap ys P', v = .slice (some ⟨g, 0, none⟩) L.length cap ∧ Rds w L[i] P' ys ∧ ∀ j u, ys[j]? = some u → w.cell? ⟨g, i * z + j, none⟩ = some u := by
  simp only [Rd] at h
  obtain ⟨xs, h1, h2, h3⟩ := h
  have hg : ∃ g cap, v = .slice (some ⟨g, 0, none⟩) L.length cap := by
    rcases h1.2 with ⟨_, h0⟩ | ⟨g, cap, _, rfl, _⟩
    · omega
    · exact ⟨g, cap, rfl⟩
  obtain ⟨g, cap, rfl⟩ := hg
  have hat : ∀ (L : List (List D)) (P : Nat → Prop) (xs : List Value) (i : Nat) (hi : i < L.length), Rdss w L P z xs → ∃ ys, Rds w L[i] P ys ∧ ∀ j u, ys[j]? = some u → xs[i * z + j]? = some u := by
    intro L
    induction L with
    | nil => intro P xs i hi; simp at hi
    | cons d L ih =>
      intro P xs i hi hr
      simp only [Rdss] at hr
      obtain ⟨ys, zs, rfl, e1, e2, e3⟩ := hr
      cases i with
      | zero =>
        refine ⟨ys, e2, fun j u hu => ?_⟩
        have hj : j < ys.length := by
          rcases Nat.lt_or_ge j ys.length with h | h
          · exact h
          · rw [List.getElem?_eq_none h] at hu; cases hu
        rw [Nat.zero_mul, Nat.zero_add, List.getElem?_append_left hj]
        exact hu
      | succ i =>
        obtain ⟨qs, f1, f2⟩ := ih P zs i (by simpa using hi) e3
        refine ⟨qs, f1, fun j u hu => ?_⟩
        rw [List.getElem?_append_right (by rw [e1, Nat.succ_mul]; omega)]
        rw [show (i + 1) * z + j - ys.length = i * z + j by rw [e1, Nat.succ_mul]; omega]
        exact f2 j u hu
  obtain ⟨ys, k1, k2⟩ := hat L _ xs i hi h3
  refine ⟨g, cap, ys, _, rfl, k1, fun j u hu => ?_⟩
  have := h1.cells (g := g) rfl (i * z + j) u (k2 j u hu)
  rwa [add_plain, Nat.zero_add] at this
theorem rds_cons {w : World} {d : D} {ds : List D} {P : Nat → Prop} {us : List Value} (h : Rds w (d :: ds) P us) : ∃ u vs, us = u :: vs ∧ Rd w d P u ∧ Rds w ds P vs := by simpa only [Rds] using h
theorem rds_nil {w : World} {P : Nat → Prop} {us : List Value} (h : Rds w [] P us) : us = [] := by simpa only [Rds] using h
end Go.Proofs.YtfjphcgipbgodaaDoor
