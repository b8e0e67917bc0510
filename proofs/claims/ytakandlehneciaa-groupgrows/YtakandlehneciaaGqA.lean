/- Package group: the law's examples. -/
import Derived.Test.YtakandlehneciaaGpZ
namespace Go.Proofs.Ytakandlehneciaa
open Go.RowKit
attribute [local go_sem ↓] Go.wp_at_zero Go.wp_at_succ
set_option linter.unusedVariables false
set_option linter.unusedSimpArgs false
set_option maxRecDepth 10000
namespace Gp
open Pa
def als (w : World) (os : List Obj) : World := os.foldl World.alloc w
theorem als_keep : ∀ (os : List Obj) (w : World), Keep w (als w os)
  | [], w => Keep.refl w
  | o :: os, w => ((Keep.refl w).alloc o).trans (als_keep os (w.alloc o))
theorem als_at : ∀ (os : List Obj) (w : World) (i : Nat) (o : Obj), os[i]? = some o → (als w os).heap[w.heap.size + i]? = some o
  | [], w, i, o, h => by simp at h
  | a :: os, w, 0, o, h => by
    obtain rfl : a = o := by simpa using h
    have h1 := heap_alloc_new w a
    have h2 := (als_keep os (w.alloc a)).block w.heap.size (by rw [World.size_alloc]; omega)
    show (als (w.alloc a) os).heap[w.heap.size + 0]? = some a
    rw [Nat.add_zero]
    exact h2.trans h1
  | a :: os, w, i + 1, o, h => by
    have := als_at os (w.alloc a) i o (by simpa using h)
    rw [World.size_alloc] at this
    show (als (w.alloc a) os).heap[w.heap.size + (i + 1)]? = some o
    rw [show w.heap.size + (i + 1) = w.heap.size + 1 + i by omega]
    exact this
/-- the examples' job, as it stands in memory -/
theorem ex_jb {w : World} {b0 b1 b2 bf bp : Nat} {t0 t1 t2 tf tp : TypeId} {x y : Bool} {q : Int} (h0 : w.heap[b0]? = some (.cells #[.int .i64 5, .int .i64 3] t0 (0, 0))) (h1 : w.heap[b1]? = some (.cells #[.int .i64 4, .int .i64 4] t1 (0, 0)))
    (h2 : w.heap[b2]? = some (.cells #[.slice (some ⟨b0, 0, none⟩) 2 2, .slice (some ⟨b1, 0, none⟩) 2 2] t2 (0, 0))) (hf : w.heap[bf]? = some (.cells #[.bool x, .bool y] tf (0, 0))) (hp : w.heap[bp]? = some (.cells #[.int .i64 0, .int .i64 q] tp (0, 0))) :
    Jb w (.agg #[.slice (some ⟨b2, 0, none⟩) 2 2, .slice (some ⟨bf, 0, none⟩) 2 2, .slice (some ⟨bp, 0, none⟩) 1 1]) [[5, 3], [4, 4]] [x, y] [(0, q)] := by
  refine ⟨_, _, _, rfl, ⟨some ⟨b2, 0, none⟩, 2, rfl, by decide, fun k hk => ?_⟩, ⟨some ⟨bf, 0, none⟩, 2, rfl, fun k hk => ?_⟩, ⟨some ⟨bp, 0, none⟩, 1, rfl, by simp, fun k hk => ?_⟩⟩
  · have : k = 0 ∨ k = 1 := by simp at hk; omega
    rcases this with rfl | rfl
    · refine ⟨_, _, rfl, by simp [World.cell?, Addr.add, h2], ⟨some ⟨b0, 0, none⟩, 2, rfl, fun j hj => ?_⟩⟩
      have : j = 0 ∨ j = 1 := by simp at hj; omega
      rcases this with rfl | rfl
      · exact ⟨_, rfl, by simp [World.cell?, Addr.add, h0]⟩
      · exact ⟨_, rfl, by simp [World.cell?, Addr.add, h0]⟩
    · refine ⟨_, _, rfl, by simp [World.cell?, Addr.add, h2], ⟨some ⟨b1, 0, none⟩, 2, rfl, fun j hj => ?_⟩⟩
      have : j = 0 ∨ j = 1 := by simp at hj; omega
      rcases this with rfl | rfl
      · exact ⟨_, rfl, by simp [World.cell?, Addr.add, h1]⟩
      · exact ⟨_, rfl, by simp [World.cell?, Addr.add, h1]⟩
  · have : k = 0 ∨ k = 1 := by simp at hk; omega
    rcases this with rfl | rfl
    · exact ⟨_, rfl, by simp [World.cell?, Addr.add, hf]⟩
    · exact ⟨_, rfl, by simp [World.cell?, Addr.add, hf]⟩
  · obtain rfl : k = 0 := by simp at hk; omega
    exact ⟨_, rfl, by simp [World.cell?, Addr.add, hp], by simp [World.cell?, Addr.add, hp]⟩
/-- the job's three blocks, its box, and what has been told -/
structure Aw (w w' : World) (b0 b1 b2 bf bp bj : Nat) (x y : Bool) (q : Int) : Prop where
  keep : Keep w w'
  h0 : w'.heap[b0]? = some (.cells #[.int .i64 5, .int .i64 3] 2 (0, 0))
  h1 : w'.heap[b1]? = some (.cells #[.int .i64 4, .int .i64 4] 2 (0, 0))
  h2 : w'.heap[b2]? = some (.cells #[.slice (some ⟨b0, 0, none⟩) 2 2, .slice (some ⟨b1, 0, none⟩) 2 2] 39 (0, 0))
  hf : w'.heap[bf]? = some (.cells #[.bool x, .bool y] 4 (0, 0))
  hp : w'.heap[bp]? = some (.cells #[.int .i64 0, .int .i64 q] 55 (0, 0))
  hj : w'.heap[bj]? = some (.cells #[.slice (some ⟨b2, 0, none⟩) 2 2, .slice (some ⟨bf, 0, none⟩) 2 2, .slice (some ⟨bp, 0, none⟩) 1 1] 26 (0, 0))
  low : w.heap.size ≤ bj
variable {w w' w2 : World} {b0 b1 b2 bf bp bj : Nat} {x y : Bool} {q : Int}
theorem kblk {o : Obj} {i : Nat} (h : w'.heap[i]? = some o) (hk : Keep w' w2) : w2.heap[i]? = some o := (hk.block i (Array.getElem?_eq_some_iff.1 h).1).trans h
theorem Aw.mv (h : Aw w w' b0 b1 b2 bf bp bj x y q) (hk : Keep w' w2) : Aw w w2 b0 b1 b2 bf bp bj x y q := ⟨h.keep.trans hk, kblk h.h0 hk, kblk h.h1 hk, kblk h.h2 hk, kblk h.hf hk, kblk h.hp hk, kblk h.hj hk, h.low⟩
theorem Aw.jb (h : Aw w w' b0 b1 b2 bf bp bj x y q) : Jb w' (.agg #[.slice (some ⟨b2, 0, none⟩) 2 2, .slice (some ⟨bf, 0, none⟩) 2 2, .slice (some ⟨bp, 0, none⟩) 1 1]) [[5, 3], [4, 4]] [x, y] [(0, q)] := ex_jb h.h0 h.h1 h.h2 h.hf h.hp
theorem set_ne {o : Obj} {i k : Nat} {v : Value} (h : w'.heap[i]? = some o) (hne : i ≠ bj) : (w'.setCell ⟨bj, k, none⟩ v).heap[i]? = some o := by rw [heap_setCell_other w' ⟨bj, k, none⟩ i v hne]; exact h
/-- other pairs -/
theorem Aw.pair (h : Aw w w' b0 b1 b2 bf bp bj x y q) {bp2 : Nat} {q2 : Int} (h2 : w'.heap[bp2]? = some (.cells #[.int .i64 0, .int .i64 q2] 55 (0, 0))) : Aw w (w'.setCell ⟨bj, 2, none⟩ (.slice (some ⟨bp2, 0, none⟩) 1 1)) b0 b1 b2 bf bp2 bj x y q2 := by
  have n0 : b0 ≠ bj := fun e => by have := h.h0; rw [e, h.hj] at this; simp at this
  have n1 : b1 ≠ bj := fun e => by have := h.h1; rw [e, h.hj] at this; simp at this
  have n2 : b2 ≠ bj := fun e => by have := h.h2; rw [e, h.hj] at this; simp at this
  have nf : bf ≠ bj := fun e => by have := h.hf; rw [e, h.hj] at this; simp at this
  have np : bp2 ≠ bj := fun e => by rw [e, h.hj] at h2; simp at h2
  exact ⟨Below.setCell h.keep h.low _, set_ne h.h0 n0, set_ne h.h1 n1, set_ne h.h2 n2, set_ne h.hf nf, set_ne h2 np, by rw [heap_setCell_same w' bj 2 _ _ _ h.hj]; rfl, h.low⟩
/-- free orders -/
theorem Aw.free (h : Aw w w' b0 b1 b2 bf bp bj x y q) {bf2 : Nat} {x2 y2 : Bool} (h2 : w'.heap[bf2]? = some (.cells #[.bool x2, .bool y2] 4 (0, 0))) : Aw w (w'.setCell ⟨bj, 1, none⟩ (.slice (some ⟨bf2, 0, none⟩) 2 2)) b0 b1 b2 bf2 bp bj x2 y2 q := by
  have n0 : b0 ≠ bj := fun e => by have := h.h0; rw [e, h.hj] at this; simp at this
  have n1 : b1 ≠ bj := fun e => by have := h.h1; rw [e, h.hj] at this; simp at this
  have n2 : b2 ≠ bj := fun e => by have := h.h2; rw [e, h.hj] at this; simp at this
  have nf : bf2 ≠ bj := fun e => by rw [e, h.hj] at h2; simp at h2
  have np : bp ≠ bj := fun e => by have := h.hp; rw [e, h.hj] at this; simp at this
  exact ⟨Below.setCell h.keep h.low _, set_ne h.h0 n0, set_ne h.h1 n1, set_ne h.h2 n2, set_ne h2 nf, set_ne h.hp np, by rw [heap_setCell_same w' bj 1 _ _ _ h.hj]; rfl, h.low⟩
set_option maxHeartbeats 4000000 in
theorem awake_any (w : World) : Calls Try.prog 13 #[] w fun e w' => e = .returned (.bool true) ∧ Keep w w' := by
  have A0 : Aw w (als w [.cells #[.int .i64 5, .int .i64 3] 2, .cells #[.int .i64 4, .int .i64 4] 2, .cells #[.slice (some ⟨w.heap.size, 0, none⟩) 2 2, .slice (some ⟨w.heap.size + 1, 0, none⟩) 2 2] 39, .cells #[.bool false, .bool false] 4, .cells #[.int .i64 0, .int .i64 1] 55, .cells #[.slice (some ⟨w.heap.size + 1 + 1, 0, none⟩) 2 2, .slice (some ⟨w.heap.size + 1 + 1 + 1, 0, none⟩) 2 2, .slice (some ⟨w.heap.size + 1 + 1 + 1 + 1, 0, none⟩) 1 1] 26]) w.heap.size (w.heap.size + 1) (w.heap.size + 1 + 1) (w.heap.size + 1 + 1 + 1) (w.heap.size + 1 + 1 + 1 + 1) (w.heap.size + 1 + 1 + 1 + 1 + 1) false false 1 :=
    ⟨als_keep _ _, als_at _ _ 0 _ rfl, als_at _ _ 1 _ rfl, als_at _ _ 2 _ rfl, als_at _ _ 3 _ rfl, als_at _ _ 4 _ rfl, als_at _ _ 5 _ rfl, by omega⟩
  simp only [als, List.foldl] at A0
  have HA0 := hide A0
  clear A0
  go_enter Try.func13, Try.ntmps13
  go_wp2_with fail
  revert HA0
  generalize w.alloc _ = w1
  generalize w1.alloc _ = w2
  generalize w2.alloc _ = w3
  generalize w3.alloc _ = w4
  generalize w4.alloc _ = w5
  generalize w5.alloc _ = w6
  generalize w.heap.size + 1 + 1 + 1 + 1 + 1 = bj
  generalize w.heap.size + 1 + 1 + 1 + 1 = bp
  generalize w.heap.size + 1 + 1 + 1 = bf
  generalize w.heap.size + 1 + 1 = b2
  generalize w.heap.size + 1 = b1
  generalize w.heap.size = b0
  intro HA0
  have TL := hide (fun (J : Value) (FR : List Bool) (AP : List P2) (w' : World) (h : Jb w' J [[5, 3], [4, 4]] FR AP) (h1 : AP.length ≤ 1000) => lay_any J _ FR AP 1000 w' h (by decide) (by decide) h1 (by decide))
  obtain ⟨x1, s1, e1, n1, g1⟩ := ex1
  obtain ⟨s2, e2⟩ := ex2
  obtain ⟨x3, s3, e3, n3, g3⟩ := ex3
  have E1 := hide e1
  have E2 := hide e2
  have E3 := hide e3
  clear e1 e2 e3
  (refine ((unhide TL) _ _ _ _ (unhide HA0).jb (by decide)).mono ?_; rintro e w7 ⟨v, rfl, hk7, hft⟩)
  rw [unhide E1] at hft ⊢
  obtain ⟨vo, st, rfl, ho, hs⟩ := hft
  obtain ⟨ao, co, rfl, -⟩ := ho.sl
  obtain ⟨as9, cs, rfl, -⟩ := hs.sl
  rw [n1]
  generalize (oo [[5, 3], [4, 4]].length x1.1.1).length = lo at ho ⊢
  generalize (STn (MKn [[5, 3], [4, 4]] [[5, 3], [4, 4]].length) (oo [[5, 3], [4, 4]].length x1.1.1) x1.1.2 lo).length = ls at hs ⊢
  have H7 := (unhide HA0).mv hk7
  have H8 := H7.mv (((Keep.refl w7).alloc (.cells #[.int .i64 9, .slice ao lo co, .slice as9 ls cs] 30)).alloc (.cells #[.int .i64 0, .int .i64 0] 55))
  have B8 := heap_alloc_new w7 (.cells #[.int .i64 9, .slice ao lo co, .slice as9 ls cs] 30)
  clear ho hs hk7 HA0
  obtain ⟨f0, f1, f2⟩ := fit_fz H8.hj
  obtain ⟨c0, c1, c2⟩ := fit_sz H8.hj
  go_wp2_with fail
  have P9 : Hid (Aw w (((w7.alloc (.cells #[.int .i64 9, .slice ao lo co, .slice as9 ls cs] 30)).alloc (.cells #[.int .i64 0, .int .i64 0] 55)).setCell ⟨bj, 2, none⟩ (.slice (some ⟨w7.heap.size + 1, 0, none⟩) 1 1)) b0 b1 b2 bf (w7.heap.size + 1) bj false false 0) := hide (H8.pair (by
    have h := heap_alloc_new (w7.alloc (.cells #[.int .i64 9, .slice ao lo co, .slice as9 ls cs] 30)) (.cells #[.int .i64 0, .int .i64 0] 55)
    rw [World.size_alloc] at h
    exact h))
  have hne : w7.heap.size ≠ bj := by
    have := (Array.getElem?_eq_some_iff.1 H7.hj).1
    omega
  have B9 : Hid ((((w7.alloc (.cells #[.int .i64 9, .slice ao lo co, .slice as9 ls cs] 30)).alloc (.cells #[.int .i64 0, .int .i64 0] 55)).setCell ⟨bj, 2, none⟩ (.slice (some ⟨w7.heap.size + 1, 0, none⟩) 1 1)).heap[w7.heap.size]? = some (.cells #[.int .i64 9, .slice ao lo co, .slice as9 ls cs] 30 (0, 0))) := hide (set_ne (box_alloc B8 _) hne)
  have HNE := hide hne
  clear f0 f1 f2 c0 c1 c2 B8 H8 H7 hne
  generalize ((w7.alloc (.cells #[.int .i64 9, .slice ao lo co, .slice as9 ls cs] 30)).alloc (.cells #[.int .i64 0, .int .i64 0] 55)).setCell ⟨bj, 2, none⟩ (.slice (some ⟨w7.heap.size + 1, 0, none⟩) 1 1) = w10 at P9 B9 ⊢
  generalize w7.heap.size + 1 = bp2 at P9 ⊢
  generalize w7.heap.size = bt at B9 HNE ⊢
  (refine ((unhide TL) _ _ _ _ (unhide P9).jb (by decide)).mono ?_; rintro e w11 ⟨v, rfl, hk11, hft⟩)
  rw [unhide E2] at hft ⊢
  obtain rfl := hft
  have H11 := (unhide P9).mv hk11
  have B11 := kblk (unhide B9) hk11
  have H12 := H11.mv (((Keep.refl w11).alloc (.cells #[.int .i64 0, .slice none 0 0, .slice none 0 0] 30)).alloc (.cells #[.bool true, .bool true] 4))
  have B12 := box_alloc (box_alloc B11 (.cells #[.int .i64 0, .slice none 0 0, .slice none 0 0] 30)) (.cells #[.bool true, .bool true] 4)
  obtain ⟨f0, f1, f2⟩ := fit_fz H12.hj
  obtain ⟨c0, c1, c2⟩ := fit_sz H12.hj
  clear hk11 P9 B9 B11
  go_wp2_with fail
  have P13 : Hid (Aw w (((w11.alloc (.cells #[.int .i64 0, .slice none 0 0, .slice none 0 0] 30)).alloc (.cells #[.bool true, .bool true] 4)).setCell ⟨bj, 1, none⟩ (.slice (some ⟨w11.heap.size + 1, 0, none⟩) 2 2)) b0 b1 b2 (w11.heap.size + 1) bp2 bj true true 0) := hide (H12.free (by
    have h := heap_alloc_new (w11.alloc (.cells #[.int .i64 0, .slice none 0 0, .slice none 0 0] 30)) (.cells #[.bool true, .bool true] 4)
    rw [World.size_alloc] at h
    exact h))
  have B13 : Hid ((((w11.alloc (.cells #[.int .i64 0, .slice none 0 0, .slice none 0 0] 30)).alloc (.cells #[.bool true, .bool true] 4)).setCell ⟨bj, 1, none⟩ (.slice (some ⟨w11.heap.size + 1, 0, none⟩) 2 2)).heap[bt]? = some (.cells #[.int .i64 9, .slice ao lo co, .slice as9 ls cs] 30 (0, 0))) := hide (set_ne B12 (unhide HNE))
  clear f0 f1 f2 c0 c1 c2 B12 H12 H11
  generalize ((w11.alloc (.cells #[.int .i64 0, .slice none 0 0, .slice none 0 0] 30)).alloc (.cells #[.bool true, .bool true] 4)).setCell ⟨bj, 1, none⟩ (.slice (some ⟨w11.heap.size + 1, 0, none⟩) 2 2) = w14 at P13 B13 ⊢
  generalize w11.heap.size + 1 = bf2 at P13 ⊢
  generalize w11.heap.size = b11
  (refine ((unhide TL) _ _ _ _ (unhide P13).jb (by decide)).mono ?_; rintro e w15 ⟨v, rfl, hk15, hft⟩)
  rw [unhide E3] at hft ⊢
  obtain ⟨vo3, st3, rfl, ho3, hs3⟩ := hft
  obtain ⟨ao3, co3, rfl, -⟩ := ho3.sl
  obtain ⟨as3, cs3, rfl, -⟩ := hs3.sl
  rw [n3]
  generalize (oo [[5, 3], [4, 4]].length x3.1.1).length = lo3 at ho3 ⊢
  generalize (STn (MKn [[5, 3], [4, 4]] [[5, 3], [4, 4]].length) (oo [[5, 3], [4, 4]].length x3.1.1) x3.1.2 lo3).length = ls3 at hs3 ⊢
  have H16 := ((unhide P13).mv hk15).mv ((Keep.refl w15).alloc (.cells #[.int .i64 9, .slice ao3 lo3 co3, .slice as3 ls3 cs3] 30))
  have B16 := box_alloc (kblk (unhide B13) hk15) (.cells #[.int .i64 9, .slice ao3 lo3 co3, .slice as3 ls3 cs3] 30)
  have N16 := heap_alloc_new w15 (.cells #[.int .i64 9, .slice ao3 lo3 co3, .slice as3 ls3 cs3] 30)
  have TR := hide (jright_any _ _ _ _ _ H16.jb (by decide) (by decide) (by decide))
  rw [show jobR [[5, 3], [4, 4]] [true, true] [(0, 0)] = true by decide +kernel] at TR
  have KZ := hide H16.keep
  obtain ⟨c0, c1, c2⟩ := fit_sz H16.hj
  obtain ⟨d0, -, -⟩ := fit_sz B16
  obtain ⟨e0, -, -⟩ := fit_sz N16
  have d1 : decide ((1 : Int) ≤ s1) = true := decide_eq_true g1
  clear H16 B16 N16 ho3 hs3 hk15 P13 B13 E1 E2 E3 TL HNE
  go_wp2_with fail
  (refine (unhide TR).mono ?_; rintro e w17 ⟨rfl, hk17⟩)
  have K17 := hide ((unhide KZ).trans hk17)
  clear hk17 KZ TR c0 c1 c2 d0 e0
  go_wp2_with fail
  try go_ret
  exact ⟨rfl, unhide K17⟩
end Gp
end Go.Proofs.Ytakandlehneciaa
