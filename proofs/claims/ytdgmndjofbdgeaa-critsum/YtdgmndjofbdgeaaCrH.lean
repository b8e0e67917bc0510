/- The document's Same of two critical sums, and Rank, over letters. -/
import Derived.Test.YtdgmndjofbdgeaaCrF
import Derived.Test.YtdgmndjofbdgeaaLMath
import Derived.Deep.DrawnRows
import Derived.Deep.RegionHeld3
import Derived.Laws.AppendOwn
import Derived.Laws.OwnMore
import Derived.Laws.MakeOwn
import Derived.OwnWalk
namespace Go.Proofs.Ytdgmndjofbdgeaa
open Go.RowKit
attribute [local go_sem ↓] Go.wp_at_zero Go.wp_at_succ
set_option linter.unusedVariables false
set_option linter.unusedSimpArgs false
set_option maxRecDepth 10000
namespace Cr
set_option maxHeartbeats 4000000 in
theorem same_core (X Y : Int) (v u : Value) (L : List Int) (w : World) (hL : L.length ≤ 1000) (h1 : Is w v L) (h2 : Is w u L) :
    Calls Try.prog 11 #[.agg #[.int .i64 X, .int .i64 Y, v], .agg #[.int .i64 X, .int .i64 Y, u]] w fun e w' => e = .returned (.bool true) ∧ Keep w w' := by
  obtain ⟨a, ca, rfl, h1⟩ := h1
  obtain ⟨b, cb, rfl, h2⟩ := h2
  have H1 := hide h1
  have H2 := hide h2
  clear h1 h2
  generalize hl : L.length = n at H1 H2 hL ⊢
  clear hl
  have hnw0 := heap_alloc_new w (.cells #[.int .i64 X, .int .i64 Y, .slice a n ca] 35)
  have hnw1 := heap_alloc_new (w.alloc (.cells #[.int .i64 X, .int .i64 Y, .slice a n ca] 35)) (.cells #[.int .i64 X, .int .i64 Y, .slice b n cb] 35)
  have K0 := hide (((Keep.refl w).alloc (.cells #[.int .i64 X, .int .i64 Y, .slice a n ca] 35)).alloc (.cells #[.int .i64 X, .int .i64 Y, .slice b n cb] 35))
  have hnwa : ((w.alloc (.cells #[.int .i64 X, .int .i64 Y, .slice a n ca] 35)).alloc (.cells #[.int .i64 X, .int .i64 Y, .slice b n cb] 35)).heap[w.heap.size]? = some (.cells #[.int .i64 X, .int .i64 Y, .slice a n ca] 35 (0, 0)) := by rw [heap_alloc_old _ _ (by simp)]; exact hnw0
  rw [World.size_alloc] at hnw1
  clear hnw0
  go_enter Try.func11, Try.ntmps11
  go_upto_region 1 with fail
  generalize (w.alloc (.cells #[.int .i64 X, .int .i64 Y, .slice a n ca] 35)).alloc (.cells #[.int .i64 X, .int .i64 Y, .slice b n cb] 35) = w0 at hnwa hnw1 K0 ⊢
  obtain ⟨q0, HQ0⟩ : ∃ q, Hid (w.heap.size = q) := ⟨_, hide rfl⟩
  rw [uq HQ0] at hnwa hnw1 ⊢
  have HX0 : Hid (∀ w' : World, Keep w0 w' → (w'.cell? ⟨q0, 0, none⟩ = some (.int .i64 X) ∧ w'.cell? ⟨q0, 1, none⟩ = some (.int .i64 Y) ∧ w'.cell? ⟨q0, 2, none⟩ = some (.slice a n ca)) ∧ w'.cell? ⟨q0 + 1, 0, none⟩ = some (.int .i64 X) ∧ w'.cell? ⟨q0 + 1, 1, none⟩ = some (.int .i64 Y) ∧ w'.cell? ⟨q0 + 1, 2, none⟩ = some (.slice b n cb)) := hide (fun w' k9 => by
    have h1 := k9.block q0 (Array.getElem?_eq_some_iff.1 hnwa).1
    rw [hnwa] at h1
    have h2 := k9.block (q0 + 1) (Array.getElem?_eq_some_iff.1 hnw1).1
    rw [hnw1] at h2
    refine ⟨⟨?_, ?_, ?_⟩, ?_, ?_, ?_⟩ <;> simp [World.cell?, h1, h2])
  clear hnwa hnw1
  obtain ⟨⟨z0, z1, z2⟩, g0, g1, g2⟩ := (uq HX0) w0 (Keep.refl _)
  go_wp2_with fail
  clear z0 z1 z2 g0 g1 g2
  go_loopw [5] (fun vi wr => ∃ k : Nat, k ≤ n ∧ vi = .int .i64 (k : Int) ∧ Hid (Keep w0 wr)) (fun vi _ => n - (intOf vi).toNat)
  case atStart => exact ⟨0, Nat.zero_le _, rfl, hide (Keep.refl _)⟩
  case round =>
    obtain ⟨k, hk, rfl, KW⟩ := hrel
    obtain ⟨⟨z0, z1, z2⟩, g0, g1, g2⟩ := (uq HX0) wr (uq KW)
    by_cases hlt : k < n
    · have li : (k : Int) < (n : Int) := by omega
      have KWW := hide ((uq K0).trans (uq KW))
      obtain ⟨ad, rfl, hb, e0⟩ := (uq H1) k hlt
      obtain ⟨be, rfl, hb2, e1⟩ := (uq H2) k hlt
      generalize L.getD k 0 = x at e0 e1
      have HS : Hid (∀ w' : World, Keep wr w' → w'.cell? ⟨q0, 2, none⟩ = some (.slice (some ad) n ca) ∧ w'.cell? ⟨q0 + 1, 2, none⟩ = some (.slice (some be) n cb) ∧ w'.cell? (ad.add k) = some (.int .i64 x) ∧ w'.cell? (be.add k) = some (.int .i64 x)) := hide (fun w' k9 => by
        have k8 := (uq KWW).trans k9
        obtain ⟨⟨a0, a1, a2⟩, b0, b1, b2⟩ := (uq HX0) w' ((uq KW).trans k9)
        exact ⟨a2, b2, V.far_cell k8 (by rw [V.add_block9]; exact hb) e0, V.far_cell k8 (by rw [V.add_block9]; exact hb2) e1⟩)
      go_upto_region 6 with fail
      clear z0 z1 z2 g0 g1 g2 e0 e1
      refine wp_region_held_drew (S := fun w' => w'.cell? ⟨q0, 2, none⟩ = some (.slice (some ad) n ca) ∧ w'.cell? ⟨q0 + 1, 2, none⟩ = some (.slice (some be) n cb) ∧ w'.cell? (ad.add k) = some (.int .i64 x) ∧ w'.cell? (be.add k) = some (.int .i64 x)) (by kernel_rfl) (by exact (uq HS) _ (by repeat (first | apply Keep.drew | exact Keep.refl _))) (fun hHeld => ?_)
      refine tkk 0 27 hHeld ?_; try simp only [Act.put, Ya, Yb, Yc]
      refine tkk 1 28 hHeld ?_; try simp only [Act.put, Ya, Yb, Yc]
      refine tkk 2 29 hHeld ?_; try simp only [Act.put, Ya, Yb, Yc]
      refine tkk 3 30 hHeld ?_; try simp only [Act.put, Ya, Yb, Yc]
      refine tkk 4 31 hHeld ?_; try simp only [Act.put, Ya, Yb, Yc]
      refine tkk 5 32 hHeld ?_; try simp only [Act.put, Ya, Yb, Yc]
      refine tkk 6 33 hHeld ?_; try simp only [Act.put, Ya, Yb, Yc]
      refine tkk 7 34 hHeld ?_; try simp only [Act.put, Ya, Yb, Yc]
      refine tkk 8 35 hHeld ?_; try simp only [Act.put, Ya, Yb, Yc]
      refine tkk 9 36 hHeld ?_; try simp only [Act.put, Ya, Yb, Yc]
      refine tkk 10 37 hHeld ?_; try simp only [Act.put, Ya, Yb, Yc]
      refine wpAnyH_done (by kernel_rfl) ?_ _
      clear hHeld
      go_wp2_with fail
      go_roundw
      case rel => exact ⟨k + 1, hlt, by go_num, hide (by have := uq KW; exact this.trans (Keep.refl _).drew)⟩
      case measure => simp [intOf]; omega
    · have li : ¬ (k : Int) < (n : Int) := by omega
      go_wp2_with fail
      go_ret
      exact ⟨rfl, (uq K0).trans (uq KW)⟩
set_option maxHeartbeats 4000000 in
theorem rrank_no (s : ByteArray) (x1 : Option Addr) (n1 c1 : Nat) (x2 : Option Addr) (n2 c2 : Nat) (x3 : Option Addr) (n3 c3 : Nat) (x4 : Option Addr) (n4 c4 : Nat) (x5 : Option Addr) (n5 c5 : Nat) (p : Int) (xf : Option Addr) (nf cf : Nat) (X Y z : Int) (va : Option Addr) (vn vc : Nat) (w : World) (hz : ¬ z = 0)
    (TS : Hid (∀ w', Keep w w' → Calls Try.prog 8 #[.agg #[.string s, .slice x1 n1 c1, .slice x2 n2 c2, .slice x3 n3 c3, .slice x4 n4 c4, .slice x5 n5 c5, .int .i64 p], .slice xf nf cf] w' fun e w'' => e = .returned (.tuple #[.agg #[.int .i64 X, .int .i64 Y, .slice va vn vc], .int .i64 z]) ∧ Keep w' w'')) :
    Calls Try.prog 10 #[.agg #[.string s, .slice x1 n1 c1, .slice x2 n2 c2, .slice x3 n3 c3, .slice x4 n4 c4, .slice x5 n5 c5, .int .i64 p], .slice xf nf cf] w fun e w' => e = .returned (.slice none 0 0) ∧ Keep w w' := by
  have hzb : (z != 0) = true := by simpa using hz
  have hnw0 := heap_alloc_new w (.cells #[.string s, .slice x1 n1 c1, .slice x2 n2 c2, .slice x3 n3 c3, .slice x4 n4 c4, .slice x5 n5 c5, .int .i64 p] 28)
  have K0 := hide ((Keep.refl w).alloc (.cells #[.string s, .slice x1 n1 c1, .slice x2 n2 c2, .slice x3 n3 c3, .slice x4 n4 c4, .slice x5 n5 c5, .int .i64 p] 28))
  go_enter Try.func10, Try.ntmps10
  go_upto_region 1 with fail
  generalize w.alloc (.cells #[.string s, .slice x1 n1 c1, .slice x2 n2 c2, .slice x3 n3 c3, .slice x4 n4 c4, .slice x5 n5 c5, .int .i64 p] 28) = w0 at hnw0 K0 ⊢
  obtain ⟨q0, HQ0⟩ : ∃ q, Hid (w.heap.size = q) := ⟨_, hide rfl⟩
  rw [uq HQ0] at hnw0 ⊢
  have HX0 : Hid (∀ w' : World, Keep w0 w' → w'.cell? ⟨q0, 0, none⟩ = some (.string s) ∧ w'.cell? ⟨q0, 1, none⟩ = some (.slice x1 n1 c1) ∧ w'.cell? ⟨q0, 2, none⟩ = some (.slice x2 n2 c2) ∧ w'.cell? ⟨q0, 3, none⟩ = some (.slice x3 n3 c3) ∧ w'.cell? ⟨q0, 4, none⟩ = some (.slice x4 n4 c4) ∧ w'.cell? ⟨q0, 5, none⟩ = some (.slice x5 n5 c5) ∧ w'.cell? ⟨q0, 6, none⟩ = some (.int .i64 p)) := hide (fun w' k9 => by
    have h1 := k9.block q0 (Array.getElem?_eq_some_iff.1 hnw0).1
    rw [hnw0] at h1
    refine ⟨?_, ?_, ?_, ?_, ?_, ?_, ?_⟩ <;> simp [World.cell?, h1])
  clear hnw0
  obtain ⟨z0, z1, z2, z3, z4, z5, z6⟩ := (uq HX0) w0 (Keep.refl _)
  go_wp2_with fail
  (refine ((uq TS) _ (uq K0)).mono ?_; rintro e w2 ⟨rfl, hk9⟩; have K2 := hide ((uq K0).trans hk9); clear hk9)
  clear z0 z1 z2 z3 z4 z5 z6
  go_wp2_with fail
  go_ret
  exact ⟨rfl, (uq K2).alloc _⟩
set_option maxHeartbeats 4000000 in
theorem rrank_yes (s : ByteArray) (x1 : Option Addr) (n1 c1 : Nat) (x2 : Option Addr) (n2 c2 : Nat) (x3 : Option Addr) (n3 c3 : Nat) (x4 : Option Addr) (n4 c4 : Nat) (x5 : Option Addr) (n5 c5 : Nat) (p : Int) (xf : Option Addr) (nf cf : Nat) (X Y : Int) (I L : List Int) (w : World)
    (TS : Hid (∀ w', Keep w w' → Calls Try.prog 8 #[.agg #[.string s, .slice x1 n1 c1, .slice x2 n2 c2, .slice x3 n3 c3, .slice x4 n4 c4, .slice x5 n5 c5, .int .i64 p], .slice xf nf cf] w' fun e w'' => ∃ va vc, e = .returned (.tuple #[.agg #[.int .i64 X, .int .i64 Y, .slice va I.length vc], .int .i64 0]) ∧ Keep w' w'' ∧ Is w'' (.slice va I.length vc) I))
    (TW : Hid (∀ v w', Keep w w' → Is w' v I → Calls Try.prog 14 #[.agg #[.string s, .slice x1 n1 c1, .slice x2 n2 c2, .slice x3 n3 c3, .slice x4 n4 c4, .slice x5 n5 c5, .int .i64 p], v] w' (Iq L w'))) :
    Calls Try.prog 10 #[.agg #[.string s, .slice x1 n1 c1, .slice x2 n2 c2, .slice x3 n3 c3, .slice x4 n4 c4, .slice x5 n5 c5, .int .i64 p], .slice xf nf cf] w (Iq L w) := by
  have hnw0 := heap_alloc_new w (.cells #[.string s, .slice x1 n1 c1, .slice x2 n2 c2, .slice x3 n3 c3, .slice x4 n4 c4, .slice x5 n5 c5, .int .i64 p] 28)
  have K0 := hide ((Keep.refl w).alloc (.cells #[.string s, .slice x1 n1 c1, .slice x2 n2 c2, .slice x3 n3 c3, .slice x4 n4 c4, .slice x5 n5 c5, .int .i64 p] 28))
  go_enter Try.func10, Try.ntmps10
  go_upto_region 1 with fail
  generalize w.alloc (.cells #[.string s, .slice x1 n1 c1, .slice x2 n2 c2, .slice x3 n3 c3, .slice x4 n4 c4, .slice x5 n5 c5, .int .i64 p] 28) = w0 at hnw0 K0 ⊢
  obtain ⟨q0, HQ0⟩ : ∃ q, Hid (w.heap.size = q) := ⟨_, hide rfl⟩
  rw [uq HQ0] at hnw0 ⊢
  have HX0 : Hid (∀ w' : World, Keep w0 w' → w'.cell? ⟨q0, 0, none⟩ = some (.string s) ∧ w'.cell? ⟨q0, 1, none⟩ = some (.slice x1 n1 c1) ∧ w'.cell? ⟨q0, 2, none⟩ = some (.slice x2 n2 c2) ∧ w'.cell? ⟨q0, 3, none⟩ = some (.slice x3 n3 c3) ∧ w'.cell? ⟨q0, 4, none⟩ = some (.slice x4 n4 c4) ∧ w'.cell? ⟨q0, 5, none⟩ = some (.slice x5 n5 c5) ∧ w'.cell? ⟨q0, 6, none⟩ = some (.int .i64 p)) := hide (fun w' k9 => by
    have h1 := k9.block q0 (Array.getElem?_eq_some_iff.1 hnw0).1
    rw [hnw0] at h1
    refine ⟨?_, ?_, ?_, ?_, ?_, ?_, ?_⟩ <;> simp [World.cell?, h1])
  clear hnw0
  obtain ⟨z0, z1, z2, z3, z4, z5, z6⟩ := (uq HX0) w0 (Keep.refl _)
  go_wp2_with fail
  (refine ((uq TS) _ (uq K0)).mono ?_; rintro e w2 ⟨va, vc, rfl, hk9, hi9⟩; have K2 := hide hk9; have HI2 := hide (hi9.keep ((Keep.refl w2).alloc (.cells #[.int .i64 X, .int .i64 Y, .slice va I.length vc] 35))); clear hk9 hi9)
  clear z0 z1 z2 z3 z4 z5 z6
  have K3 := hide (((uq K0).trans (uq K2)).alloc (.cells #[.int .i64 X, .int .i64 Y, .slice va I.length vc] 35))
  obtain ⟨z0, z1, z2, z3, z4, z5, z6⟩ := (uq HX0) w2 (uq K2)
  have lq0 : q0 < w2.heap.size := World.block_lt_of_cell? w2 _ z0
  have TK := hide ((uq TW) _ _ (uq K3) (uq HI2))
  go_wp2_with fail
  (refine (uq TK).mono ?_; rintro e w4 ⟨v, rfl, hk9, ho9⟩; have K4 := hide ((uq K3).trans hk9); have HO := hide ho9; clear hk9 ho9)
  clear z0 z1 z2 z3 z4 z5 z6
  go_wp2_with fail
  go_ret
  exact ⟨_, rfl, uq K4, own_mono (uq HO) (Below.size (uq K3))⟩
end Cr
end Go.Proofs.Ytdgmndjofbdgeaa

namespace Go.Proofs.Ytdgmndjofbdgeaa
open Go.RowKit
attribute [local go_sem ↓] Go.wp_at_zero Go.wp_at_succ
set_option linter.unusedVariables false
set_option linter.unusedSimpArgs false
set_option maxRecDepth 10000
namespace Cr
set_option maxHeartbeats 4000000 in
theorem rsumlen (s : ByteArray) (x1 : Option Addr) (n1 c1 : Nat) (x2 : Option Addr) (n2 c2 : Nat) (x3 : Option Addr) (n3 c3 : Nat) (x4 : Option Addr) (n4 c4 : Nat) (x5 : Option Addr) (n5 c5 : Nat) (p : Int) (xf : Option Addr) (nf cf : Nat) (w : World) (h : ¬ nf = n3) :
    Calls Try.prog 8 #[.agg #[.string s, .slice x1 n1 c1, .slice x2 n2 c2, .slice x3 n3 c3, .slice x4 n4 c4, .slice x5 n5 c5, .int .i64 p], .slice xf nf cf] w fun e w' => e = .returned (.tuple #[.agg #[.int .i64 0, .int .i64 0, .slice none 0 0], .int .i64 1]) ∧ Keep w w' := by
  have h1 : ((nf : Int) != (n3 : Int)) = true := by simp; omega
  have h2 : ¬ (nf : Int) = (n3 : Int) := by omega
  have h3 : ((nf : Int) == (n3 : Int)) = false := by simp; omega
  have hnw0 := heap_alloc_new w (.cells #[.string s, .slice x1 n1 c1, .slice x2 n2 c2, .slice x3 n3 c3, .slice x4 n4 c4, .slice x5 n5 c5, .int .i64 p] 28)
  have hnw1 := heap_alloc_new (w.alloc (.cells #[.string s, .slice x1 n1 c1, .slice x2 n2 c2, .slice x3 n3 c3, .slice x4 n4 c4, .slice x5 n5 c5, .int .i64 p] 28)) (.cells #[.int .i64 0, .int .i64 0, .slice none 0 0] 35)
  have K0 := hide (((Keep.refl w).alloc (.cells #[.string s, .slice x1 n1 c1, .slice x2 n2 c2, .slice x3 n3 c3, .slice x4 n4 c4, .slice x5 n5 c5, .int .i64 p] 28)).alloc (.cells #[.int .i64 0, .int .i64 0, .slice none 0 0] 35))
  have hnwa : ((w.alloc (.cells #[.string s, .slice x1 n1 c1, .slice x2 n2 c2, .slice x3 n3 c3, .slice x4 n4 c4, .slice x5 n5 c5, .int .i64 p] 28)).alloc (.cells #[.int .i64 0, .int .i64 0, .slice none 0 0] 35)).heap[w.heap.size]? = some (.cells #[.string s, .slice x1 n1 c1, .slice x2 n2 c2, .slice x3 n3 c3, .slice x4 n4 c4, .slice x5 n5 c5, .int .i64 p] 28 (0, 0)) := by rw [heap_alloc_old _ _ (by simp)]; exact hnw0
  rw [World.size_alloc] at hnw1
  clear hnw0
  go_enter Try.func8, Try.ntmps8
  go_upto_region 1 with fail
  generalize (w.alloc (.cells #[.string s, .slice x1 n1 c1, .slice x2 n2 c2, .slice x3 n3 c3, .slice x4 n4 c4, .slice x5 n5 c5, .int .i64 p] 28)).alloc (.cells #[.int .i64 0, .int .i64 0, .slice none 0 0] 35) = w0 at hnwa hnw1 K0 ⊢
  obtain ⟨q0, HQ0⟩ : ∃ q, Hid (w.heap.size = q) := ⟨_, hide rfl⟩
  rw [uq HQ0] at hnwa hnw1 ⊢
  have HX0 : Hid (∀ w' : World, Keep w0 w' → (w'.cell? ⟨q0, 0, none⟩ = some (.string s) ∧ w'.cell? ⟨q0, 1, none⟩ = some (.slice x1 n1 c1) ∧ w'.cell? ⟨q0, 2, none⟩ = some (.slice x2 n2 c2) ∧ w'.cell? ⟨q0, 3, none⟩ = some (.slice x3 n3 c3) ∧ w'.cell? ⟨q0, 4, none⟩ = some (.slice x4 n4 c4) ∧ w'.cell? ⟨q0, 5, none⟩ = some (.slice x5 n5 c5) ∧ w'.cell? ⟨q0, 6, none⟩ = some (.int .i64 p)) ∧ w'.cell? ⟨q0 + 1, 0, none⟩ = some (.int .i64 0) ∧ w'.cell? ⟨q0 + 1, 1, none⟩ = some (.int .i64 0) ∧ w'.cell? ⟨q0 + 1, 2, none⟩ = some (.slice none 0 0)) := hide (fun w' k9 => by
    have h1 := k9.block q0 (Array.getElem?_eq_some_iff.1 hnwa).1
    rw [hnwa] at h1
    have h2 := k9.block (q0 + 1) (Array.getElem?_eq_some_iff.1 hnw1).1
    rw [hnw1] at h2
    refine ⟨⟨?_, ?_, ?_, ?_, ?_, ?_, ?_⟩, ?_, ?_, ?_⟩ <;> simp [World.cell?, h1, h2])
  have HXZ : Hid (∀ w' : World, Keep w0 w' → w'.frozen? ⟨q0 + 1, 0, none⟩ = false ∧ w'.frozen? ⟨q0 + 1, 1, none⟩ = false ∧ w'.frozen? ⟨q0 + 1, 2, none⟩ = false) := hide (fun w' k9 => by
    have h2 := k9.block (q0 + 1) (Array.getElem?_eq_some_iff.1 hnw1).1
    rw [hnw1] at h2
    refine ⟨?_, ?_, ?_⟩ <;> simp [World.frozen?, h2])
  clear hnwa hnw1
  obtain ⟨⟨z0, z1, z2, z3, z4, z5, z6⟩, g0, g1, g2⟩ := (uq HX0) w0 (Keep.refl _)
  obtain ⟨y0, y1, y2⟩ := (uq HXZ) w0 (Keep.refl _)
  have lq0 : q0 + 1 < w0.heap.size := World.block_lt_of_cell? w0 _ g0
  have lq1 : q0 < w0.heap.size := by omega
  go_wp2_with fail
  exact bodyPost_ret (v := .tuple #[.agg #[.int .i64 0, .int .i64 0, .slice none 0 0], .int .i64 1]) (by simp [results, Try.results8, go_sem, g0, g1, g2, lq0]) rfl ⟨rfl, by repeat (first | exact (uq K0) | apply Keep.alloc | apply Keep.drew | (refine keep_st ?_ (by have := uq HQ0; omega)))⟩
set_option maxHeartbeats 4000000 in
theorem rsum_none (s : ByteArray) (x1 : Option Addr) (n1 c1 : Nat) (x2 : Option Addr) (n2 c2 : Nat) (x3 : Option Addr) (n3 c3 : Nat) (x4 : Option Addr) (n4 c4 : Nat) (x5 : Option Addr) (n5 c5 : Nat) (p : Int) (xf : Option Addr) (cf : Nat) (XG : Nat → Option Addr) (NG CG : Nat → Nat) (j : Nat) (w : World) (hn : n4 ≤ 1000) (hj : j < n4) (hz : NG j = 0)
    (HC : Hid (∀ k, k < n4 → ∃ ad, x4 = some ad ∧ ad.block < w.heap.size ∧ w.cell? (ad.add k) = some (.slice (XG k) (NG k) (CG k)))) :
    Calls Try.prog 8 #[.agg #[.string s, .slice x1 n1 c1, .slice x2 n2 c2, .slice x3 n3 c3, .slice x4 n4 c4, .slice x5 n5 c5, .int .i64 p], .slice xf n3 cf] w fun e w' => e = .returned (.tuple #[.agg #[.int .i64 0, .int .i64 0, .slice none 0 0], .int .i64 1]) ∧ Keep w w' := by
  have hnw0 := heap_alloc_new w (.cells #[.string s, .slice x1 n1 c1, .slice x2 n2 c2, .slice x3 n3 c3, .slice x4 n4 c4, .slice x5 n5 c5, .int .i64 p] 28)
  have hnw1 := heap_alloc_new (w.alloc (.cells #[.string s, .slice x1 n1 c1, .slice x2 n2 c2, .slice x3 n3 c3, .slice x4 n4 c4, .slice x5 n5 c5, .int .i64 p] 28)) (.cells #[.int .i64 0, .int .i64 0, .slice none 0 0] 35)
  have K0 := hide (((Keep.refl w).alloc (.cells #[.string s, .slice x1 n1 c1, .slice x2 n2 c2, .slice x3 n3 c3, .slice x4 n4 c4, .slice x5 n5 c5, .int .i64 p] 28)).alloc (.cells #[.int .i64 0, .int .i64 0, .slice none 0 0] 35))
  have hnwa : ((w.alloc (.cells #[.string s, .slice x1 n1 c1, .slice x2 n2 c2, .slice x3 n3 c3, .slice x4 n4 c4, .slice x5 n5 c5, .int .i64 p] 28)).alloc (.cells #[.int .i64 0, .int .i64 0, .slice none 0 0] 35)).heap[w.heap.size]? = some (.cells #[.string s, .slice x1 n1 c1, .slice x2 n2 c2, .slice x3 n3 c3, .slice x4 n4 c4, .slice x5 n5 c5, .int .i64 p] 28 (0, 0)) := by rw [heap_alloc_old _ _ (by simp)]; exact hnw0
  rw [World.size_alloc] at hnw1
  clear hnw0
  go_enter Try.func8, Try.ntmps8
  go_upto_region 1 with fail
  generalize (w.alloc (.cells #[.string s, .slice x1 n1 c1, .slice x2 n2 c2, .slice x3 n3 c3, .slice x4 n4 c4, .slice x5 n5 c5, .int .i64 p] 28)).alloc (.cells #[.int .i64 0, .int .i64 0, .slice none 0 0] 35) = w0 at hnwa hnw1 K0 ⊢
  obtain ⟨q0, HQ0⟩ : ∃ q, Hid (w.heap.size = q) := ⟨_, hide rfl⟩
  rw [uq HQ0] at hnwa hnw1 ⊢
  have HX0 : Hid (∀ w' : World, Keep w0 w' → (w'.cell? ⟨q0, 0, none⟩ = some (.string s) ∧ w'.cell? ⟨q0, 1, none⟩ = some (.slice x1 n1 c1) ∧ w'.cell? ⟨q0, 2, none⟩ = some (.slice x2 n2 c2) ∧ w'.cell? ⟨q0, 3, none⟩ = some (.slice x3 n3 c3) ∧ w'.cell? ⟨q0, 4, none⟩ = some (.slice x4 n4 c4) ∧ w'.cell? ⟨q0, 5, none⟩ = some (.slice x5 n5 c5) ∧ w'.cell? ⟨q0, 6, none⟩ = some (.int .i64 p)) ∧ w'.cell? ⟨q0 + 1, 0, none⟩ = some (.int .i64 0) ∧ w'.cell? ⟨q0 + 1, 1, none⟩ = some (.int .i64 0) ∧ w'.cell? ⟨q0 + 1, 2, none⟩ = some (.slice none 0 0)) := hide (fun w' k9 => by
    have h1 := k9.block q0 (Array.getElem?_eq_some_iff.1 hnwa).1
    rw [hnwa] at h1
    have h2 := k9.block (q0 + 1) (Array.getElem?_eq_some_iff.1 hnw1).1
    rw [hnw1] at h2
    refine ⟨⟨?_, ?_, ?_, ?_, ?_, ?_, ?_⟩, ?_, ?_, ?_⟩ <;> simp [World.cell?, h1, h2])
  have HXZ : Hid (∀ w' : World, Keep w0 w' → w'.frozen? ⟨q0 + 1, 0, none⟩ = false ∧ w'.frozen? ⟨q0 + 1, 1, none⟩ = false ∧ w'.frozen? ⟨q0 + 1, 2, none⟩ = false) := hide (fun w' k9 => by
    have h2 := k9.block (q0 + 1) (Array.getElem?_eq_some_iff.1 hnw1).1
    rw [hnw1] at h2
    refine ⟨?_, ?_, ?_⟩ <;> simp [World.frozen?, h2])
  clear hnwa hnw1
  obtain ⟨⟨z0, z1, z2, z3, z4, z5, z6⟩, g0, g1, g2⟩ := (uq HX0) w0 (Keep.refl _)
  obtain ⟨y0, y1, y2⟩ := (uq HXZ) w0 (Keep.refl _)
  have lq0 : q0 + 1 < w0.heap.size := World.block_lt_of_cell? w0 _ g0
  have lq1 : q0 < w0.heap.size := by omega
  go_wp2_with fail
  clear z0 z1 z2 z3 z4 z5 z6 g0 g1 g2 y0 y1 y2 lq0 lq1
  go_loopw [6] (fun vi wr => ∃ k : Nat, k ≤ j ∧ vi = .int .i64 (k : Int) ∧ Hid (Keep w0 wr)) (fun vi _ => j + 1 - (intOf vi).toNat)
  case atStart => exact ⟨0, Nat.zero_le _, rfl, hide (Keep.refl _)⟩
  case round =>
    obtain ⟨k, hk, rfl, KW⟩ := hrel
    have li : (k : Int) < (n4 : Int) := by omega
    obtain ⟨⟨z0, z1, z2, z3, z4, z5, z6⟩, g0, g1, g2⟩ := (uq HX0) wr (uq KW)
    obtain ⟨y0, y1, y2⟩ := (uq HXZ) wr (uq KW)
    have lq0 : q0 + 1 < wr.heap.size := World.block_lt_of_cell? wr _ g0
    have lq1 : q0 < wr.heap.size := by omega
    obtain ⟨ad, rfl, hb, e0⟩ := (uq HC) k (by omega)
    have x0 := V.far_cell ((uq K0).trans (uq KW)) (by rw [V.add_block9]; exact hb) e0
    clear e0
    by_cases hk0 : NG k = 0
    · rw [hk0] at x0
      go_wp2_with fail
      exact bodyPost_ret (v := .tuple #[.agg #[.int .i64 0, .int .i64 0, .slice none 0 0], .int .i64 1]) (by simp [results, Try.results8, go_sem, g0, g1, g2, lq0]) rfl ⟨rfl, by repeat (first | exact ((uq K0).trans (uq KW)) | apply Keep.alloc | apply Keep.drew | (refine keep_st ?_ (by have := uq HQ0; omega)))⟩
    · have hkj : k < j := by
        rcases Nat.lt_or_ge k j with h | h
        · exact h
        · exact absurd (by rw [show k = j by omega]; exact hz) hk0
      have h1 : ((NG k : Int) == 0) = false := by simpa using hk0
      have h2 : ¬ (NG k : Int) = 0 := by omega
      generalize NG k = m at x0 h1 h2 hk0
      go_wp2_with fail
      go_roundw
      case rel => exact ⟨k + 1, hkj, by go_num, KW⟩
      case measure => simp [intOf]; omega
end Cr
end Go.Proofs.Ytdgmndjofbdgeaa
