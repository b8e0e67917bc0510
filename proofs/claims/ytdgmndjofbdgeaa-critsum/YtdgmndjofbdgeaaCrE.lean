/- The document's answer for fractions: how they are to one another, rounded, and as text. -/
import Derived.Test.YtdgmndjofbdgeaaRefG
import Derived.Test.YtdgmndjofbdgeaaComp
import Derived.Test.YtdgmndjofbdgeaaWholeQ
import Derived.Lib.ItoaNum
import Derived.Laws.IdiomStrings
import Derived.Test.YtdgmndjofbdgeaaAllR
import Derived.Test.YtdgmndjofbdgeaaCrD
import Derived.Test.YtdgmndjofbdgeaaLMath
import Derived.Deep.DrawnRows
import Derived.Deep.RegionHeld3
import Derived.Laws.AppendOwn
import Derived.Laws.OwnMore
import Derived.Laws.MakeOwn
import Derived.OwnWalk
namespace Go.Proofs.Ytdgmndjofbdgeaa
open Go.RowKit
attribute [local go_sem ↓] Go.wp_at_zero Go.wp_at_succ
set_option linter.unusedVariables false
set_option linter.unusedSimpArgs false
set_option maxRecDepth 10000
set_option maxHeartbeats 400000 in
theorem rcmp_core (n d n2 d2 x y x2 y2 v : Int) (w : World) (Cn : Int → Int → Int → Int → Prop) (K1 : Cn n d x y) (K2 : Cn n2 d2 x2 y2)
    (N1 : Hid (∀ (n d x y : Int), Cn n d x y → ∀ w, Calls Try.prog 30 #[.agg #[.int .i64 n, .int .i64 d]] w fun e w' => e = .returned (.agg #[.int .i64 x, .int .i64 y]) ∧ Keep w w'))
    (T2 : Hid (∀ w, Calls Try.prog 31 #[.int .i64 x, .int .i64 y2, .int .i64 x2, .int .i64 y] w fun e w' => e = .returned (.int .i64 v) ∧ Keep w w')) :
    Calls Try.prog 16 #[.agg #[.int .i64 n, .int .i64 d], .agg #[.int .i64 n2, .int .i64 d2]] w fun e w' => e = .returned (.int .i64 v) ∧ Keep w w' := by
  go_enter Try.func16, Try.ntmps16
  go_wp2_with fail
  (refine ((uq N1) _ _ _ _ K1 _).mono ?_; rintro e w2 ⟨rfl, hk⟩; obtain ⟨o1, k1, rfl⟩ := hk.ext; clear hk)
  go_wp2_with fail
  (refine ((uq N1) _ _ _ _ K2 _).mono ?_; rintro e w2 ⟨rfl, hk⟩; obtain ⟨o2, k2, rfl⟩ := hk.ext; clear hk)
  go_wp2_with fail
  (refine ((uq T2) _).mono ?_; rintro e w2 ⟨rfl, hk⟩; obtain ⟨o3, k3, rfl⟩ := hk.ext; clear hk)
  go_wp2_with fail
  go_ret
  exact ⟨rfl, by repeat (first | apply keep_ext | apply Keep.alloc | apply Keep.drew | exact Keep.refl _)⟩
theorem rfcmp_any (n d n2 d2 : Int) (w : World) (h1 : -9223372036854775808 ≤ n) (h2 : n ≤ 9223372036854775807) (h3 : -9223372036854775808 ≤ d) (h4 : d ≤ 9223372036854775807) (k1 : -9223372036854775808 ≤ n2) (k2 : n2 ≤ 9223372036854775807) (k3 : -9223372036854775808 ≤ d2) (k4 : d2 ≤ 9223372036854775807) :
    Calls Try.prog 16 #[.agg #[.int .i64 n, .int .i64 d], .agg #[.int .i64 n2, .int .i64 d2]] w fun e w' => e = .returned (.int .i64 (cm (cn n d * cd n2 d2) (cn n2 d2 * cd n d))) ∧ Keep w w' := by
  obtain ⟨r1, r2, r3, r4, r5⟩ := rt_counted n d h1 h2 h4
  obtain ⟨s1, s2, s3, s4, s5⟩ := rt_counted n2 d2 k1 k2 k4
  exact rcmp_core n d n2 d2 _ _ _ _ _ w (fun n d x y => ∀ w, Calls Try.prog 30 #[.agg #[.int .i64 n, .int .i64 d]] w fun e w' => e = .returned (.agg #[.int .i64 x, .int .i64 y]) ∧ Keep w w')
    (fun w => norm_any n d w h1 h2 h3 h4) (fun w => norm_any n2 d2 w k1 k2 k3 k4) (hide fun n d x y h => h) (hide fun w => rcompare_any _ _ _ _ w r3 r4 (by omega) s5 s3 s4 (by omega) r5)
end Go.Proofs.Ytdgmndjofbdgeaa

namespace Go.Proofs.Ytdgmndjofbdgeaa
open Go.RowKit
attribute [local go_sem ↓] Go.wp_at_zero Go.wp_at_succ
set_option linter.unusedVariables false
set_option linter.unusedSimpArgs false
set_option maxRecDepth 10000
def gt (f t : Int × Int) : Int := cm (cn f.1 f.2 * cd t.1 t.2) (cn t.1 t.2 * cd f.1 f.2)
set_option maxHeartbeats 400000 in
theorem fsum_nil (a : Option Addr) (cap : Nat) (w : World) : Calls Try.prog 26 #[.slice a 0 cap] w fun e w' => e = .returned (.tuple #[.agg #[.int .i64 0, .int .i64 1], .int .i64 0]) ∧ Keep w w' := by
  go_enter Try.func26, Try.ntmps26
  go_wp2_with fail
  (refine (nought_any _).mono ?_; rintro e w2 ⟨rfl, hk⟩; obtain ⟨o1, k1, rfl⟩ := hk.ext; clear hk)
  go_wp2_with fail
  go_loop [12] (fun i => i = .int .i64 0) (fun _ => 0)
  case atStart => rfl
  case round =>
    subst hrel
    go_wp2_with fail
    exact bodyPost_ret (v := .tuple #[.agg #[.int .i64 0, .int .i64 1], .int .i64 0]) (by simp [results, Try.results26, go_sem]) rfl ⟨rfl, by repeat (first | apply keep_ext | apply Keep.alloc | apply Keep.drew | exact Keep.refl _)⟩
set_option maxHeartbeats 400000 in
theorem rsum_nil (a : Option Addr) (cap : Nat) (w : World) : Calls Try.prog 15 #[.slice a 0 cap] w fun e w' => e = .returned (.tuple #[.agg #[.int .i64 0, .int .i64 1], .int .i64 0]) ∧ Keep w w' := by
  go_enter Try.func15, Try.ntmps15
  go_wp2_with fail
  go_loop [5] (fun i => i = .int .i64 0) (fun _ => 0)
  case atStart => rfl
  case round =>
    subst hrel
    go_wp2_with fail
    exact bodyPost_ret (v := .tuple #[.agg #[.int .i64 0, .int .i64 1], .int .i64 0]) (by simp [results, Try.results15, go_sem]) rfl ⟨rfl, by repeat (first | apply keep_ext | apply Keep.alloc | apply Keep.drew | exact Keep.refl _)⟩
end Go.Proofs.Ytdgmndjofbdgeaa

namespace Go.Proofs.Ytdgmndjofbdgeaa
open Go.RowKit
attribute [local go_sem ↓] Go.wp_at_zero Go.wp_at_succ
set_option linter.unusedVariables false
set_option linter.unusedSimpArgs false
set_option maxRecDepth 10000
namespace Cr
theorem fsumC : SumC 26 := by
  intro v L w hv hn
  obtain ⟨a, cap, rfl, h⟩ := hv
  rcases Nat.eq_zero_or_pos L.length with h0 | h0
  · obtain rfl : L = [] := List.eq_nil_of_length_eq_zero h0
    exact fsum_nil a cap w
  · obtain ⟨ad, rfl, hF⟩ := h h0
    exact fsum_core ad L cap w hn hF _ _ _ (hide rfl) (hide fun w => nought_any w) (hide fun t f h1 h2 h3 h4 w => fadd_any t.1 t.2 f.1 f.2 w h1.1 h1.2 h2.1 h2.2 h3.1 h3.2 h4.1 h4.2)
theorem rsumC : SumC 15 := by
  intro v L w hv hn
  obtain ⟨a, cap, rfl, h⟩ := hv
  rcases Nat.eq_zero_or_pos L.length with h0 | h0
  · obtain rfl : L = [] := List.eq_nil_of_length_eq_zero h0
    exact rsum_nil a cap w
  · obtain ⟨ad, rfl, hF⟩ := h h0
    exact rsum_core ad L cap w hn hF _ _ _ (hide rfl) (hide fun t f h1 h2 h3 h4 w => rfadd_any t.1 t.2 f.1 f.2 w h1.1 h1.2 h2.1 h2.2 h3.1 h3.2 h4.1 h4.2)
theorem mem_getD {L : List (Int × Int)} {k : Nat} (hk : k < L.length) : L.getD k (0, 0) ∈ L := by rw [List.getD_eq_getElem?_getD, List.getElem?_eq_getElem hk]; exact List.getElem_mem hk
theorem gstC : GstC 25 := by
  intro v L w hv hn hi
  obtain ⟨a, cap, rfl, h⟩ := hv
  refine greatest_core a cap L w hn (hide fun k hk => ?_) (hide fun i j hi' hj w => ?_)
  · obtain ⟨ad, e, hF⟩ := h (by omega)
    obtain ⟨b, _, _, c0, c1⟩ := hF k hk
    exact ⟨ad, e, b, c0, c1⟩
  · obtain ⟨h1, h2⟩ := hi _ (mem_getD hi')
    obtain ⟨h3, h4⟩ := hi _ (mem_getD hj)
    exact fcmp_any _ _ _ _ w h1.1 h1.2 h2.1 h2.2 h3.1 h3.2 h4.1 h4.2
/-- the ratios of a ring's phases by the document: 0/1 of one that is not there -/
def rr1 (A : List UInt8 → Int) (R : List (Int × Int)) (nm : List UInt8) : Int × Int := if 0 ≤ A nm then R.getD (A nm).toNat (0, 0) else (0, 1)
def rrt (A : List UInt8 → Int) (R : List (Int × Int)) (T : List (List UInt8)) : List (Int × Int) := T.map (rr1 A R)
theorem rrt_more (A : List UInt8 → Int) (R : List (Int × Int)) (T : List (List UInt8)) (k : Nat) (hk : k < T.length) : rrt A R (T.take (k + 1)) = rrt A R (T.take k) ++ [rr1 A R (T.getD k [])] := by
  unfold rrt
  rw [List.take_add_one, List.map_append, List.getElem?_eq_getElem hk, List.getD_eq_getElem?_getD, List.getElem?_eq_getElem hk]
  simp
set_option maxHeartbeats 4000000 in
theorem rrow_core (s : ByteArray) (x1 : Option Addr) (n1 c1 : Nat) (x2 : Option Addr) (n2 c2 : Nat) (x3 : Option Addr) (n3 c3 : Nat) (x4 : Option Addr) (n4 c4 : Nat) (x5 : Option Addr) (n5 c5 : Nat) (p : Int) (fr : Bool) (xr : Option Addr) (T : List (List UInt8)) (cr : Nat) (xf : Option Addr) (cf : Nat) (R : List (Int × Int)) (A : List UInt8 → Int) (w : World) (hn : T.length ≤ 1000) (hR : R.length ≤ 1000)
    (HC : Hid (∀ k, k < T.length → ∃ ad, xr = some ad ∧ ad.block < w.heap.size ∧ w.cell? (ad.add k) = some (.string (sv (T.getD k [])))))
    (HF : Hid (∀ k, k < R.length → ∃ ad, xf = some ad ∧ ad.block < w.heap.size ∧ w.cell? (ad.add (k * 2)) = some (.int .i64 (R.getD k (0, 0)).1) ∧ w.cell? ⟨(ad.add (k * 2)).block, (ad.add (k * 2)).off + 1, none⟩ = some (.int .i64 (R.getD k (0, 0)).2)))
    (HA : Hid (∀ nm, A nm < (R.length : Int)))
    (TP : Hid (∀ nm w', Keep w w' → Calls Try.prog 29 #[.agg #[.string s, .slice x1 n1 c1, .slice x2 n2 c2, .slice x3 n3 c3, .slice x4 n4 c4, .slice x5 n5 c5, .int .i64 p], .string (sv nm)] w' fun e w'' => e = .returned (.int .i64 (A nm)) ∧ Keep w' w'')) :
    Calls Try.prog 27 #[.agg #[.string s, .slice x1 n1 c1, .slice x2 n2 c2, .slice x3 n3 c3, .slice x4 n4 c4, .slice x5 n5 c5, .int .i64 p], .agg #[.bool fr, .slice xr T.length cr], .slice xf R.length cf] w (Fq (rrt A R T) w) := by
  obtain ⟨i0, hi0, hz00, hz01, hz02⟩ := info_f infoF
  obtain ⟨nr, hnr⟩ : ∃ n, T.length = n := ⟨_, rfl⟩
  rw [hnr] at HC hn ⊢
  have HNR := hide hnr
  clear hnr
  obtain ⟨nf, hnf⟩ : ∃ n, R.length = n := ⟨_, rfl⟩
  rw [hnf] at HF HA hR ⊢
  clear hnf
  have hnw0 := heap_alloc_new w (.cells #[.string s, .slice x1 n1 c1, .slice x2 n2 c2, .slice x3 n3 c3, .slice x4 n4 c4, .slice x5 n5 c5, .int .i64 p] 28)
  have hnw1 := heap_alloc_new (w.alloc (.cells #[.string s, .slice x1 n1 c1, .slice x2 n2 c2, .slice x3 n3 c3, .slice x4 n4 c4, .slice x5 n5 c5, .int .i64 p] 28)) (.cells #[.bool fr, .slice xr nr cr] 70)
  have K0 := hide (((Keep.refl w).alloc (.cells #[.string s, .slice x1 n1 c1, .slice x2 n2 c2, .slice x3 n3 c3, .slice x4 n4 c4, .slice x5 n5 c5, .int .i64 p] 28)).alloc (.cells #[.bool fr, .slice xr nr cr] 70))
  have hnwa : ((w.alloc (.cells #[.string s, .slice x1 n1 c1, .slice x2 n2 c2, .slice x3 n3 c3, .slice x4 n4 c4, .slice x5 n5 c5, .int .i64 p] 28)).alloc (.cells #[.bool fr, .slice xr nr cr] 70)).heap[w.heap.size]? = some (.cells #[.string s, .slice x1 n1 c1, .slice x2 n2 c2, .slice x3 n3 c3, .slice x4 n4 c4, .slice x5 n5 c5, .int .i64 p] 28 (0, 0)) := by rw [heap_alloc_old _ _ (by simp)]; exact hnw0
  rw [World.size_alloc] at hnw1
  clear hnw0
  go_enter Try.func27, Try.ntmps27
  go_upto_region 1 with fail
  generalize (w.alloc (.cells #[.string s, .slice x1 n1 c1, .slice x2 n2 c2, .slice x3 n3 c3, .slice x4 n4 c4, .slice x5 n5 c5, .int .i64 p] 28)).alloc (.cells #[.bool fr, .slice xr nr cr] 70) = w0 at hnwa hnw1 K0 ⊢
  obtain ⟨q0, HQ0⟩ : ∃ q, Hid (w.heap.size = q) := ⟨_, hide rfl⟩
  rw [uq HQ0] at hnwa hnw1 ⊢
  have HX0 : Hid (∀ w' : World, Keep w0 w' → (w'.cell? ⟨q0, 0, none⟩ = some (.string s) ∧ w'.cell? ⟨q0, 1, none⟩ = some (.slice x1 n1 c1) ∧ w'.cell? ⟨q0, 2, none⟩ = some (.slice x2 n2 c2) ∧ w'.cell? ⟨q0, 3, none⟩ = some (.slice x3 n3 c3) ∧ w'.cell? ⟨q0, 4, none⟩ = some (.slice x4 n4 c4) ∧ w'.cell? ⟨q0, 5, none⟩ = some (.slice x5 n5 c5) ∧ w'.cell? ⟨q0, 6, none⟩ = some (.int .i64 p)) ∧ w'.cell? ⟨q0 + 1, 0, none⟩ = some (.bool fr) ∧ w'.cell? ⟨q0 + 1, 1, none⟩ = some (.slice xr nr cr)) := hide (fun w' k9 => by
    have h1 := k9.block q0 (Array.getElem?_eq_some_iff.1 hnwa).1
    rw [hnwa] at h1
    have h2 := k9.block (q0 + 1) (Array.getElem?_eq_some_iff.1 hnw1).1
    rw [hnw1] at h2
    refine ⟨⟨?_, ?_, ?_, ?_, ?_, ?_, ?_⟩, ?_, ?_⟩ <;> simp [World.cell?, h1, h2])
  clear hnwa hnw1
  go_wp2_with fail
  go_loopw [7, 8] (fun vs vi wr => ∃ k : Nat, k ≤ nr ∧ vi = .int .i64 (k : Int) ∧ Hid (wr.ownsRow w0.heap.size 32 2 vs k (fcs (rrt A R (T.take k)))) ∧ Hid (Keep w0 wr)) (fun vs vi _ => nr - (intOf vi).toNat)
  case atStart => exact ⟨0, Nat.zero_le _, rfl, hide (World.ownsRow_nil _ _ _ _), hide (Keep.refl _)⟩
  case round =>
    obtain ⟨k, hk, rfl, HOW, KW⟩ := hrel
    obtain ⟨⟨z0, z1, z2, z3, z4, z5, z6⟩, g0, g1⟩ := (uq HX0) wr (uq KW)
    by_cases hlt : k < nr
    · have li : (k : Int) < (nr : Int) := by omega
      have KWW := hide ((uq K0).trans (uq KW))
      obtain ⟨ad, rfl, hb, e0⟩ := (uq HC) k hlt
      have y0 := V.far_cell (uq KWW) (by rw [V.add_block9]; exact hb) e0
      clear e0
      have TK := hide (fun w9 (k9 : Keep wr w9) => (uq TP) (T.getD k []) w9 ((uq KWW).trans k9))
      have HM := hide (rrt_more A R T k (by have := uq HNR; omega))
      have hA := (uq HA) (T.getD k [])
      rw [rr1] at HM
      generalize T.getD k [] = nm at y0 TK HM hA
      generalize A nm = a at TK HM hA
      have HS : Hid (∀ w' : World, Keep wr w' → w'.cell? ⟨q0, 0, none⟩ = some (.string s) ∧ w'.cell? ⟨q0, 1, none⟩ = some (.slice x1 n1 c1) ∧ w'.cell? ⟨q0, 2, none⟩ = some (.slice x2 n2 c2) ∧ w'.cell? ⟨q0, 3, none⟩ = some (.slice x3 n3 c3) ∧ w'.cell? ⟨q0, 4, none⟩ = some (.slice x4 n4 c4) ∧ w'.cell? ⟨q0, 5, none⟩ = some (.slice x5 n5 c5) ∧ w'.cell? ⟨q0, 6, none⟩ = some (.int .i64 p) ∧ w'.cell? ⟨q0 + 1, 0, none⟩ = some (.bool fr) ∧ w'.cell? ⟨q0 + 1, 1, none⟩ = some (.slice (some ad) nr cr) ∧ w'.cell? (ad.add k) = some (.string (sv nm))) := hide (fun w' k9 => by
        obtain ⟨⟨a0, a1, a2, a3, a4, a5, a6⟩, b0, b1⟩ := (uq HX0) w' ((uq KW).trans k9)
        exact ⟨a0, a1, a2, a3, a4, a5, a6, b0, b1, V.far_cell k9 (by rw [V.add_block9]; exact Nat.lt_of_lt_of_le hb (Below.size (uq KWW))) y0⟩)
      go_upto_region 5 with fail
      clear z0 z1 z2 z3 z4 z5 z6 g0 g1 y0
      refine wp_region_held_drew (S := fun w' => w'.cell? ⟨q0, 0, none⟩ = some (.string s) ∧ w'.cell? ⟨q0, 1, none⟩ = some (.slice x1 n1 c1) ∧ w'.cell? ⟨q0, 2, none⟩ = some (.slice x2 n2 c2) ∧ w'.cell? ⟨q0, 3, none⟩ = some (.slice x3 n3 c3) ∧ w'.cell? ⟨q0, 4, none⟩ = some (.slice x4 n4 c4) ∧ w'.cell? ⟨q0, 5, none⟩ = some (.slice x5 n5 c5) ∧ w'.cell? ⟨q0, 6, none⟩ = some (.int .i64 p) ∧ w'.cell? ⟨q0 + 1, 0, none⟩ = some (.bool fr) ∧ w'.cell? ⟨q0 + 1, 1, none⟩ = some (.slice (some ad) nr cr) ∧ w'.cell? (ad.add k) = some (.string (sv nm))) (by kernel_rfl) (by exact (uq HS) _ (by repeat (first | apply Keep.drew | exact Keep.refl _))) (fun hHeld => ?_)
      refine tkk 0 18 hHeld ?_; try simp only [Act.put, Ya, Yb, Yc]
      refine tkk 1 19 hHeld ?_; try simp only [Act.put, Ya, Yb, Yc]
      refine tkk 2 20 hHeld ?_; try simp only [Act.put, Ya, Yb, Yc]
      refine tkk 3 21 hHeld ?_; try simp only [Act.put, Ya, Yb, Yc]
      refine tkk 4 22 hHeld ?_; try simp only [Act.put, Ya, Yb, Yc]
      refine tkk 5 23 hHeld ?_; try simp only [Act.put, Ya, Yb, Yc]
      refine rdyy 6 (fun K hK => ?_)
      go_simp
      clear hHeld
      (refine ((uq TK) _ ((Keep.refl wr).drew)).mono ?_; rintro e w2 ⟨rfl, hk9⟩; have K2 := hide hk9; clear hk9)
      try go_wp2_with fail
      refine hK.out _ _ ?_ (fun hHeld => ?_)
      · exact (uq HS) _ ((Keep.refl wr).drew.trans (uq K2))
      clear hK K
      try simp only [Act.put, Ya, Yb, Yc]
      refine tkk 7 9 hHeld ?_; try simp only [Act.put, Ya, Yb, Yc]
      refine wpAnyH_done (by kernel_rfl) ?_ _
      clear hHeld
      have KD2 := hide ((Keep.refl wr).drew.trans (uq K2))
      have KW2 := hide ((uq KW).trans (uq KD2))
      have HOW2 := hide (own_k (uq HOW) (uq KD2))
      have hsz := Below.size (uq KW2)
      clear HOW
      by_cases ha : 0 ≤ a
      · rw [if_pos ha] at HM
        obtain ⟨m, rfl⟩ : ∃ m : Nat, a = (m : Int) := ⟨a.toNat, by omega⟩
        rw [Int.toNat_natCast] at HM
        obtain ⟨af, rfl, hbf, f0, f1⟩ := (uq HF) m (by omega)
        have u0 := V.far_cell ((uq K0).trans (uq KW2)) (by rw [V.add_block9]; exact hbf) f0
        have u1 := V.far_cell ((uq K0).trans (uq KW2)) (by show (af.add (m * 2)).block < _; rw [V.add_block9]; exact hbf) f1
        have lb : (af.add (m * 2)).block < w2.heap.size := by rw [V.add_block9]; exact Nat.lt_of_lt_of_le hbf (Below.size ((uq K0).trans (uq KW2)))
        clear f0 f1 hbf
        have lm : (m : Int) < (nf : Int) := hA
        generalize R.getD m (0, 0) = f at u0 u1 HM
        obtain ⟨fx, fy⟩ := f
        simp only at u0 u1
        go_wp2_with (at_builtin; refine wpList_append_own _ rfl _ _ 29 rfl w0.heap.size 32 i0 _ 2 16 Try.underlying29 hi0 hz00 hz01 hz02 rfl (by decide) _ _ _ rfl (((uq HOW2).alloc _).alloc _) ⟨w2.heap.size + 1, 0, none⟩ 1 1 [.int .i64 fx, .int .i64 fy] rfl rfl (new_v1 w2 _ [.int .i64 fx, .int .i64 fy] _) (by simp [Value.oneCell']) (by unfold maxLen; omega) (by omega) (by simp; omega) ?_; intro v' w4 hown' hgrow hnil; have HOWN := hide hown'; have HG := hide hgrow; have HK4 : Hid (Keep w0 w4) := hide (Below.grown (((uq KW2).alloc _).alloc _) hgrow (by simp; omega) (fun j ej => ((uq HOW2).lt j ej).1)); clear hown' hgrow hnil)
        go_roundw
        case rel => exact ⟨k + 1, hlt, by go_num, hide (by rw [uq HM, fcs_app]; exact uq HOWN), HK4⟩
        case measure => simp [intOf]; omega
      · rw [if_neg ha] at HM
        have hneg : a < 0 := by omega
        go_wp2_with (at_builtin; refine wpList_append_own _ rfl _ _ 29 rfl w0.heap.size 32 i0 _ 2 16 Try.underlying29 hi0 hz00 hz01 hz02 rfl (by decide) _ _ _ rfl (((uq HOW2).alloc _).alloc _) ⟨w2.heap.size + 1, 0, none⟩ 1 1 [.int .i64 0, .int .i64 1] rfl rfl (new_v1 w2 _ [.int .i64 0, .int .i64 1] _) (by simp [Value.oneCell']) (by unfold maxLen; omega) (by omega) (by simp; omega) ?_; intro v' w4 hown' hgrow hnil; have HOWN := hide hown'; have HG := hide hgrow; have HK4 : Hid (Keep w0 w4) := hide (Below.grown (((uq KW2).alloc _).alloc _) hgrow (by simp; omega) (fun j ej => ((uq HOW2).lt j ej).1)); clear hown' hgrow hnil)
        go_roundw
        case rel => exact ⟨k + 1, hlt, by go_num, hide (by rw [uq HM, fcs_app]; exact uq HOWN), HK4⟩
        case measure => simp [intOf]; omega
    · have li : ¬ (k : Int) < (nr : Int) := by omega
      obtain rfl : k = nr := by omega
      have HT : Hid (T.take k = T) := hide (by rw [← uq HNR]; exact List.take_length)
      have HL : Hid ((rrt A R T).length = k) := hide (by unfold rrt; rw [List.length_map]; exact uq HNR)
      go_wp2_with fail
      go_ret
      refine ⟨_, rfl, (uq K0).trans (uq KW), ?_⟩
      have h := own_mono (uq HOW) (Below.size (uq K0))
      rw [uq HT] at h
      rw [uq HL]
      exact h
end Cr
end Go.Proofs.Ytdgmndjofbdgeaa
