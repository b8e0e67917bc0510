/- The document's answer for fractions: how they are to one another, rounded, and as text. -/
import Derived.Test.YtdgmndjofbdgeaaRefG
import Derived.Test.YtdgmndjofbdgeaaComp
import Derived.Test.YtdgmndjofbdgeaaWholeQ
import Derived.Lib.ItoaNum
import Derived.Laws.IdiomStrings
import Derived.Test.YtdgmndjofbdgeaaAllR
import Derived.Test.YtdgmndjofbdgeaaCrD
import Derived.Test.YtdgmndjofbdgeaaLMath
import Derived.Deep.DrawnRows
import Derived.Deep.RegionHeld3
import Derived.Laws.AppendOwn
import Derived.Laws.OwnMore
import Derived.Laws.MakeOwn
import Derived.OwnWalk
namespace Go.Proofs.Ytdgmndjofbdgeaa
open Go.RowKit
attribute [local go_sem ↓] Go.wp_at_zero Go.wp_at_succ
set_option linter.unusedVariables false
set_option linter.unusedSimpArgs false
set_option maxRecDepth 10000
set_option maxHeartbeats 400000 in
theorem rcmp_core (n d n2 d2 x y x2 y2 v : Int) (w : World) (Cn : Int → Int → Int → Int → Prop) (K1 : Cn n d x y) (K2 : Cn n2 d2 x2 y2)
    (N1 : Hid (∀ (n d x y : Int), Cn n d x y → ∀ w, Calls Try.prog 30 #[.agg #[.int .i64 n, .int .i64 d]] w fun e w' => e = .returned (.agg #[.int .i64 x, .int .i64 y]) ∧ Keep w w'))
    (T2 : Hid (∀ w, Calls Try.prog 31 #[.int .i64 x, .int .i64 y2, .int .i64 x2, .int .i64 y] w fun e w' => e = .returned (.int .i64 v) ∧ Keep w w')) :
    Calls Try.prog 16 #[.agg #[.int .i64 n, .int .i64 d], .agg #[.int .i64 n2, .int .i64 d2]] w fun e w' => e = .returned (.int .i64 v) ∧ Keep w w' := by
  go_enter Try.func16, Try.ntmps16
  go_wp2_with fail
  (refine ((uq N1) _ _ _ _ K1 _).mono ?_; rintro e w2 ⟨rfl, hk⟩; obtain ⟨o1, k1, rfl⟩ := hk.ext; clear hk)
  go_wp2_with fail
  (refine ((uq N1) _ _ _ _ K2 _).mono ?_; rintro e w2 ⟨rfl, hk⟩; obtain ⟨o2, k2, rfl⟩ := hk.ext; clear hk)
  go_wp2_with fail
  (refine ((uq T2) _).mono ?_; rintro e w2 ⟨rfl, hk⟩; obtain ⟨o3, k3, rfl⟩ := hk.ext; clear hk)
  go_wp2_with fail
  go_ret
  exact ⟨rfl, by repeat (first | apply keep_ext | apply Keep.alloc | apply Keep.drew | exact Keep.refl _)⟩
theorem rfcmp_any (n d n2 d2 : Int) (w : World) (h1 : -9223372036854775808 ≤ n) (h2 : n ≤ 9223372036854775807) (h3 : -9223372036854775808 ≤ d) (h4 : d ≤ 9223372036854775807) (k1 : -9223372036854775808 ≤ n2) (k2 : n2 ≤ 9223372036854775807) (k3 : -9223372036854775808 ≤ d2) (k4 : d2 ≤ 9223372036854775807) :
    Calls Try.prog 16 #[.agg #[.int .i64 n, .int .i64 d], .agg #[.int .i64 n2, .int .i64 d2]] w fun e w' => e = .returned (.int .i64 (cm (cn n d * cd n2 d2) (cn n2 d2 * cd n d))) ∧ Keep w w' := by
  obtain ⟨r1, r2, r3, r4, r5⟩ := rt_counted n d h1 h2 h4
  obtain ⟨s1, s2, s3, s4, s5⟩ := rt_counted n2 d2 k1 k2 k4
  exact rcmp_core n d n2 d2 _ _ _ _ _ w (fun n d x y => ∀ w, Calls Try.prog 30 #[.agg #[.int .i64 n, .int .i64 d]] w fun e w' => e = .returned (.agg #[.int .i64 x, .int .i64 y]) ∧ Keep w w')
    (fun w => norm_any n d w h1 h2 h3 h4) (fun w => norm_any n2 d2 w k1 k2 k3 k4) (hide fun n d x y h => h) (hide fun w => rcompare_any _ _ _ _ w r3 r4 (by omega) s5 s3 s4 (by omega) r5)
end Go.Proofs.Ytdgmndjofbdgeaa

namespace Go.Proofs.Ytdgmndjofbdgeaa
open Go.RowKit
attribute [local go_sem ↓] Go.wp_at_zero Go.wp_at_succ
set_option linter.unusedVariables false
set_option linter.unusedSimpArgs false
set_option maxRecDepth 10000
def gt (f t : Int × Int) : Int := cm (cn f.1 f.2 * cd t.1 t.2) (cn t.1 t.2 * cd f.1 f.2)
set_option maxHeartbeats 400000 in
theorem fsum_nil (a : Option Addr) (cap : Nat) (w : World) : Calls Try.prog 26 #[.slice a 0 cap] w fun e w' => e = .returned (.tuple #[.agg #[.int .i64 0, .int .i64 1], .int .i64 0]) ∧ Keep w w' := by
  go_enter Try.func26, Try.ntmps26
  go_wp2_with fail
  (refine (nought_any _).mono ?_; rintro e w2 ⟨rfl, hk⟩; obtain ⟨o1, k1, rfl⟩ := hk.ext; clear hk)
  go_wp2_with fail
  go_loop [12] (fun i => i = .int .i64 0) (fun _ => 0)
  case atStart => rfl
  case round =>
    subst hrel
    go_wp2_with fail
    exact bodyPost_ret (v := .tuple #[.agg #[.int .i64 0, .int .i64 1], .int .i64 0]) (by simp [results, Try.results26, go_sem]) rfl ⟨rfl, by repeat (first | apply keep_ext | apply Keep.alloc | apply Keep.drew | exact Keep.refl _)⟩
set_option maxHeartbeats 400000 in
theorem rsum_nil (a : Option Addr) (cap : Nat) (w : World) : Calls Try.prog 15 #[.slice a 0 cap] w fun e w' => e = .returned (.tuple #[.agg #[.int .i64 0, .int .i64 1], .int .i64 0]) ∧ Keep w w' := by
  go_enter Try.func15, Try.ntmps15
  go_wp2_with fail
  go_loop [5] (fun i => i = .int .i64 0) (fun _ => 0)
  case atStart => rfl
  case round =>
    subst hrel
    go_wp2_with fail
    exact bodyPost_ret (v := .tuple #[.agg #[.int .i64 0, .int .i64 1], .int .i64 0]) (by simp [results, Try.results15, go_sem]) rfl ⟨rfl, by repeat (first | apply keep_ext | apply Keep.alloc | apply Keep.drew | exact Keep.refl _)⟩
end Go.Proofs.Ytdgmndjofbdgeaa

namespace Go.Proofs.Ytdgmndjofbdgeaa
open Go.RowKit
attribute [local go_sem ↓] Go.wp_at_zero Go.wp_at_succ
set_option linter.unusedVariables false
set_option linter.unusedSimpArgs false
set_option maxRecDepth 10000
namespace Cr
theorem fsumC : SumC 26 := by
  intro v L w hv hn
  obtain ⟨a, cap, rfl, h⟩ := hv
  rcases Nat.eq_zero_or_pos L.length with h0 | h0
  · obtain rfl : L = [] := List.eq_nil_of_length_eq_zero h0
    exact fsum_nil a cap w
  · obtain ⟨ad, rfl, hF⟩ := h h0
    exact fsum_core ad L cap w hn hF _ _ _ (hide rfl) (hide fun w => nought_any w) (hide fun t f h1 h2 h3 h4 w => fadd_any t.1 t.2 f.1 f.2 w h1.1 h1.2 h2.1 h2.2 h3.1 h3.2 h4.1 h4.2)
theorem mem_getD {L : List (Int × Int)} {k : Nat} (hk : k < L.length) : L.getD k (0, 0) ∈ L := by rw [List.getD_eq_getElem?_getD, List.getElem?_eq_getElem hk]; exact List.getElem_mem hk
theorem gstC : GstC 25 := by
  intro v L w hv hn hi
  obtain ⟨a, cap, rfl, h⟩ := hv
  refine greatest_core a cap L w hn (hide fun k hk => ?_) (hide fun i j hi' hj w => ?_)
  · obtain ⟨ad, e, hF⟩ := h (by omega)
    obtain ⟨b, _, _, c0, c1⟩ := hF k hk
    exact ⟨ad, e, b, c0, c1⟩
  · obtain ⟨h1, h2⟩ := hi _ (mem_getD hi')
    obtain ⟨h3, h4⟩ := hi _ (mem_getD hj)
    exact fcmp_any _ _ _ _ w h1.1 h1.2 h2.1 h2.2 h3.1 h3.2 h4.1 h4.2
end Cr
end Go.Proofs.Ytdgmndjofbdgeaa

namespace Go.Proofs.Ytdgmndjofbdgeaa
open Go.RowKit
attribute [local go_sem ↓] Go.wp_at_zero Go.wp_at_succ
set_option linter.unusedVariables false
set_option linter.unusedSimpArgs false
set_option maxRecDepth 10000
namespace Cr
/-- what the first n tell, one behind the other -/
def wy (f : Nat → List Int) : Nat → List Int
  | 0 => []
  | k + 1 => wy f k ++ f k
theorem wy_len (f : Nat → List Int) (b : Nat) (h : ∀ k, (f k).length ≤ b) : ∀ n, (wy f n).length ≤ n * b
  | 0 => by simp [wy]
  | n + 1 => by
    have h1 := wy_len f b h n
    have h2 := h n
    rw [wy, List.length_append, Nat.succ_mul]
    omega
/-- a box stays as it is where a row of unlike things grows -/
theorem box_g {w w' : World} {B B' : Nat} {e t : TypeId} {arr : Array Value} {fr : Nat × Nat} {z n : Nat} {v : Value} {xs : List Value} (h : w.heap[B]? = some (.cells arr t fr)) (h' : w.ownsRow B' e z v n xs) (he : t ≠ e) (hg : w.grownBy w' v.ownBlock) : w'.heap[B]? = some (.cells arr t fr) := by
  rw [hg.block B (Array.getElem?_eq_some_iff.1 h).1 (fun e2 => by
    obtain ⟨cur, hc⟩ := own_blk h' B e2.symm
    rw [h] at hc
    injection hc with hc
    injection hc with h3 h4
    exact he h4)]
  exact h
theorem wy_more (A : List UInt8 → Int) (WI : List Int) (T : List (List UInt8)) (k : Nat) (hk : k < T.length) : WI ++ plc A (T.take (k + 1)) = (WI ++ plc A (T.take k)) ++ (if 0 ≤ A (T.getD k []) then [A (T.getD k [])] else []) := by
  rw [plc_more A T k hk, List.append_assoc]
set_option maxHeartbeats 8000000 in
theorem way_core (s : ByteArray) (x1 : Option Addr) (n1 c1 : Nat) (x2 : Option Addr) (n2 c2 : Nat) (x3 : Option Addr) (n3 c3 : Nat) (x4 : Option Addr) (n4 c4 : Nat) (x5 : Option Addr) (n5 c5 : Nat) (p : Int) (xi : Option Addr) (ci : Nat) (G : Nat → Nat) (XG : Nat → Option Addr) (NG CG : Nat → Nat) (FR : Nat → Bool) (XR : Nat → Option Addr) (T : Nat → List (List UInt8)) (CR : Nat → Nat) (A : List UInt8 → Int) (w : World) (hn : n4 ≤ 50)
    (HT : Hid (∀ k, (T k).length ≤ 1000))
    (HG : Hid (∀ k, k < n4 → G k < NG k))
    (HI : Hid (∀ k, k < n4 → ∃ ad, xi = some ad ∧ ad.block < w.heap.size ∧ w.cell? (ad.add k) = some (.int .i64 ((G k : Nat) : Int))))
    (HC : Hid (∀ k, k < n4 → ∃ ad, x4 = some ad ∧ ad.block < w.heap.size ∧ w.cell? (ad.add k) = some (.slice (XG k) (NG k) (CG k))))
    (HR : Hid (∀ k, k < n4 → ∃ ad, XG k = some ad ∧ ad.block < w.heap.size ∧ w.cell? (ad.add (G k * 2)) = some (.bool (FR k)) ∧ w.cell? ⟨(ad.add (G k * 2)).block, (ad.add (G k * 2)).off + 1, none⟩ = some (.slice (XR k) (T k).length (CR k))))
    (HN : Hid (∀ k j, k < n4 → j < (T k).length → ∃ ad, XR k = some ad ∧ ad.block < w.heap.size ∧ w.cell? (ad.add j) = some (.string (sv ((T k).getD j [])))))
    (TP : Hid (∀ nm w', Keep w w' → Calls Try.prog 29 #[.agg #[.string s, .slice x1 n1 c1, .slice x2 n2 c2, .slice x3 n3 c3, .slice x4 n4 c4, .slice x5 n5 c5, .int .i64 p], .string (sv nm)] w' fun e w'' => e = .returned (.int .i64 (A nm)) ∧ Keep w' w'')) :
    Calls Try.prog 14 #[.agg #[.string s, .slice x1 n1 c1, .slice x2 n2 c2, .slice x3 n3 c3, .slice x4 n4 c4, .slice x5 n5 c5, .int .i64 p], .slice xi n4 ci] w (Iq (wy (fun k => plc A (T k)) n4) w) := by
  obtain ⟨i0, hi0, hz00, hz01, hz02⟩ := info_f infoI
  have hnw0 := heap_alloc_new w (.cells #[.string s, .slice x1 n1 c1, .slice x2 n2 c2, .slice x3 n3 c3, .slice x4 n4 c4, .slice x5 n5 c5, .int .i64 p] 28)
  have K0 := hide ((Keep.refl w).alloc (.cells #[.string s, .slice x1 n1 c1, .slice x2 n2 c2, .slice x3 n3 c3, .slice x4 n4 c4, .slice x5 n5 c5, .int .i64 p] 28))
  go_enter Try.func14, Try.ntmps14
  go_upto_region 1 with fail
  generalize w.alloc (.cells #[.string s, .slice x1 n1 c1, .slice x2 n2 c2, .slice x3 n3 c3, .slice x4 n4 c4, .slice x5 n5 c5, .int .i64 p] 28) = w0 at hnw0 K0 ⊢
  obtain ⟨q0, HQ0⟩ : ∃ q, Hid (w.heap.size = q) := ⟨_, hide rfl⟩
  rw [uq HQ0] at hnw0 ⊢
  have HX0 : Hid (∀ w' : World, Keep w0 w' → w'.cell? ⟨q0, 0, none⟩ = some (.string s) ∧ w'.cell? ⟨q0, 1, none⟩ = some (.slice x1 n1 c1) ∧ w'.cell? ⟨q0, 2, none⟩ = some (.slice x2 n2 c2) ∧ w'.cell? ⟨q0, 3, none⟩ = some (.slice x3 n3 c3) ∧ w'.cell? ⟨q0, 4, none⟩ = some (.slice x4 n4 c4) ∧ w'.cell? ⟨q0, 5, none⟩ = some (.slice x5 n5 c5) ∧ w'.cell? ⟨q0, 6, none⟩ = some (.int .i64 p)) := hide (fun w' k9 => by
    have h1 := k9.block q0 (Array.getElem?_eq_some_iff.1 hnw0).1
    rw [hnw0] at h1
    refine ⟨?_, ?_, ?_, ?_, ?_, ?_, ?_⟩ <;> simp [World.cell?, h1])
  clear hnw0
  go_wp2_with fail
  go_loopw [5, 6] (fun vs vi wr => ∃ i : Nat, i ≤ n4 ∧ vi = .int .i64 (i : Int) ∧ Hid (wr.ownsRow w0.heap.size 3 1 vs (wy (fun k => plc A (T k)) i).length (ics (wy (fun k => plc A (T k)) i))) ∧ Hid (Keep w0 wr)) (fun vs vi _ => n4 - (intOf vi).toNat)
  case atStart => exact ⟨0, Nat.zero_le _, rfl, hide (World.ownsRow_nil _ _ _ _), hide (Keep.refl _)⟩
  case round =>
    obtain ⟨i, hi, rfl, HOW, KW⟩ := hrel
    obtain ⟨z0, z1, z2, z3, z4, z5, z6⟩ := (uq HX0) wr (uq KW)
    by_cases hlt : i < n4
    · have li : (i : Int) < (n4 : Int) := by omega
      have KWW := hide ((uq K0).trans (uq KW))
      obtain ⟨ag, rfl, hbg, d0⟩ := (uq HC) i hlt
      obtain ⟨ai, rfl, hbi, d1⟩ := (uq HI) i hlt
      obtain ⟨ar, ear, hbr, d2, d3⟩ := (uq HR) i hlt
      have HNi := hide (fun j => (uq HN) i j hlt)
      have hTi := (uq HT) i
      have hgi := (uq HG) i hlt
      have HW1 : Hid (wy (fun k => plc A (T k)) (i + 1) = wy (fun k => plc A (T k)) i ++ plc A (T i)) := hide rfl
      have hwl : (wy (fun k => plc A (T k)) i).length ≤ 50000 := by
        have h1 := wy_len (fun k => plc A (T k)) 1000 (fun k => Nat.le_trans (plc_len A (T k)) ((uq HT) k)) i
        have : i * 1000 ≤ 50 * 1000 := Nat.mul_le_mul_right _ (by omega)
        omega
      obtain ⟨WN, hWN⟩ : ∃ WN, wy (fun k => plc A (T k)) (i + 1) = WN := ⟨_, rfl⟩
      rw [hWN] at HW1
      have HWN := hide hWN
      clear hWN
      generalize wy (fun k => plc A (T k)) i = WI at HOW HW1 hwl
      generalize T i = TI at HNi hTi HW1 d3
      generalize G i = g at d1 d2 d3 hgi
      generalize FR i = fr at d2
      generalize XR i = xr at d3 HNi
      generalize CR i = cr at d3
      rw [ear] at d0
      have lg : (g : Int) < (NG i : Int) := by omega
      obtain ⟨nr, hnr⟩ : ∃ n, TI.length = n := ⟨_, rfl⟩
      have HNR := hide hnr
      rw [hnr] at d3 hTi HNi
      clear hnr ear
      have HS : Hid (∀ w' : World, Keep wr w' → w'.cell? ⟨q0, 4, none⟩ = some (.slice (some ag) n4 c4) ∧ w'.cell? (ag.add i) = some (.slice (some ar) (NG i) (CG i)) ∧ w'.cell? (ai.add i) = some (.int .i64 ((g : Nat) : Int)) ∧ w'.cell? (ar.add (g * 2)) = some (.bool fr) ∧ w'.cell? ⟨(ar.add (g * 2)).block, (ar.add (g * 2)).off + 1, none⟩ = some (.slice xr nr cr)) := hide (fun w' k9 => by
        have k8 := (uq KWW).trans k9
        obtain ⟨a0, a1, a2, a3, a4, a5, a6⟩ := (uq HX0) w' ((uq KW).trans k9)
        exact ⟨a4, V.far_cell k8 (by rw [V.add_block9]; exact hbg) d0, V.far_cell k8 (by rw [V.add_block9]; exact hbi) d1, V.far_cell k8 (by rw [V.add_block9]; exact hbr) d2, V.far_cell k8 (by show (ar.add (g * 2)).block < _; rw [V.add_block9]; exact hbr) d3⟩)
      clear d0 d1 d2 d3
      go_upto_region 5 with fail
      clear z0 z1 z2 z3 z4 z5 z6
      go_cut [7] (fun s7 wc => ∃ B, s7 = .pointer (some ⟨B, 0, none⟩) ∧ Keep wr wc ∧ wc.heap[B]? = some (.cells #[.bool fr, .slice xr nr cr] 70 (0, 0)))
      case first =>
        refine wp_region_held_drew (S := fun w' => w'.cell? ⟨q0, 4, none⟩ = some (.slice (some ag) n4 c4) ∧ w'.cell? (ag.add i) = some (.slice (some ar) (NG i) (CG i)) ∧ w'.cell? (ai.add i) = some (.int .i64 ((g : Nat) : Int)) ∧ w'.cell? (ar.add (g * 2)) = some (.bool fr) ∧ w'.cell? ⟨(ar.add (g * 2)).block, (ar.add (g * 2)).off + 1, none⟩ = some (.slice xr nr cr)) (by kernel_rfl) (by exact (uq HS) _ (by repeat (first | apply Keep.drew | exact Keep.refl _))) (fun hHeld => ?_)
        refine tkk 0 23 hHeld ?_; try simp only [Act.put, Ya, Yb, Yc]
        refine tkk 1 24 hHeld ?_; try simp only [Act.put, Ya, Yb, Yc]
        refine tkk 2 25 hHeld ?_; try simp only [Act.put, Ya, Yb, Yc]
        refine tkk 3 26 hHeld ?_; try simp only [Act.put, Ya, Yb, Yc]
        refine tkk 4 27 hHeld ?_; try simp only [Act.put, Ya, Yb, Yc]
        refine tkk 5 28 hHeld ?_; try simp only [Act.put, Ya, Yb, Yc]
        refine tkk 6 29 hHeld ?_; try simp only [Act.put, Ya, Yb, Yc]
        refine tkk 7 30 hHeld ?_; try simp only [Act.put, Ya, Yb, Yc]
        refine tkk 8 31 hHeld ?_; try simp only [Act.put, Ya, Yb, Yc]
        refine tkk 9 32 hHeld ?_; try simp only [Act.put, Ya, Yb, Yc]
        refine tkk 10 33 hHeld ?_; try simp only [Act.put, Ya, Yb, Yc]
        refine tkk 11 34 hHeld ?_; try simp only [Act.put, Ya, Yb, Yc]
        refine rdyy 12 (fun K hK => ?_)
        go_simp
        clear hHeld
        refine hK.out _ _ ?_ (fun hHeld => ?_)
        · exact (uq HS) _ (by repeat (first | (with_reducible exact Keep.refl _) | apply Keep.alloc | apply Keep.drew))
        clear hK K
        try simp only [Act.put, Ya, Yb, Yc]
        refine rdyy 13 (fun K hK => ?_)
        go_simp
        clear hHeld
        refine hK.out _ _ ?_ (fun hHeld => ?_)
        · exact (uq HS) _ (by repeat (first | (with_reducible exact Keep.refl _) | apply Keep.alloc | apply Keep.drew))
        clear hK K
        try simp only [Act.put, Ya, Yb, Yc]
        refine wpAnyH_done (by kernel_rfl) ?_ _
        clear hHeld
        go_wp2_with fail
        go_meet
        exact ⟨_, rfl, (by repeat (first | (with_reducible exact Keep.refl _) | apply Keep.alloc | apply Keep.drew)), by first | exact heap_alloc_new _ _ | (have h := heap_alloc_new wr.drew (.cells #[.bool fr, .slice xr nr cr] 70); simpa using h)⟩
      case rest =>
        obtain ⟨B, hs7, hkc, hcB⟩ := hcut
        subst hs7
        have KC := hide ((uq KW).trans hkc)
        have HOC := hide (own_k (uq HOW) hkc)
        have hBl : B < wc.heap.size := (Array.getElem?_eq_some_iff.1 hcB).1
        have HcB := hide hcB
        have b1 : wc.cell? ⟨B, 1, none⟩ = some (.slice xr nr cr) := by simp [World.cell?, hcB]
        clear hkc hcB HS HOW KWW
        go_wp2_with fail
        clear b1
        go_loopw [5, 8] (fun vs vk wr => ∃ k : Nat, k ≤ nr ∧ vk = .int .i64 (k : Int) ∧ Hid (wr.ownsRow w0.heap.size 3 1 vs (WI ++ plc A (TI.take k)).length (ics (WI ++ plc A (TI.take k)))) ∧ Hid (wr.heap[B]? = some (.cells #[.bool fr, .slice xr nr cr] 70 (0, 0))) ∧ Hid (Keep w0 wr)) (fun vs vk _ => nr - (intOf vk).toNat)
        case atStart => exact ⟨0, Nat.zero_le _, rfl, hide (by simpa [plc] using uq HOC), HcB, KC⟩
        case round =>
          obtain ⟨k, hk, rfl, HOW, HB, KW⟩ := hrel
          have b1 : wr.cell? ⟨B, 1, none⟩ = some (.slice xr nr cr) := by simp [World.cell?, uq HB]
          by_cases hkl : k < nr
          · have lk : (k : Int) < (nr : Int) := by omega
            have KWW := hide ((uq K0).trans (uq KW))
            obtain ⟨ad, rfl, hb, e0⟩ := (uq HNi) k hkl
            have y0 := V.far_cell (uq KWW) (by rw [V.add_block9]; exact hb) e0
            clear e0
            have TK := hide (fun w9 (k9 : Keep wr w9) => (uq TP) (TI.getD k []) w9 ((uq KWW).trans k9))
            have HM := hide (wy_more A WI TI k (by have := uq HNR; omega))
            have hwl2 : (WI ++ plc A (TI.take k)).length ≤ 60000 := by
              have h1 := plc_len A (TI.take k)
              have h2 := List.length_take_le k TI
              rw [List.length_append]
              omega
            generalize TI.getD k [] = nm at y0 TK HM
            generalize A nm = a at TK HM
            have HS : Hid (∀ w' : World, Keep wr w' → w'.cell? ⟨q0, 0, none⟩ = some (.string s) ∧ w'.cell? ⟨q0, 1, none⟩ = some (.slice x1 n1 c1) ∧ w'.cell? ⟨q0, 2, none⟩ = some (.slice x2 n2 c2) ∧ w'.cell? ⟨q0, 3, none⟩ = some (.slice x3 n3 c3) ∧ w'.cell? ⟨q0, 4, none⟩ = some (.slice (some ag) n4 c4) ∧ w'.cell? ⟨q0, 5, none⟩ = some (.slice x5 n5 c5) ∧ w'.cell? ⟨q0, 6, none⟩ = some (.int .i64 p) ∧ w'.cell? ⟨B, 0, none⟩ = some (.bool fr) ∧ w'.cell? ⟨B, 1, none⟩ = some (.slice (some ad) nr cr) ∧ w'.cell? (ad.add k) = some (.string (sv nm))) := hide (fun w' k9 => by
              obtain ⟨a0, a1, a2, a3, a4, a5, a6⟩ := (uq HX0) w' ((uq KW).trans k9)
              have h1 := k9.block B (Array.getElem?_eq_some_iff.1 (uq HB)).1
              rw [uq HB] at h1
              exact ⟨a0, a1, a2, a3, a4, a5, a6, by simp [World.cell?, h1], by simp [World.cell?, h1], V.far_cell k9 (by rw [V.add_block9]; exact Nat.lt_of_lt_of_le hb (Below.size (uq KWW))) y0⟩)
            go_upto_region 9 with fail
            clear b1 y0
            refine wp_region_held_drew (S := fun w' => w'.cell? ⟨q0, 0, none⟩ = some (.string s) ∧ w'.cell? ⟨q0, 1, none⟩ = some (.slice x1 n1 c1) ∧ w'.cell? ⟨q0, 2, none⟩ = some (.slice x2 n2 c2) ∧ w'.cell? ⟨q0, 3, none⟩ = some (.slice x3 n3 c3) ∧ w'.cell? ⟨q0, 4, none⟩ = some (.slice (some ag) n4 c4) ∧ w'.cell? ⟨q0, 5, none⟩ = some (.slice x5 n5 c5) ∧ w'.cell? ⟨q0, 6, none⟩ = some (.int .i64 p) ∧ w'.cell? ⟨B, 0, none⟩ = some (.bool fr) ∧ w'.cell? ⟨B, 1, none⟩ = some (.slice (some ad) nr cr) ∧ w'.cell? (ad.add k) = some (.string (sv nm))) (by kernel_rfl) (by exact (uq HS) _ (by repeat (first | apply Keep.drew | exact Keep.refl _))) (fun hHeld => ?_)
            refine tkk 0 42 hHeld ?_; try simp only [Act.put, Ya, Yb, Yc]
            refine tkk 1 43 hHeld ?_; try simp only [Act.put, Ya, Yb, Yc]
            refine tkk 2 44 hHeld ?_; try simp only [Act.put, Ya, Yb, Yc]
            refine tkk 3 45 hHeld ?_; try simp only [Act.put, Ya, Yb, Yc]
            refine tkk 4 46 hHeld ?_; try simp only [Act.put, Ya, Yb, Yc]
            refine tkk 5 47 hHeld ?_; try simp only [Act.put, Ya, Yb, Yc]
            refine rdyy 6 (fun K hK => ?_)
            go_simp
            clear hHeld
            (refine ((uq TK) _ ((Keep.refl wr).drew)).mono ?_; rintro e w2 ⟨rfl, hk9⟩; have K2 := hide hk9; clear hk9)
            try go_wp2_with fail
            refine hK.out _ _ ?_ (fun hHeld => ?_)
            · exact (uq HS) _ ((Keep.refl wr).drew.trans (uq K2))
            clear hK K
            try simp only [Act.put, Ya, Yb, Yc]
            refine tkk 7 9 hHeld ?_; try simp only [Act.put, Ya, Yb, Yc]
            refine wpAnyH_done (by kernel_rfl) ?_ _
            clear hHeld
            have KD2 := hide ((Keep.refl wr).drew.trans (uq K2))
            have KW2 := hide ((uq KW).trans (uq KD2))
            have HOW2 := hide (own_k (uq HOW) (uq KD2))
            have hsz := Below.size (uq KW2)
            have HB2 : Hid (w2.heap[B]? = some (.cells #[.bool fr, .slice (some ad) nr cr] 70 (0, 0))) := hide (((uq KD2).block B (Array.getElem?_eq_some_iff.1 (uq HB)).1).trans (uq HB))
            clear HOW HB HS
            by_cases ha : 0 ≤ a
            · rw [if_pos ha] at HM
              obtain ⟨L, hL⟩ : ∃ L, (WI ++ plc A (TI.take k)).length = L := ⟨_, rfl⟩
              rw [hL] at HOW2 hwl2
              have HL := hide hL
              clear hL
              go_wp2_with (at_builtin; refine wpList_append_own _ rfl _ _ 33 rfl w0.heap.size 3 i0 _ 1 8 Try.underlying33 hi0 hz00 hz01 hz02 rfl (by decide) _ _ _ rfl ((uq HOW2).alloc _) ⟨w2.heap.size, 0, none⟩ 1 1 [.int .i64 a] rfl rfl (new_v w2 [.int .i64 a] _) (by simp [Value.oneCell']) (by unfold maxLen; omega) (by omega) (by simp; omega) ?_; intro v' w4 hown' hgrow hnil; have HOWN := hide hown'; have HGR := hide hgrow; have HK4 : Hid (Keep w0 w4) := hide (Below.grown ((uq KW2).alloc _) hgrow (by simp; omega) (fun j ej => ((uq HOW2).lt j ej).1)); clear hown' hgrow hnil)
              have HB4 := hide (box_g (by rw [heap_alloc_old _ _ (Array.getElem?_eq_some_iff.1 (uq HB2)).1]; exact uq HB2) ((uq HOW2).alloc _) (by decide) (uq HGR))
              go_roundw
              case rel => exact ⟨k + 1, hkl, by go_num, hide (by rw [uq HM, List.length_append, ics_app, uq HL]; exact uq HOWN), HB4, HK4⟩
              case measure => simp [intOf]; omega
            · rw [if_neg ha, List.append_nil] at HM
              have hneg : a < 0 := by omega
              go_wp2_with fail
              go_roundw
              case rel => exact ⟨k + 1, hkl, by go_num, hide (by rw [uq HM]; exact uq HOW2), HB2, KW2⟩
              case measure => simp [intOf]; omega
          · have lk : ¬ (k : Int) < (nr : Int) := by omega
            obtain rfl : k = nr := by omega
            have HT2 : Hid (WI ++ plc A (TI.take k) = WN) := hide (by rw [← uq HNR, List.take_length]; exact (uq HW1).symm)
            rw [uq HT2] at HOW
            go_wp2_with fail
            go_roundw
            case rel => exact ⟨i + 1, hlt, by go_num, by rw [uq HWN]; exact HOW, KW⟩
            case measure => simp [intOf]; omega
    · have li : ¬ (i : Int) < (n4 : Int) := by omega
      obtain rfl : i = n4 := by omega
      go_wp2_with fail
      go_ret
      exact ⟨_, rfl, (uq K0).trans (uq KW), own_mono (uq HOW) (Below.size (uq K0))⟩
end Cr
end Go.Proofs.Ytdgmndjofbdgeaa
