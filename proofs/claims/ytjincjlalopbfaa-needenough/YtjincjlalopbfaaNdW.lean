/- The greatest of no fractions, and of two. -/
import Derived.Test.YtjincjlalopbfaaAllW
import Derived.Test.YtjincjlalopbfaaWholeQ
import Derived.Test.YtjincjlalopbfaaKMath
import Derived.Deep.DrawnRows
import Derived.Deep.RegionHeld3
namespace Go.Proofs.Ytjincjlalopbfaa
open Go.RowKit
attribute [local go_sem ↓] Go.wp_at_zero Go.wp_at_succ
set_option linter.unusedVariables false
set_option linter.unusedSimpArgs false
set_option maxRecDepth 10000
namespace AX
theorem ft_keep {w wr wc : World} {B : Nat} {x y : Int} (h : Ft w wr B x y) (hk : Keep wr wc) : Ft w wc B x y := by
  obtain ⟨h1, h2, h3, h4, h5, h6, h7, h8, h9, h10, h11, h12⟩ := h
  have hs := Below.size hk
  refine ⟨h1.trans hk, by omega, h3, by omega, ?_, ?_, ?_, ?_, ?_, ?_, ?_, ?_⟩
  · rw [Below.cell (p := ⟨B, 0, none⟩) hk h4]; exact h5
  · rw [Below.cell (p := ⟨B, 1, none⟩) hk h4]; exact h6
  · rw [Below.frozen (p := ⟨B, 0, none⟩) hk h4]; exact h7
  · rw [Below.frozen (p := ⟨B, 1, none⟩) hk h4]; exact h8
  · rw [Below.cell (p := ⟨w.heap.size, 0, none⟩) hk h2]; exact h9
  · rw [Below.cell (p := ⟨w.heap.size, 1, none⟩) hk h2]; exact h10
  · rw [Below.frozen (p := ⟨w.heap.size, 0, none⟩) hk h2]; exact h11
  · rw [Below.frozen (p := ⟨w.heap.size, 1, none⟩) hk h2]; exact h12
theorem add_two (ad : Addr) (k : Nat) : ad.add ((k + 1) * 2) = ⟨ad.block, ad.off + 2 + k * 2, none⟩ := by
  unfold Addr.add
  rw [if_neg (by omega)]
  have : ad.off + (k + 1) * 2 = ad.off + 2 + k * 2 := by omega
  rw [this]
/-- the greatest one of all -/
def mxA : List (Int × Int) → Int × Int
  | [] => (0, 1)
  | f :: r => mx (cn f.1 f.2, cd f.1 f.2) r
theorem mxA_some {L : List (Int × Int)} (h : 0 < L.length) : mxA L = mx (cn (L.getD 0 (0, 0)).1 (L.getD 0 (0, 0)).2, cd (L.getD 0 (0, 0)).1 (L.getD 0 (0, 0)).2) (L.drop 1) := by
  cases L with
  | nil => simp at h
  | cons f r => rfl
theorem cn_in {n d : Int} (h1 : In n) (h2 : In d) : In (cn n d) ∧ In (cd n d) := by
  obtain ⟨r1, r2, r3, r4, r5⟩ := rt_counted n d h1.1 h1.2 h2.2
  exact ⟨⟨r3, r4⟩, by omega, r5⟩
def gt (f t : Int × Int) : Int := cm (cn f.1 f.2 * cd t.1 t.2) (cn t.1 t.2 * cd f.1 f.2)
set_option maxHeartbeats 400000 in
theorem fmax_nil (a : Option Addr) (cap : Nat) (w : World) : Calls Try.prog 23 #[.slice a 0 cap] w fun e w' => e = .returned (.agg #[.int .i64 0, .int .i64 1]) ∧ Keep w w' := by
  go_enter Try.func23, Try.ntmps23
  go_wp2_with fail
  (refine (nought_any _).mono ?_; rintro e w2 ⟨rfl, hk⟩; obtain ⟨o1, k1, rfl⟩ := hk.ext; clear hk)
  go_wp2_with fail
  exact bodyPost_ret (v := .agg #[.int .i64 0, .int .i64 1]) (by simp [results, Try.results23, go_sem]) rfl ⟨rfl, by repeat (first | apply keep_ext | apply Keep.alloc | apply Keep.drew | exact Keep.refl _)⟩
set_option maxHeartbeats 2000000 in
theorem fmax_many (ad : Addr) (L : List (Int × Int)) (cap : Nat) (w : World) (hn : L.length ≤ 50) (hn0 : 0 < L.length) (hcap : L.length ≤ cap) (hcm : cap ≤ 9223372036854775807) (hF : Fs w ad L) (X Y : Int) (HS : Hid (mxA L = (X, Y))) (h2 : 2 ≤ L.length)
    (CN : Hid (∀ (f : Int × Int), In f.1 → In f.2 → ∀ w, Calls Try.prog 48 #[.agg #[.int .i64 f.1, .int .i64 f.2]] w fun e w' => e = .returned (.agg #[.int .i64 (cn f.1 f.2), .int .i64 (cd f.1 f.2)]) ∧ Keep w w'))
    (CM : Hid (∀ (f t : Int × Int), In f.1 → In f.2 → In t.1 → In t.2 → ∀ w, Calls Try.prog 49 #[.agg #[.int .i64 f.1, .int .i64 f.2], .agg #[.int .i64 t.1, .int .i64 t.2]] w fun e w' => e = .returned (.int .i64 (gt f t)) ∧ Keep w w')) :
    Calls Try.prog 23 #[.slice (some ad) L.length cap] w fun e w' => e = .returned (.agg #[.int .i64 X, .int .i64 Y]) ∧ Keep w w' := by
  have hq0 := hF 0 hn0
  have CN0 := hide (uq CN (L.getD 0 (0, 0)) hq0.2.1 hq0.2.2.1)
  have i0 := cn_in hq0.2.1 hq0.2.2.1
  have HS1 : Hid (mx (cn (L.getD 0 (0, 0)).1 (L.getD 0 (0, 0)).2, cd (L.getD 0 (0, 0)).1 (L.getD 0 (0, 0)).2) (L.drop (0 + 1)) = (X, Y)) := by
    have h := uq HS
    rw [mxA_some hn0] at h
    exact hide h
  generalize cn (L.getD 0 (0, 0)).1 (L.getD 0 (0, 0)).2 = t0 at *
  generalize cd (L.getD 0 (0, 0)).1 (L.getD 0 (0, 0)).2 = s0 at *
  generalize (L.getD 0 (0, 0)).1 = f0 at *
  generalize (L.getD 0 (0, 0)).2 = g0 at *
  obtain ⟨_, _, _, q4, q5⟩ := hq0
  have ea : ad.add (0 * 2) = ad := by simp [Addr.add]
  rw [ea] at q4 q5
  have hlb : ((L.length : Int) == 0) = false := beq_eq_false_iff_ne.2 (by omega)
  have hl1 : (1 : Int) ≤ (L.length : Int) := by omega
  have hc1 : ¬ cap = 1 := by omega
  have hc2 : ¬ cap - 1 = 0 := by omega
  clear ea HS
  go_enter Try.func23, Try.ntmps23
  go_wp2_with fail
  (refine ((uq CN0) _).mono ?_; rintro e w2 ⟨rfl, hk⟩; obtain ⟨o1, k1, rfl⟩ := hk.ext; clear hk)
  go_wp2_with fail
  obtain ⟨B, hB⟩ : ∃ B, B = w.heap.size + 1 + o1.size := ⟨_, rfl⟩
  rw [← hB]
  have HB := hide hB
  clear hB
  go_loopw [17] (fun iv wr => ∃ (k : Nat) (t : Int × Int), iv = .int .i64 (k : Int) ∧ k + 1 ≤ L.length ∧ In t.1 ∧ In t.2 ∧ Hid (mx t (L.drop (k + 1)) = (X, Y)) ∧ Ft w wr B t.1 t.2) (fun iv _ => L.length - (intOf iv).toNat)
  case atStart =>
    refine ⟨0, (t0, s0), rfl, by omega, i0.1, i0.2, HS1, ?_⟩
    have hB := uq HB
    subst hB
    refine ⟨by repeat (first | apply keep_ext | apply Keep.alloc | exact Keep.refl _), ?_, ?_, ?_, ?_, ?_, ?_, ?_, ?_, ?_, ?_, ?_⟩ <;> simp [go_sem] <;> omega
  case round =>
    obtain ⟨k, t, rfl, hk, ht1, ht2, HI, hft⟩ := hrel
    clear q4 q5
    by_cases hlt : k + 1 < L.length
    · obtain ⟨q1, q2, q3, q4, q5⟩ := (hF.keep hft.1) (k + 1) hlt
      rw [add_two] at q4 q5
      have CMk := hide (uq CM (L.getD (k + 1) (0, 0)) t q2 q3 ht1 ht2)
      have CNk := hide (uq CN (L.getD (k + 1) (0, 0)) q2 q3)
      have ik := cn_in q2 q3
      have my : 0 < gt (L.getD (k + 1) (0, 0)) t → _ := mx_yes (t := t) hlt
      have mn : ¬ 0 < gt (L.getD (k + 1) (0, 0)) t → _ := mx_no (t := t) hlt
      rw [uq HI] at my mn
      have MY := hide my
      have MN := hide mn
      clear my mn
      generalize gt (L.getD (k + 1) (0, 0)) t = gv at *
      generalize cn (L.getD (k + 1) (0, 0)).1 (L.getD (k + 1) (0, 0)).2 = nx at *
      generalize cd (L.getD (k + 1) (0, 0)).1 (L.getD (k + 1) (0, 0)).2 = ny at *
      generalize (L.getD (k + 1) (0, 0)).1 = fx at *
      generalize (L.getD (k + 1) (0, 0)).2 = fy at *
      obtain ⟨tx, ty⟩ := t
      simp only at *
      have hfc := hide hft
      obtain ⟨h1, h2', h3, h4, c0, c1, z0, z1, r0, r1, y0, y1⟩ := hft
      have h1' := hide h1
      have hlc : (k : Int) < ((L.length - 1 : Nat) : Int) := by omega
      have hlc2 : (k : Int) < (L.length : Int) - 1 := by omega
      clear q1 q2 q3 h1
      by_cases hg : 0 < gv
      · have HN : Hid (mx (nx, ny) (L.drop (k + 1 + 1)) = (X, Y)) := hide (uq MY hg).symm
        clear MY MN HI
        go_wp2_with fail
        (refine ((uq CMk) _).mono ?_; rintro e w2 ⟨rfl, hk2⟩; obtain ⟨o2, k2, rfl⟩ := hk2.ext; clear hk2)
        have b1 : B < wr.heap.size + 1 := by omega
        have b2 : B < wr.heap.size + 1 + o2.size := by omega
        have d1 : w.heap.size < wr.heap.size + 1 := by omega
        have d2 : w.heap.size < wr.heap.size + 1 + o2.size := by omega
        have ne1 : ¬ B = w.heap.size := by omega
        have ne2 : ¬ w.heap.size = B := by omega
        go_wp2_with fail
        (refine ((uq CNk) _).mono ?_; rintro e w2 ⟨rfl, hk2⟩; obtain ⟨o3, k3, rfl⟩ := hk2.ext; clear hk2)
        have b3 : B < wr.heap.size + 1 + (o2.size + o3.size) := by omega
        have d3 : w.heap.size < wr.heap.size + 1 + (o2.size + o3.size) := by omega
        go_wp2_with fail
        go_roundw
        case rel =>
          refine ⟨k + 1, (nx, ny), by go_num, by omega, ik.1, ik.2, HN, ?_⟩
          refine ⟨?_, ?_, h3, ?_, ?_, ?_, ?_, ?_, ?_, ?_, ?_, ?_⟩
          · repeat (first | exact uq h1' | apply keep_ext | apply Keep.alloc | apply Keep.drew | (refine keep_setB _ _ _ h3 ?_))
          all_goals simp [go_sem, b1, b2, b3, d1, d2, d3, ne1, ne2, h2', h4, c0, c1, r0, r1, y0, y1, z0, z1]
        case measure => simp [intOf]; omega
      · have HN : Hid (mx (tx, ty) (L.drop (k + 1 + 1)) = (X, Y)) := hide (uq MN hg).symm
        have hgb : decide (0 < gv) = false := by simpa using hg
        clear MY MN HI CNk
        go_wp2_with fail
        (refine ((uq CMk) _).mono ?_; rintro e w2 ⟨rfl, hk2⟩; obtain ⟨o2, k2, rfl⟩ := hk2.ext; clear hk2)
        go_wp2_with fail
        go_roundw
        case rel => exact ⟨k + 1, (tx, ty), by go_num, by omega, ht1, ht2, HN, ft_keep (uq hfc) (by repeat (first | apply keep_ext | apply Keep.alloc | apply Keep.drew | exact Keep.refl _))⟩
        case measure => simp [intOf]; omega
    · have hz := mx_end (t := t) (show L.length ≤ k + 1 by omega)
      rw [uq HI] at hz
      obtain ⟨tx, ty⟩ := t
      simp only [Prod.mk.injEq] at hz
      obtain ⟨rfl, rfl⟩ := hz
      obtain ⟨h1, h2', h3, h4, c0, c1, z0, z1, r0, r1, y0, y1⟩ := hft
      simp only at *
      have hlc : ¬ (k : Int) < ((L.length - 1 : Nat) : Int) := by omega
      have hlc2 : ¬ (k : Int) < (L.length : Int) - 1 := by omega
      have h1' := hide h1
      clear HI h1
      go_wp2_with fail
      exact bodyPost_ret (v := .agg #[.int .i64 X, .int .i64 Y]) (by simp [results, Try.results23, go_sem, r0, r1, h2']) rfl ⟨rfl, by repeat (first | exact uq h1' | apply keep_ext | apply Keep.alloc | apply Keep.drew | (refine keep_set0 _ _ ?_))⟩
/-- the greater one of two -/
def mx2 (a b : Int × Int) : Int × Int := mxA [a, b]
theorem fmax_two (W : World) (b : Nat) (x y u v : Int) (hb : b < W.heap.size) (c0 : W.cell? ⟨b, 0, none⟩ = some (.int .i64 x)) (c1 : W.cell? ⟨b, 1, none⟩ = some (.int .i64 y)) (c2 : W.cell? ⟨b, 2, none⟩ = some (.int .i64 u)) (c3 : W.cell? ⟨b, 3, none⟩ = some (.int .i64 v)) (hx : In x) (hy : In y) (hu : In u) (hv : In v) :
    Calls Try.prog 23 #[.slice (some ⟨b, 0, none⟩) 2 2] W fun e w' => e = .returned (.agg #[.int .i64 (mx2 (x, y) (u, v)).1, .int .i64 (mx2 (x, y) (u, v)).2]) ∧ Keep W w' := by
  refine fmax_many ⟨b, 0, none⟩ [(x, y), (u, v)] 2 W (by simp) (by simp) (by simp) (by omega) ?_ _ _ (hide rfl) (by simp) (hide fun f h1 h2 w => counted_any f.1 f.2 w h1.1 h1.2 h2.1 h2.2) (hide fun f t h1 h2 h3 h4 w => fcmp_any f.1 f.2 t.1 t.2 w h1.1 h1.2 h2.1 h2.2 h3.1 h3.2 h4.1 h4.2)
  intro k hk
  simp at hk
  rcases (show k = 0 ∨ k = 1 by omega) with rfl | rfl
  · exact ⟨hb, hx, hy, by simpa [Addr.add] using c0, by simpa [Addr.add] using c1⟩
  · exact ⟨hb, hu, hv, by simpa [Addr.add] using c2, by simpa [Addr.add] using c3⟩
end AX
end Go.Proofs.Ytjincjlalopbfaa

namespace Go.Proofs.Ytjincjlalopbfaa
open Go.RowKit
attribute [local go_sem ↓] Go.wp_at_zero Go.wp_at_succ
set_option linter.unusedVariables false
set_option linter.unusedSimpArgs false
set_option maxRecDepth 10000
namespace Nd
theorem infoW : (Try.prog.info? 48).map (fun i => (i.zero, i.size, i.bytes)) = some (some (.agg #[.string ⟨#[]⟩, .int .i64 0, .int .i64 0]), 3, 32) := by kernel_rfl
/-- the walks with a phase, of the first m -/
def wlk (T U : Nat → List UInt8) (V F : Nat → Int) (nm : List UInt8) : Nat → List (List UInt8 × Int × Int)
  | 0 => []
  | m + 1 => wlk T U V F nm m ++ (if U m == nm then [(T m, V m, F m)] else [])
theorem wlk_len (T U : Nat → List UInt8) (V F : Nat → Int) (nm : List UInt8) : ∀ m, (wlk T U V F nm m).length ≤ m
  | 0 => Nat.le_refl _
  | m + 1 => by
    have := wlk_len T U V F nm m
    rw [wlk, List.length_append]
    split <;> simp <;> omega
def wcs : List (List UInt8 × Int × Int) → List Value
  | [] => []
  | x :: L => .string (sv x.1) :: .int .i64 x.2.1 :: .int .i64 x.2.2 :: wcs L
theorem wcs_app : ∀ (L M : List (List UInt8 × Int × Int)), wcs (L ++ M) = wcs L ++ wcs M
  | [], M => rfl
  | x :: L, M => by rw [List.cons_append, wcs, wcs, wcs_app L M]; rfl
def Wq (L : List (List UInt8 × Int × Int)) (w : World) (e : Ending) (w' : World) : Prop := ∃ v, e = .returned v ∧ Keep w w' ∧ w'.ownsRow w.heap.size 48 3 v L.length (wcs L)
theorem new_v (w : World) (vs : List Value) (t : TypeId) : ∀ j u, vs[j]? = some u → (w.alloc (.cells vs.toArray t)).cell? ((⟨w.heap.size, 0, none⟩ : Addr).add j) = some u := by
  intro j u hj
  rw [W.add_pl, Nat.zero_add]
  have h := heap_alloc_new w (.cells vs.toArray t)
  simp only [World.cell?, h]
  simpa using hj
theorem own_cell {w : World} {B : Nat} {e : TypeId} {z n : Nat} {v : Value} {xs : List Value} (h : w.ownsRow B e z v n xs) (hn : 0 < n) : ∃ g cap, v = .slice (some ⟨g, 0, none⟩) n cap ∧ g < w.heap.size ∧ B ≤ g ∧ n ≤ cap ∧ ∀ j u, xs[j]? = some u → w.cell? ⟨g, j, none⟩ = some u := by
  rcases h.2 with ⟨rfl, h0⟩ | ⟨g, cap, cur, rfl, hb, hg, hc, hm, hs, ht⟩
  · omega
  · refine ⟨g, cap, rfl, (Array.getElem?_eq_some_iff.1 hg).1, hb, hc, fun j u hu => ?_⟩
    rw [← ht, List.getElem?_take] at hu
    simp only [World.cell?, hg]
    split at hu
    · simpa using hu
    · cases hu
set_option maxHeartbeats 4000000 in
theorem walksWith_core (s : ByteArray) (x1 : Option Addr) (n1 c1 : Nat) (x2 : Option Addr) (n2 c2 : Nat) (x3 : Option Addr) (n3 c3 : Nat) (x4 : Option Addr) (n4 c4 : Nat) (x5 : Option Addr) (n5 c5 : Nat) (p : Int) (T U : Nat → List UInt8) (V2 V3 V4 P F FE : Nat → Int) (nm : List UInt8) (w : World) (hn : n2 ≤ 1000)
    (HC : Hid (∀ k, k < n2 → ∃ ad, x2 = some ad ∧ ad.block < w.heap.size ∧ w.cell? (ad.add (k * 6)) = some (.string (sv (T k))) ∧ w.cell? ⟨(ad.add (k * 6)).block, (ad.add (k * 6)).off + 1, none⟩ = some (.string (sv (U k))) ∧ w.cell? ⟨(ad.add (k * 6)).block, (ad.add (k * 6)).off + 2, none⟩ = some (.int .i64 (V2 k)) ∧ w.cell? ⟨(ad.add (k * 6)).block, (ad.add (k * 6)).off + 3, none⟩ = some (.int .i64 (V3 k)) ∧ w.cell? ⟨(ad.add (k * 6)).block, (ad.add (k * 6)).off + 4, none⟩ = some (.int .i64 (V4 k)) ∧ w.cell? ⟨(ad.add (k * 6)).block, (ad.add (k * 6)).off + 5, none⟩ = some (.int .i64 (P k))))
    (TF : Hid (∀ m, m < n2 → ∀ w', Calls Try.prog 50 #[.int .i64 (V2 m), .int .i64 (V3 m)] w' fun e w'' => e = .returned (.tuple #[.int .i64 (F m), .int .i64 (FE m)]) ∧ Keep w' w'')) :
    Calls Try.prog 24 #[.agg #[.string s, .slice x1 n1 c1, .slice x2 n2 c2, .slice x3 n3 c3, .slice x4 n4 c4, .slice x5 n5 c5, .int .i64 p], .string (sv nm)] w (Wq (wlk T U V4 F nm n2) w) := by
  obtain ⟨i0, hi0, hz0, hz1, hz2⟩ := W.info_f infoW
  have hnw0 := heap_alloc_new w (.cells #[.string s, .slice x1 n1 c1, .slice x2 n2 c2, .slice x3 n3 c3, .slice x4 n4 c4, .slice x5 n5 c5, .int .i64 p] 40)
  have K0 := hide ((Keep.refl w).alloc (.cells #[.string s, .slice x1 n1 c1, .slice x2 n2 c2, .slice x3 n3 c3, .slice x4 n4 c4, .slice x5 n5 c5, .int .i64 p] 40))
  go_enter Try.func24, Try.ntmps24
  go_upto_region 1 with fail
  generalize w.alloc (.cells #[.string s, .slice x1 n1 c1, .slice x2 n2 c2, .slice x3 n3 c3, .slice x4 n4 c4, .slice x5 n5 c5, .int .i64 p] 40) = w0 at hnw0 K0 ⊢
  obtain ⟨q0, HQ0⟩ : ∃ q, Hid (w.heap.size = q) := ⟨_, hide rfl⟩
  rw [uq HQ0] at hnw0 ⊢
  have HX0 : Hid (∀ w' : World, Keep w0 w' → w'.cell? ⟨q0, 0, none⟩ = some (.string s) ∧ w'.cell? ⟨q0, 1, none⟩ = some (.slice x1 n1 c1) ∧ w'.cell? ⟨q0, 2, none⟩ = some (.slice x2 n2 c2) ∧ w'.cell? ⟨q0, 3, none⟩ = some (.slice x3 n3 c3) ∧ w'.cell? ⟨q0, 4, none⟩ = some (.slice x4 n4 c4) ∧ w'.cell? ⟨q0, 5, none⟩ = some (.slice x5 n5 c5) ∧ w'.cell? ⟨q0, 6, none⟩ = some (.int .i64 p)) := hide (fun w' k9 => by
    have h1 := k9.block q0 (Array.getElem?_eq_some_iff.1 hnw0).1
    rw [hnw0] at h1
    refine ⟨?_, ?_, ?_, ?_, ?_, ?_, ?_⟩ <;> simp [World.cell?, h1])
  clear hnw0
  obtain ⟨z0, z1, z2, z3, z4, z5, z6⟩ := (uq HX0) w0 (Keep.refl _)
  go_wp2_with fail
  clear z0 z1 z2 z3 z4 z5 z6
  go_loopw [5, 13] (fun vs vi wr => ∃ k : Nat, k ≤ n2 ∧ vi = .int .i64 (k : Int) ∧ Hid (wr.ownsRow w0.heap.size 48 3 vs (wlk T U V4 F nm k).length (wcs (wlk T U V4 F nm k))) ∧ Hid (Keep w0 wr)) (fun vs vi _ => n2 - (intOf vi).toNat)
  case atStart => exact ⟨0, Nat.zero_le _, rfl, hide (World.ownsRow_nil _ _ _ _), hide (Keep.refl _)⟩
  case round =>
    obtain ⟨k, hk, rfl, HOW, KW⟩ := hrel
    by_cases hlt : k < n2
    · have li : (k : Int) < (n2 : Int) := by omega
      have KWW := hide ((uq K0).trans (uq KW))
      obtain ⟨ad, rfl, hb, e0, e1, e2, e3, e4, e5⟩ := (uq HC) k hlt
      have y0 := V.far_cell (uq KWW) (by rw [V.add_block9]; exact hb) e0
      have y1 := V.far_cell (uq KWW) (by show (ad.add (k * 6)).block < _; rw [V.add_block9]; exact hb) e1
      have y2 := V.far_cell (uq KWW) (by show (ad.add (k * 6)).block < _; rw [V.add_block9]; exact hb) e2
      have y3 := V.far_cell (uq KWW) (by show (ad.add (k * 6)).block < _; rw [V.add_block9]; exact hb) e3
      have y4 := V.far_cell (uq KWW) (by show (ad.add (k * 6)).block < _; rw [V.add_block9]; exact hb) e4
      have y5 := V.far_cell (uq KWW) (by show (ad.add (k * 6)).block < _; rw [V.add_block9]; exact hb) e5
      clear e0 e1 e2 e3 e4 e5
      have hbx := heap_alloc_new wr (.cells #[.string (sv (T k)), .string (sv (U k)), .int .i64 (V2 k), .int .i64 (V3 k), .int .i64 (V4 k), .int .i64 (P k)] 72)
      have KB := hide ((uq KW).alloc (.cells #[.string (sv (T k)), .string (sv (U k)), .int .i64 (V2 k), .int .i64 (V3 k), .int .i64 (V4 k), .int .i64 (P k)] 72))
      have KA := hide ((Keep.refl wr).alloc (.cells #[.string (sv (T k)), .string (sv (U k)), .int .i64 (V2 k), .int .i64 (V3 k), .int .i64 (V4 k), .int .i64 (P k)] 72))
      go_upto_region 5 with fail
      generalize wr.alloc (.cells #[.string (sv (T k)), .string (sv (U k)), .int .i64 (V2 k), .int .i64 (V3 k), .int .i64 (V4 k), .int .i64 (P k)] 72) = wa at hbx KB KA ⊢
      obtain ⟨q, HQ⟩ : ∃ q, Hid (wr.heap.size = q) := ⟨_, hide rfl⟩
      rw [uq HQ] at hbx ⊢
      have HXq : Hid (∀ w' : World, Keep wa w' → w'.cell? ⟨q, 0, none⟩ = some (.string (sv (T k))) ∧ w'.cell? ⟨q, 1, none⟩ = some (.string (sv (U k))) ∧ w'.cell? ⟨q, 2, none⟩ = some (.int .i64 (V2 k)) ∧ w'.cell? ⟨q, 3, none⟩ = some (.int .i64 (V3 k)) ∧ w'.cell? ⟨q, 4, none⟩ = some (.int .i64 (V4 k)) ∧ w'.cell? ⟨q, 5, none⟩ = some (.int .i64 (P k))) := hide (fun w' k9 => by
        have h1 := k9.block q (Array.getElem?_eq_some_iff.1 hbx).1
        rw [hbx] at h1
        refine ⟨?_, ?_, ?_, ?_, ?_, ?_⟩ <;> simp [World.cell?, h1])
      clear hbx y0 y1 y2 y3 y4 y5
      obtain ⟨f0, f1, f2, f3, f4, f5⟩ := (uq HXq) wa (Keep.refl wa)
      have e9 := V.sv_beq (U k) nm
      have HW1 : Hid (wlk T U V4 F nm (k + 1) = wlk T U V4 F nm k ++ (if U k == nm then [(T k, V4 k, F k)] else [])) := hide rfl
      have hln := wlk_len T U V4 F nm k
      cases hB : (U k == nm)
      · rw [hB] at e9 HW1
        have HW2 : Hid (wlk T U V4 F nm (k + 1) = wlk T U V4 F nm k) := hide (by rw [uq HW1]; simp)
        clear HW1
        go_wp2_with fail
        go_roundw
        case rel => exact ⟨k + 1, hlt, by go_num, hide (by rw [uq HW2]; exact W.own_k (uq HOW) (uq KA)), KB⟩
        case measure => simp [intOf]; omega
      · rw [hB] at e9 HW1
        have HW2 : Hid (wlk T U V4 F nm (k + 1) = wlk T U V4 F nm k ++ [(T k, V4 k, F k)]) := hide (by rw [uq HW1]; simp)
        clear HW1
        have TK := hide ((uq TF) k hlt)
        go_wp2_with fail
        (refine ((uq TK) _).mono ?_; rintro e w2 ⟨rfl, hk9⟩; have K2 := hide hk9; clear hk9)
        clear f0 f1 f2 f3 f4 f5
        obtain ⟨f0, f1, f2, f3, f4, f5⟩ := (uq HXq) w2 (uq K2)
        have KW2 := hide ((uq KB).trans (uq K2))
        have HOW2 := hide (W.own_k (uq HOW) ((uq KA).trans (uq K2)))
        have hsz := Below.size (uq KW2)
        obtain ⟨L, hL⟩ : ∃ L, (wlk T U V4 F nm k).length = L := ⟨_, rfl⟩
        rw [hL] at HOW2 hln
        have HL := hide hL
        clear hL HOW
        go_wp2_with (at_builtin; refine wpList_append_own _ rfl _ _ 44 rfl w0.heap.size 48 i0 _ 3 32 Try.underlying44 hi0 hz0 hz1 hz2 rfl (by decide) _ _ _ rfl ((uq HOW2).alloc _) ⟨w2.heap.size, 0, none⟩ 1 1 [.string (sv (T k)), .int .i64 (V4 k), .int .i64 (F k)] rfl rfl (new_v w2 [.string (sv (T k)), .int .i64 (V4 k), .int .i64 (F k)] _) (by simp [Value.oneCell']) (by unfold maxLen; omega) (by omega) (by simp; omega) ?_; intro v' w4 hown' hgrow hnil; have HOWN := hide hown'; have HK4 : Hid (Keep w0 w4) := hide (Below.grown ((uq KW2).alloc _) hgrow (by simp; omega) (fun j ej => ((uq HOW2).lt j ej).1)); clear hown' hgrow hnil)
        go_roundw
        case rel => exact ⟨k + 1, hlt, by go_num, hide (by rw [uq HW2, List.length_append, wcs_app, uq HL]; exact uq HOWN), HK4⟩
        case measure => simp [intOf]; omega
    · have li : ¬ (k : Int) < (n2 : Int) := by omega
      obtain rfl : k = n2 := by omega
      go_wp2_with fail
      go_ret
      exact ⟨_, rfl, (uq K0).trans (uq KW), W.own_mono (uq HOW) (Below.size (uq K0))⟩
/-- how ratiosOf ends -/
def Rp0 (n : Nat) (X Y Z : Nat → Int) (w : World) (e : Ending) (w' : World) : Prop := ∃ v z, e = .returned (.tuple #[v, .int .i64 z]) ∧ Keep w w' ∧ z = W.fz Z 0 n ∧ ((¬ z = 0 ∧ v = .slice none 0 0) ∨ (z = 0 ∧ w'.ownsRow 0 23 2 v n (W.cp X Y n)))
set_option maxHeartbeats 4000000 in
theorem ratiosOf_core (s : ByteArray) (x1 : Option Addr) (n1 c1 : Nat) (x2 : Option Addr) (n2 c2 : Nat) (x3 : Option Addr) (n3 c3 : Nat) (x4 : Option Addr) (n4 c4 : Nat) (x5 : Option Addr) (n5 c5 : Nat) (p : Int) (pn pd : Int) (X Y Z : Nat → Int) (w : World)
    (TT : Hid (∀ (w' : World) (b : Nat), Keep w w' → b < w'.heap.size → (w'.cell? ⟨b, 0, none⟩ = some (.string s) ∧ w'.cell? ⟨b, 1, none⟩ = some (.slice x1 n1 c1) ∧ w'.cell? ⟨b, 2, none⟩ = some (.slice x2 n2 c2) ∧ w'.cell? ⟨b, 3, none⟩ = some (.slice x3 n3 c3) ∧ w'.cell? ⟨b, 4, none⟩ = some (.slice x4 n4 c4) ∧ w'.cell? ⟨b, 5, none⟩ = some (.slice x5 n5 c5) ∧ w'.cell? ⟨b, 6, none⟩ = some (.int .i64 p)) → Calls Try.prog 22 #[.agg #[.int .i64 0, .int .i64 0, .int .i64 0, .int .i64 pn, .int .i64 pd, .slice (some ⟨b, 0, none⟩) 1 1, .slice none 0 0, .int .i64 0, .int .i64 0]] w' (W.Tq 1 (fun _ => n1) (fun _ => X) (fun _ => Y) (fun _ => Z) w'))) :
    Calls Try.prog 11 #[.agg #[.string s, .slice x1 n1 c1, .slice x2 n2 c2, .slice x3 n3 c3, .slice x4 n4 c4, .slice x5 n5 c5, .int .i64 p], .agg #[.int .i64 pn, .int .i64 pd]] w (Rp0 n1 X Y Z w) := by
  have hnw0 := heap_alloc_new w (.cells #[.string s, .slice x1 n1 c1, .slice x2 n2 c2, .slice x3 n3 c3, .slice x4 n4 c4, .slice x5 n5 c5, .int .i64 p] 40)
  have hnw1 := heap_alloc_new (w.alloc (.cells #[.string s, .slice x1 n1 c1, .slice x2 n2 c2, .slice x3 n3 c3, .slice x4 n4 c4, .slice x5 n5 c5, .int .i64 p] 40)) (.cells #[.int .i64 pn, .int .i64 pd] 23)
  have K0 := hide (((Keep.refl w).alloc (.cells #[.string s, .slice x1 n1 c1, .slice x2 n2 c2, .slice x3 n3 c3, .slice x4 n4 c4, .slice x5 n5 c5, .int .i64 p] 40)).alloc (.cells #[.int .i64 pn, .int .i64 pd] 23))
  have hnwa : ((w.alloc (.cells #[.string s, .slice x1 n1 c1, .slice x2 n2 c2, .slice x3 n3 c3, .slice x4 n4 c4, .slice x5 n5 c5, .int .i64 p] 40)).alloc (.cells #[.int .i64 pn, .int .i64 pd] 23)).heap[w.heap.size]? = some (.cells #[.string s, .slice x1 n1 c1, .slice x2 n2 c2, .slice x3 n3 c3, .slice x4 n4 c4, .slice x5 n5 c5, .int .i64 p] 40 (0, 0)) := by rw [heap_alloc_old _ _ (by simp)]; exact hnw0
  rw [World.size_alloc] at hnw1
  clear hnw0
  go_enter Try.func11, Try.ntmps11
  go_upto_region 1 with fail
  generalize (w.alloc (.cells #[.string s, .slice x1 n1 c1, .slice x2 n2 c2, .slice x3 n3 c3, .slice x4 n4 c4, .slice x5 n5 c5, .int .i64 p] 40)).alloc (.cells #[.int .i64 pn, .int .i64 pd] 23) = w0 at hnwa hnw1 K0 ⊢
  obtain ⟨q0, HQ0⟩ : ∃ q, Hid (w.heap.size = q) := ⟨_, hide rfl⟩
  rw [uq HQ0] at hnwa hnw1 ⊢
  have HX0 : Hid (∀ w' : World, Keep w0 w' → (w'.cell? ⟨q0, 0, none⟩ = some (.string s) ∧ w'.cell? ⟨q0, 1, none⟩ = some (.slice x1 n1 c1) ∧ w'.cell? ⟨q0, 2, none⟩ = some (.slice x2 n2 c2) ∧ w'.cell? ⟨q0, 3, none⟩ = some (.slice x3 n3 c3) ∧ w'.cell? ⟨q0, 4, none⟩ = some (.slice x4 n4 c4) ∧ w'.cell? ⟨q0, 5, none⟩ = some (.slice x5 n5 c5) ∧ w'.cell? ⟨q0, 6, none⟩ = some (.int .i64 p)) ∧ w'.cell? ⟨q0 + 1, 0, none⟩ = some (.int .i64 pn) ∧ w'.cell? ⟨q0 + 1, 1, none⟩ = some (.int .i64 pd)) := hide (fun w' k9 => by
    have h1 := k9.block q0 (Array.getElem?_eq_some_iff.1 hnwa).1
    rw [hnwa] at h1
    have h2 := k9.block (q0 + 1) (Array.getElem?_eq_some_iff.1 hnw1).1
    rw [hnw1] at h2
    refine ⟨⟨?_, ?_, ?_, ?_, ?_, ?_, ?_⟩, ?_, ?_⟩ <;> simp [World.cell?, h1, h2])
  clear hnwa hnw1
  obtain ⟨⟨z0, z1, z2, z3, z4, z5, z6⟩, g0, g1⟩ := (uq HX0) w0 (Keep.refl _)
  have hnb := heap_alloc_new w0 (.cells #[.string s, .slice x1 n1 c1, .slice x2 n2 c2, .slice x3 n3 c3, .slice x4 n4 c4, .slice x5 n5 c5, .int .i64 p] 40)
  have KB := hide ((uq K0).alloc (.cells #[.string s, .slice x1 n1 c1, .slice x2 n2 c2, .slice x3 n3 c3, .slice x4 n4 c4, .slice x5 n5 c5, .int .i64 p] 40))
  have TK := hide ((uq TT) (w0.alloc (.cells #[.string s, .slice x1 n1 c1, .slice x2 n2 c2, .slice x3 n3 c3, .slice x4 n4 c4, .slice x5 n5 c5, .int .i64 p] 40)) w0.heap.size (uq KB) (by simp) (by refine ⟨?_, ?_, ?_, ?_, ?_, ?_, ?_⟩ <;> simp [go_sem]))
  clear hnb
  go_wp2_with fail
  (refine (uq TK).mono ?_; rintro e w2 ⟨v, z, rfl, hk9, hz, hv⟩; have K2 := hide ((uq KB).trans hk9); clear hk9)
  have HZ : Hid (z = W.fz Z 0 n1) := hide (by rw [hz]; unfold W.tz; simp only [W.fz]; split <;> simp_all)
  clear hz z0 z1 z2 z3 z4 z5 z6 g0 g1
  rcases hv with ⟨h1, rfl⟩ | ⟨h1, hv⟩
  · have h2 : (z != 0) = true := by simpa using h1
    have H1 := hide h1
    clear h1
    go_wp2_with fail
    go_ret2
    exact ⟨_, _, rfl, uq K2, uq HZ, .inl ⟨uq H1, rfl⟩⟩
  · subst h1
    obtain ⟨rows, ho, hr1, hr2⟩ := hv
    obtain ⟨g, cap, rfl, hg, _, hc, hcell⟩ := own_cell ho (by omega)
    obtain ⟨r0, rfl⟩ : ∃ r0, rows = [r0] := by
      match rows, hr1 with
      | [r0], _ => exact ⟨r0, rfl⟩
    have hc0 := hcell 0 r0 rfl
    have hro := hide (hr2 0 (by omega))
    clear hcell ho hr1 hr2
    go_wp2_with fail
    go_ret2
    exact ⟨_, _, rfl, uq K2, uq HZ, .inr ⟨rfl, uq hro⟩⟩
end Nd
end Go.Proofs.Ytjincjlalopbfaa
