/- Package crit: the ratios of a ring's phases, and the greatest of some sums. -/
import Derived.Test.YtdgmndjofbdgeaaCrA
import Derived.Test.YtdgmndjofbdgeaaLMath
import Derived.Deep.DrawnRows
import Derived.Deep.RegionHeld3
import Derived.Laws.AppendOwn
import Derived.Laws.OwnMore
import Derived.Laws.MakeOwn
import Derived.OwnWalk
namespace Go.Proofs.Ytdgmndjofbdgeaa
open Go.RowKit
attribute [local go_sem ↓] Go.wp_at_zero Go.wp_at_succ
set_option linter.unusedVariables false
set_option linter.unusedSimpArgs false
set_option maxRecDepth 10000
namespace Cr
theorem own_blk {w : World} {B : Nat} {e : TypeId} {z n : Nat} {v : Value} {xs : List Value} (h : w.ownsRow B e z v n xs) (g : Nat) (hg : v.ownBlock = some g) : ∃ cur, w.heap[g]? = some (.cells cur e (0, 0)) := by
  rcases h.2 with ⟨rfl, h0⟩ | ⟨g', cap, cur, rfl, hb, hg', hc, hm, hs, ht⟩
  · cases hg
  · simp [Value.ownBlock] at hg; subst hg; exact ⟨cur, hg'⟩
/-- rows of unlike things lie in blocks of their own -/
theorem own_two {w : World} {B B' : Nat} {e e' : TypeId} {z z' n n' : Nat} {v v' : Value} {xs xs' : List Value} (h : w.ownsRow B e z v n xs) (h' : w.ownsRow B' e' z' v' n' xs') (he : e ≠ e') (g : Nat) (hg : v.ownBlock = some g) : v'.ownBlock ≠ some g := by
  intro hg'
  obtain ⟨c, h1⟩ := own_blk h g hg
  obtain ⟨c', h2⟩ := own_blk h' g hg'
  rw [h1] at h2
  injection h2 with h2
  injection h2 with h3 h4
  exact he h4
/-- a row stays as it is where another one, of unlike things, grows -/
theorem own_g {w w' : World} {B B' : Nat} {e e' : TypeId} {z z' n n' : Nat} {v v' : Value} {xs xs' : List Value} (h : w.ownsRow B e z v n xs) (h' : w.ownsRow B' e' z' v' n' xs') (he : e ≠ e') (hg : w.grownBy w' v'.ownBlock) : w'.ownsRow B e z v n xs := by
  refine ⟨h.1, ?_⟩
  rcases h.2 with h2 | ⟨g, cap, cur, rfl, hb, hc, r⟩
  · exact .inl h2
  · refine .inr ⟨g, cap, cur, rfl, hb, ?_, r⟩
    rw [hg.block g (Array.getElem?_eq_some_iff.1 hc).1 (fun e => own_two h h' he g rfl e.symm)]
    exact hc
theorem is_at {w : World} {v : Value} {L : List Int} (h : Is w v L) : ∃ a cap, v = .slice a L.length cap ∧ ∀ k, k < L.length → ∃ ad, a = some ad ∧ ad.block < w.heap.size ∧ w.cell? (ad.add k) = some (.int .i64 (L.getD k 0)) := h
/-- the ratios at some places -/
def rts (R : List (Int × Int)) (L : List Int) : List (Int × Int) := L.map (fun a => R.getD a.toNat (0, 0))
theorem rts_more (R : List (Int × Int)) (L : List Int) (k : Nat) (hk : k < L.length) : rts R (L.take (k + 1)) = rts R (L.take k) ++ [R.getD (L.getD k 0).toNat (0, 0)] := by
  unfold rts
  rw [List.take_add_one, List.map_append, List.getElem?_eq_getElem hk, List.getD_eq_getElem?_getD (l := L), List.getElem?_eq_getElem hk]
  simp
theorem rts_len (R : List (Int × Int)) (L : List Int) : (rts R L).length = L.length := by simp [rts]
set_option maxHeartbeats 4000000 in
theorem ratiosOf_core (s : ByteArray) (x1 : Option Addr) (n1 c1 : Nat) (x2 : Option Addr) (n2 c2 : Nat) (x3 : Option Addr) (n3 c3 : Nat) (x4 : Option Addr) (n4 c4 : Nat) (x5 : Option Addr) (n5 c5 : Nat) (p : Int) (fr : Bool) (xr : Option Addr) (nr cr : Nat) (xf : Option Addr) (cf : Nat) (R : List (Int × Int)) (L : List Int) (w : World) (hn : nr ≤ 1000) (hL : L.length ≤ 1000) (hR : R.length ≤ 1000)
    (HF : Hid (∀ k, k < R.length → ∃ ad, xf = some ad ∧ ad.block < w.heap.size ∧ w.cell? (ad.add (k * 2)) = some (.int .i64 (R.getD k (0, 0)).1) ∧ w.cell? ⟨(ad.add (k * 2)).block, (ad.add (k * 2)).off + 1, none⟩ = some (.int .i64 (R.getD k (0, 0)).2)))
    (HI : Hid (∀ k, k < L.length → ∃ m : Nat, L.getD k 0 = (m : Int) ∧ m < R.length))
    (TP : Hid (∀ w', Keep w w' → Calls Try.prog 28 #[.agg #[.string s, .slice x1 n1 c1, .slice x2 n2 c2, .slice x3 n3 c3, .slice x4 n4 c4, .slice x5 n5 c5, .int .i64 p], .agg #[.bool fr, .slice xr nr cr]] w' (Iq L w'))) :
    Calls Try.prog 45 #[.agg #[.string s, .slice x1 n1 c1, .slice x2 n2 c2, .slice x3 n3 c3, .slice x4 n4 c4, .slice x5 n5 c5, .int .i64 p], .agg #[.bool fr, .slice xr nr cr], .slice xf R.length cf] w (Fq (rts R L) w) := by
  obtain ⟨i0, hi0, hz00, hz01, hz02⟩ := info_f infoF
  obtain ⟨nf, hnf⟩ : ∃ n, R.length = n := ⟨_, rfl⟩
  rw [hnf] at HF HI hR ⊢
  clear hnf
  obtain ⟨ZZ, hZhmk, hmk⟩ : ∃ ZZ : Array Value, ZZ.size = nr * 2 ∧ ∀ w, (Instr.makeSlice 29 (.int .i64 0) (.int .i64 (nr : Int))).run Try.prog w = .ok (.slice (some ⟨w.heap.size, 0, none⟩) 0 nr) (w.alloc (.cells ZZ 32)) := by
    refine ⟨madeCells (Value.agg #[.int .i64 0, .int .i64 0]).cells (nr * 2), by simp [size_madeCells], fun w => ?_⟩
    have h := run_make (P := Try.prog) w 29 32 i0 _ Try.underlying29 hi0 hz00 .i64 .i64 0 (nr : Int) (by omega) (by omega) (by rw [hz02]; omega) (by omega)
    rw [hz01] at h
    simpa using h
  have hnw0 := heap_alloc_new w (.cells #[.string s, .slice x1 n1 c1, .slice x2 n2 c2, .slice x3 n3 c3, .slice x4 n4 c4, .slice x5 n5 c5, .int .i64 p] 28)
  have hnw1 := heap_alloc_new (w.alloc (.cells #[.string s, .slice x1 n1 c1, .slice x2 n2 c2, .slice x3 n3 c3, .slice x4 n4 c4, .slice x5 n5 c5, .int .i64 p] 28)) (.cells #[.bool fr, .slice xr nr cr] 70)
  have K0 := hide (((Keep.refl w).alloc (.cells #[.string s, .slice x1 n1 c1, .slice x2 n2 c2, .slice x3 n3 c3, .slice x4 n4 c4, .slice x5 n5 c5, .int .i64 p] 28)).alloc (.cells #[.bool fr, .slice xr nr cr] 70))
  have hnwa : ((w.alloc (.cells #[.string s, .slice x1 n1 c1, .slice x2 n2 c2, .slice x3 n3 c3, .slice x4 n4 c4, .slice x5 n5 c5, .int .i64 p] 28)).alloc (.cells #[.bool fr, .slice xr nr cr] 70)).heap[w.heap.size]? = some (.cells #[.string s, .slice x1 n1 c1, .slice x2 n2 c2, .slice x3 n3 c3, .slice x4 n4 c4, .slice x5 n5 c5, .int .i64 p] 28 (0, 0)) := by rw [heap_alloc_old _ _ (by simp)]; exact hnw0
  rw [World.size_alloc] at hnw1
  clear hnw0
  go_enter Try.func45, Try.ntmps45
  go_upto_region 1 with fail
  generalize (w.alloc (.cells #[.string s, .slice x1 n1 c1, .slice x2 n2 c2, .slice x3 n3 c3, .slice x4 n4 c4, .slice x5 n5 c5, .int .i64 p] 28)).alloc (.cells #[.bool fr, .slice xr nr cr] 70) = w0 at hnwa hnw1 K0 ⊢
  obtain ⟨q0, HQ0⟩ : ∃ q, Hid (w.heap.size = q) := ⟨_, hide rfl⟩
  rw [uq HQ0] at hnwa hnw1 ⊢
  have HX0 : Hid (∀ w' : World, Keep w0 w' → (w'.cell? ⟨q0, 0, none⟩ = some (.string s) ∧ w'.cell? ⟨q0, 1, none⟩ = some (.slice x1 n1 c1) ∧ w'.cell? ⟨q0, 2, none⟩ = some (.slice x2 n2 c2) ∧ w'.cell? ⟨q0, 3, none⟩ = some (.slice x3 n3 c3) ∧ w'.cell? ⟨q0, 4, none⟩ = some (.slice x4 n4 c4) ∧ w'.cell? ⟨q0, 5, none⟩ = some (.slice x5 n5 c5) ∧ w'.cell? ⟨q0, 6, none⟩ = some (.int .i64 p)) ∧ w'.cell? ⟨q0 + 1, 0, none⟩ = some (.bool fr) ∧ w'.cell? ⟨q0 + 1, 1, none⟩ = some (.slice xr nr cr)) := hide (fun w' k9 => by
    have h1 := k9.block q0 (Array.getElem?_eq_some_iff.1 hnwa).1
    rw [hnwa] at h1
    have h2 := k9.block (q0 + 1) (Array.getElem?_eq_some_iff.1 hnw1).1
    rw [hnw1] at h2
    refine ⟨⟨?_, ?_, ?_, ?_, ?_, ?_, ?_⟩, ?_, ?_⟩ <;> simp [World.cell?, h1, h2])
  clear hnwa hnw1
  have hrow0 := hide (World.ownsRow_made (base := w0.heap.size) (e := 32) (size := 2) w0 ZZ nr (Nat.le_refl _) (by unfold maxLen; omega) hZhmk)
  obtain ⟨⟨z0, z1, z2, z3, z4, z5, z6⟩, g0, g1⟩ := (uq HX0) w0 (Keep.refl _)
  have lq0 : q0 + 1 < w0.heap.size := World.block_lt_of_cell? w0 _ g0
  have lq1 : q0 < w0.heap.size := by omega
  have KA := hide ((Keep.refl w0).alloc (.cells ZZ 32))
  have TK := hide ((uq TP) _ ((uq K0).trans (uq KA)))
  go_wp2_with fail
  (refine (uq TK).mono ?_; rintro e w2 ⟨vp, rfl, hk9, ho9⟩; have K2 := hide ((uq KA).trans hk9); have HR2 := hide (own_k (uq hrow0) hk9); have HP2 := hide ho9; clear hk9 ho9)
  clear z0 z1 z2 z3 z4 z5 z6 g0 g1 lq0 lq1 hrow0
  obtain ⟨ap, cp, rfl, _⟩ := own_cell (uq HP2)
  generalize (World.alloc w0 (.cells ZZ 32)).heap.size = pb at HP2
  go_wp2_with fail
  go_loopw [7, 18] (fun vs vi wr => ∃ k : Nat, k ≤ L.length ∧ vi = .int .i64 (k : Int) ∧ Hid (wr.ownsRow w0.heap.size 32 2 vs (rts R (L.take k)).length (fcs (rts R (L.take k)))) ∧ Hid (wr.ownsRow pb 3 1 (.slice ap L.length cp) L.length (ics L)) ∧ Hid (Keep w0 wr)) (fun vs vi _ => L.length - (intOf vi).toNat)
  case atStart => exact ⟨0, Nat.zero_le _, rfl, HR2, HP2, K2⟩
  case round =>
    obtain ⟨k, hk, rfl, HOW, HPW, KW⟩ := hrel
    by_cases hlt : k < L.length
    · have li : (k : Int) < (L.length : Int) := by omega
      have KWW := hide ((uq K0).trans (uq KW))
      obtain ⟨ap2, cp2, e9, hcl⟩ := is_at (is_own (uq HPW))
      obtain ⟨e1, e2⟩ : ap = ap2 ∧ cp = cp2 := by injection e9 with h1 h2 h3; exact ⟨h1, h3⟩
      subst e1 e2
      clear e9
      obtain ⟨ad, rfl, hb, y0⟩ := hcl k hlt
      clear hcl
      obtain ⟨m, hm, hmr⟩ := (uq HI) k hlt
      obtain ⟨af, rfl, hbf, f0, f1⟩ := (uq HF) m hmr
      have u0 := V.far_cell (uq KWW) (by rw [V.add_block9]; exact hbf) f0
      have u1 := V.far_cell (uq KWW) (by show (af.add (m * 2)).block < _; rw [V.add_block9]; exact hbf) f1
      have HM := hide (rts_more R L k hlt)
      rw [hm] at y0 HM
      rw [Int.toNat_natCast] at HM
      clear f0 f1 hm hb hbf
      generalize (R.getD m (0, 0)) = f at u0 u1 HM
      obtain ⟨fx, fy⟩ := f
      simp only at u0 u1
      have hrl : (rts R (L.take k)).length ≤ 1000 := by rw [rts_len]; have := List.length_take_le k L; omega
      obtain ⟨LL, hLL⟩ : ∃ LL, (rts R (L.take k)).length = LL := ⟨_, rfl⟩
      rw [hLL] at HOW hrl
      have HL := hide hLL
      clear hLL
      have hsz := Below.size (uq KW)
      have lm : (m : Int) < (nf : Int) := by omega
      go_wp2_with (at_builtin; refine wpList_append_own _ rfl _ _ 29 rfl w0.heap.size 32 i0 _ 2 16 Try.underlying29 hi0 hz00 hz01 hz02 rfl (by decide) _ _ _ rfl ((uq HOW).alloc _) ⟨wr.heap.size, 0, none⟩ 1 1 [.int .i64 fx, .int .i64 fy] rfl rfl (new_v wr [.int .i64 fx, .int .i64 fy] _) (by simp [Value.oneCell']) (by unfold maxLen; omega) (by omega) (by simp; omega) ?_; intro v' w4 hown' hgrow hnil; have HOWN := hide hown'; have HG := hide hgrow; have HK4 : Hid (Keep w0 w4) := hide (Below.grown ((uq KW).alloc _) hgrow (by simp; omega) (fun j ej => ((uq HOW).lt j ej).1)); clear hown' hgrow hnil)
      have HP4 := hide (own_g ((uq HPW).alloc _) ((uq HOW).alloc _) (by decide) (uq HG))
      go_roundw
      case rel => exact ⟨k + 1, hlt, by go_num, hide (by rw [uq HM, List.length_append, fcs_app, uq HL]; exact uq HOWN), HP4, HK4⟩
      case measure => simp [intOf]; omega
    · have li : ¬ (k : Int) < (L.length : Int) := by omega
      obtain rfl : k = L.length := by omega
      have HT : Hid (L.take L.length = L) := hide List.take_length
      go_wp2_with fail
      go_ret
      refine ⟨_, rfl, (uq K0).trans (uq KW), ?_⟩
      have h := own_mono (uq HOW) (Below.size (uq K0))
      rw [uq HT] at h
      exact h
/-- the place of the greatest of the first k, of two alike the first one -/
def gtF (f t : Int × Int) : Int := cm (cn f.1 f.2 * cd t.1 t.2) (cn t.1 t.2 * cd f.1 f.2)
def gst (L : List (Int × Int)) : Nat → Nat
  | 0 => 0
  | k + 1 => if 0 < gtF (L.getD k (0, 0)) (L.getD (gst L k) (0, 0)) then k else gst L k
theorem gst_lt (L : List (Int × Int)) : ∀ k, gst L k ≤ k - 1
  | 0 => Nat.le_refl _
  | k + 1 => by
    have := gst_lt L k
    rw [gst]
    split <;> omega
set_option maxHeartbeats 4000000 in
theorem greatest_core (xf : Option Addr) (cf : Nat) (L : List (Int × Int)) (w : World) (hL : L.length ≤ 1000)
    (HF : Hid (∀ k, k < L.length → ∃ ad, xf = some ad ∧ ad.block < w.heap.size ∧ w.cell? (ad.add (k * 2)) = some (.int .i64 (L.getD k (0, 0)).1) ∧ w.cell? ⟨(ad.add (k * 2)).block, (ad.add (k * 2)).off + 1, none⟩ = some (.int .i64 (L.getD k (0, 0)).2)))
    (TC : Hid (∀ i j, i < L.length → j < L.length → ∀ w, Calls Try.prog 46 #[.agg #[.int .i64 (L.getD i (0, 0)).1, .int .i64 (L.getD i (0, 0)).2], .agg #[.int .i64 (L.getD j (0, 0)).1, .int .i64 (L.getD j (0, 0)).2]] w fun e w' => e = .returned (.int .i64 (gtF (L.getD i (0, 0)) (L.getD j (0, 0)))) ∧ Keep w w')) :
    Calls Try.prog 25 #[.slice xf L.length cf] w fun e w' => e = .returned (.int .i64 (gst L L.length : Nat)) ∧ Keep w w' := by
  go_enter Try.func25, Try.ntmps25
  go_wp2_with fail
  go_loopw [3, 8] (fun vb vi wr => ∃ k : Nat, k ≤ L.length ∧ vi = .int .i64 (k : Int) ∧ vb = .int .i64 ((gst L k : Nat) : Int) ∧ Hid (Keep w wr)) (fun vb vi _ => L.length - (intOf vi).toNat)
  case atStart => exact ⟨0, Nat.zero_le _, rfl, rfl, hide (Keep.refl _)⟩
  case round =>
    obtain ⟨k, hk, rfl, rfl, KW⟩ := hrel
    by_cases hlt : k < L.length
    · have li : (k : Int) < (L.length : Int) := by omega
      have hgl := gst_lt L k
      obtain ⟨ad, rfl, hb, e0, e1⟩ := (uq HF) k hlt
      have hbl : gst L k < L.length := by omega
      obtain ⟨ad2, e9, _, d0, d1⟩ := (uq HF) (gst L k) hbl
      cases e9
      have TK := hide ((uq TC) k (gst L k) hlt hbl)
      have HM : Hid (gst L (k + 1) = if 0 < gtF (L.getD k (0, 0)) (L.getD (gst L k) (0, 0)) then k else gst L k) := hide rfl
      generalize gst L k = b at *
      generalize gtF (L.getD k (0, 0)) (L.getD b (0, 0)) = g at *
      generalize (L.getD k (0, 0)) = f at *
      generalize (L.getD b (0, 0)) = t at *
      obtain ⟨fx, fy⟩ := f
      obtain ⟨tx, ty⟩ := t
      simp only at *
      have y0 := V.far_cell (uq KW) (by rw [V.add_block9]; exact hb) e0
      have y1 := V.far_cell (uq KW) (by show (ad.add (k * 2)).block < _; rw [V.add_block9]; exact hb) e1
      have x0 := V.far_cell (uq KW) (by rw [V.add_block9]; exact hb) d0
      have x1 := V.far_cell (uq KW) (by show (ad.add (b * 2)).block < _; rw [V.add_block9]; exact hb) d1
      have lb : (b : Int) < (L.length : Int) := by omega
      have hbw : ad.block < wr.heap.size := Nat.lt_of_lt_of_le hb (Below.size (uq KW))
      clear e0 e1 d0 d1
      have KB := hide ((uq KW).alloc (.cells #[.int .i64 fx, .int .i64 fy] 32))
      have hbx := heap_alloc_new wr (.cells #[.int .i64 fx, .int .i64 fy] 32)
      have HXq : Hid (∀ w' : World, Keep (wr.alloc (.cells #[.int .i64 fx, .int .i64 fy] 32)) w' → w'.cell? ⟨wr.heap.size, 0, none⟩ = some (.int .i64 fx) ∧ w'.cell? ⟨wr.heap.size, 1, none⟩ = some (.int .i64 fy) ∧ w'.cell? (ad.add (b * 2)) = some (.int .i64 tx) ∧ w'.cell? ⟨(ad.add (b * 2)).block, (ad.add (b * 2)).off + 1, none⟩ = some (.int .i64 ty)) := hide (fun w' k9 => by
        have h1 := k9.block wr.heap.size (by simp)
        rw [hbx] at h1
        have k8 := ((Keep.refl wr).alloc (.cells #[.int .i64 fx, .int .i64 fy] 32)).trans k9
        refine ⟨by simp [World.cell?, h1], by simp [World.cell?, h1], V.far_cell k8 (by rw [V.add_block9]; exact hbw) x0, V.far_cell k8 (by show (ad.add (b * 2)).block < _; rw [V.add_block9]; exact hbw) x1⟩)
      clear hbx
      go_upto_region 5 with fail
      generalize hq : wr.heap.size = q at HXq ⊢
      generalize wr.alloc (.cells #[.int .i64 fx, .int .i64 fy] 32) = wa at HXq KB ⊢
      clear hq x0 x1 y0 y1
      refine wp_region_held_drew (S := fun w' => w'.cell? ⟨q, 0, none⟩ = some (.int .i64 fx) ∧ w'.cell? ⟨q, 1, none⟩ = some (.int .i64 fy) ∧ w'.cell? (ad.add (b * 2)) = some (.int .i64 tx) ∧ w'.cell? ⟨(ad.add (b * 2)).block, (ad.add (b * 2)).off + 1, none⟩ = some (.int .i64 ty)) (by kernel_rfl) (by exact (uq HXq) _ (by repeat (first | apply Keep.drew | exact Keep.refl _))) (fun hHeld => ?_)
      refine tkk 0 13 hHeld ?_; try simp only [Act.put, Ya, Yb, Yc]
      refine tkk 1 14 hHeld ?_; try simp only [Act.put, Ya, Yb, Yc]
      refine tkk 2 15 hHeld ?_; try simp only [Act.put, Ya, Yb, Yc]
      refine tkk 3 16 hHeld ?_; try simp only [Act.put, Ya, Yb, Yc]
      refine tkk 4 17 hHeld ?_; try simp only [Act.put, Ya, Yb, Yc]
      refine rdyy 5 (fun K hK => ?_)
      go_simp
      clear hHeld
      (refine ((uq TK) _).mono ?_; rintro e w2 ⟨rfl, hk9⟩; have K2 := hide hk9; clear hk9)
      try go_wp2_with fail
      refine hK.out _ _ ?_ (fun hHeld => ?_)
      · exact (uq HXq) _ ((Keep.refl wa).drew.trans (uq K2))
      clear hK K
      try simp only [Act.put, Ya, Yb, Yc]
      refine tkk 6 19 hHeld ?_; try simp only [Act.put, Ya, Yb, Yc]
      refine wpAnyH_done (by kernel_rfl) ?_ _
      clear hHeld
      by_cases hg : 0 < g
      · rw [if_pos hg] at HM
        go_wp2_with fail
        go_roundw
        case rel => exact ⟨k + 1, hlt, by go_num, by first | rfl | (rw [uq HM]), hide (by have h2 := (uq KB); have h3 := uq K2; exact h2.trans ((Keep.refl _).drew.trans h3))⟩
        case measure => simp [intOf]; omega
      · rw [if_neg hg] at HM
        go_wp2_with fail
        go_roundw
        case rel => exact ⟨k + 1, hlt, by go_num, by first | rfl | (rw [uq HM]), hide (by have h2 := (uq KB); have h3 := uq K2; exact h2.trans ((Keep.refl _).drew.trans h3))⟩
        case measure => simp [intOf]; omega
    · have li : ¬ (k : Int) < (L.length : Int) := by omega
      obtain rfl : k = L.length := by omega
      go_wp2_with fail
      go_ret
      exact ⟨rfl, uq KW⟩
end Cr
end Go.Proofs.Ytdgmndjofbdgeaa
