/- Package group: newGraph. -/
import Derived.Test.YtakandlehneciaaGpH
import Derived.Test.YtakandlehneciaaOdD
namespace Go.Proofs.Ytakandlehneciaa
open Go.RowKit
attribute [local go_sem ↓] Go.wp_at_zero Go.wp_at_succ
set_option linter.unusedVariables false
set_option linter.unusedSimpArgs false
set_option maxRecDepth 10000
namespace Gp
open Pa
def ptN (RR : List (List Int)) : Nat → Nat
  | 0 => 2
  | r + 1 => ptN RR r + ((RR.getD r []).length - 1)
/-- the first marks of a row -/
def mkP (p j : Nat) : List Int := 0 :: (List.range j).map fun i => ((p + i : Nat) : Int)
def mkL (p n : Nat) : List Int := mkP p (n - 1) ++ [1]
def phE (M t o : List Int) (k : Nat) : E3 := (M.getD k 0, M.getD (k + 1) 0, t.getD (o.getD k 0).toNat 0)
def phL (M t o : List Int) (k : Nat) : List E3 := (List.range k).map (phE M t o)
def mkR (RR : List (List Int)) (i : Nat) : List Int := mkL (ptN RR i) (RR.getD i []).length
def MKn (RR : List (List Int)) (r : Nat) : List (List Int) := (List.range r).map (mkR RR)
def PLn (OO : List (List Int)) (r : Nat) : List (List Int) := (List.range r).map fun i => Od.tnL (OO.getD i [])
def PHn (RR OO : List (List Int)) : Nat → List E3
  | 0 => []
  | r + 1 => PHn RR OO r ++ phL (mkR RR r) (RR.getD r []) (OO.getD r []) (RR.getD r []).length
theorem mkP_len (p j : Nat) : (mkP p j).length = j + 1 := by simp [mkP]
theorem mkP_more (p j : Nat) : mkP p (j + 1) = mkP p j ++ [((p + j : Nat) : Int)] := by simp [mkP, List.range_succ]
theorem mkL_len (p n : Nat) : (mkL p (n + 1)).length = n + 2 := by simp [mkL, mkP]
theorem phL_more (M t o : List Int) (k : Nat) : phL M t o (k + 1) = phL M t o k ++ [phE M t o k] := by simp [phL, List.range_succ]
theorem phL_len (M t o : List Int) (k : Nat) : (phL M t o k).length = k := by simp [phL]
theorem own_lit (w : World) (u : Value) (e : TypeId) : (w.alloc (.cells #[u] e)).ownsRow w.heap.size e 1 (.slice (some ⟨w.heap.size, 0, none⟩) 1 1) 1 [u] :=
  ⟨rfl, .inr ⟨w.heap.size, 1, #[u], rfl, Nat.le_refl _, heap_alloc_new w _, Nat.le_refl _, by unfold maxLen; omega, rfl, rfl⟩⟩
theorem iw_at {e : TypeId} {w : World} {a : Option Addr} {n c : Nat} {L : List Int} (h : Iw e w (.slice a n c) L) {k : Nat} (hk : k < L.length) : ∃ g, a = some ⟨g, 0, none⟩ ∧ w.cell? ⟨g, k, none⟩ = some (.int .i64 (L.getD k 0)) := by
  rcases h with ⟨e, rfl⟩ | ⟨g, c, arr, e, h1, h2⟩
  · simp at hk
  · injection e with e _ _
    exact ⟨g, e, by simp [World.cell?, h1, h2 k hk]⟩
theorem box_at {w : World} {gb : Nat} {a b c d e : Value} {t : TypeId} (h : w.heap[gb]? = some (.cells #[a, b, c, d, e] t (0, 0))) : w.cell? ⟨gb, 0, none⟩ = some a ∧ w.cell? ⟨gb, 1, none⟩ = some b ∧ w.cell? ⟨gb, 2, none⟩ = some c ∧ w.cell? ⟨gb, 3, none⟩ = some d ∧ w.cell? ⟨gb, 4, none⟩ = some e := by simp [World.cell?, h]
theorem box_fz {w : World} {gb : Nat} {arr : Array Value} {t : TypeId} (h : w.heap[gb]? = some (.cells arr t (0, 0))) (i : Nat) : w.frozen? ⟨gb, i, none⟩ = false := by simp [World.frozen?, h]
theorem box_alloc {w : World} {gb : Nat} {o : Obj} (h : w.heap[gb]? = some o) (o2 : Obj) : (w.alloc o2).heap[gb]? = some o := by rw [heap_alloc_old _ _ (Array.getElem?_eq_some_iff.1 h).1]; exact h
theorem box_own {w w' : World} {gb q z m : Nat} {e : TypeId} {v : Value} {xs : List Value} {o : Obj} (h : w.heap[gb]? = some o) (ho : w.ownsRow q e z v m xs) (hq : gb < q) (hg : w.grownBy w' v.ownBlock) : w'.heap[gb]? = some o := by
  rw [hg.block gb (Array.getElem?_eq_some_iff.1 h).1 (fun e => by have := (World.ownsRow.lt ho gb e.symm).1; omega)]; exact h
theorem gb_own9 {w w' w2 : World} {gb q z m : Nat} {e : TypeId} {v : Value} {xs : List Value} (hg : w.grownBy w' (some gb)) (hq : w.heap.size = q) (ho : w'.ownsRow q e z v m xs) (h2 : w'.grownBy w2 v.ownBlock) : w.grownBy w2 (some gb) := gb_own hg (by rw [hq]; exact ho) h2
def Nq (RR OO : List (List Int)) (vo : Value) (w : World) (e : Ending) (w' : World) : Prop := ∃ gb, e = .returned (.pointer (some ⟨gb, 0, none⟩)) ∧ Keep w w' ∧ w.heap.size ≤ gb ∧ Gm w' gb (ptN RR RR.length : Int) vo (PLn OO RR.length) (MKn RR RR.length) (PHn RR OO RR.length)
set_option maxHeartbeats 8000000 in
theorem graph_core (vr vo : Value) (RR OO : List (List Int)) (w : World) (hR : Ir w vr RR) (hO : Tw 49 3 w vo OO) (hl : RR.length ≤ 2) (hlo : OO.length = RR.length)
    (hr : Hid (∀ i, i < RR.length → ∃ m, (RR.getD i []).length = m + 1 ∧ m ≤ 3 ∧ (OO.getD i []).length = m + 1 ∧ ∀ k, k < m + 1 → ∃ o : Nat, (OO.getD i []).getD k 0 = (o : Int) ∧ o < m + 1)) :
    Calls Try.prog 35 #[vr, vo] w (Nq RR OO vo w) := by
  obtain ⟨i0, hi0, hz00, hz01, hz02⟩ := info_f infoN
  have HQ : Hid (∀ w' gb pl mk ph, Gs w.heap.size gb w' (ptN RR RR.length : Int) vo pl mk ph (PLn OO RR.length) (MKn RR RR.length) (PHn RR OO RR.length) → Keep w w' → Nq RR OO vo w (.returned (.pointer (some ⟨gb, 0, none⟩))) w') := hide (fun w' gb pl mk ph h hk => ⟨gb, rfl, hk, h.low, h.gm⟩)
  generalize Nq RR OO vo w = QQ at HQ ⊢
  have HN : Hid (∀ r m, (RR.getD r []).length = m + 1 → ptN RR (r + 1) = ptN RR r + m ∧ MKn RR (r + 1) = MKn RR r ++ [mkL (ptN RR r) (m + 1)] ∧ PLn OO (r + 1) = PLn OO r ++ [Od.tnL (OO.getD r [])] ∧ PHn RR OO (r + 1) = PHn RR OO r ++ phL (mkL (ptN RR r) (m + 1)) (RR.getD r []) (OO.getD r []) (m + 1)) := hide (fun r m h => ⟨by rw [ptN, h]; rfl, by rw [MKn, MKn, List.range_succ, List.map_append]; simp only [List.map_cons, List.map_nil, mkR, h], by simp [PLn, List.range_succ], by rw [PHn, mkR, h]⟩)
  have HB : Hid (∀ r, r ≤ RR.length → ptN RR r ≤ 2 + 3 * r ∧ (MKn RR r).length ≤ 100000 ∧ (PLn OO r).length ≤ 100000 ∧ (PHn RR OO r).length ≤ 4 * r) := hide (by
    intro r
    induction r with
    | zero => intro _; simp [ptN, MKn, PLn, PHn]
    | succ r ih =>
      intro h
      obtain ⟨m, h1, h2, _⟩ := unhide hr r (by omega)
      obtain ⟨i1, i2, i3, i4⟩ := ih (by omega)
      refine ⟨by rw [ptN, h1]; omega, by simp [MKn]; omega, by simp [PLn]; omega, ?_⟩
      rw [PHn, List.length_append, phL_len, h1]
      omega)
  have HR := hide hR
  have HO := hide hO
  obtain ⟨ar, cr, rfl, -, -⟩ := hR
  obtain ⟨ao, co, rfl, -⟩ := hO.sl
  have HLO := hide hlo
  rw [hlo] at HO HQ ⊢
  have TT := hide (fun (v : Value) (L : List Int) (w' : World) (h : Iw 3 w' v L) (hL : L.length ≤ 1000000) => Od.turned_any v L w' h.is hL)
  have G0 : Hid (Gs w.heap.size w.heap.size (w.alloc (.cells #[.int .i64 2, .slice ao RR.length co, .slice none 0 0, .slice none 0 0, .slice none 0 0] 75)) (ptN RR 0 : Int) (.slice ao RR.length co) (.slice none 0 0) (.slice none 0 0) (.slice none 0 0) (PLn OO 0) (MKn RR 0) (PHn RR OO 0)) := hide ⟨heap_alloc_new w _, Nat.le_refl _, ow_nil _ _ _ _, ow_nil _ _ _ _, World.ownsRow_nil _ _ _ _, fun g h => by simp [Value.ownBlock] at h⟩
  have K0 := hide ((Keep.refl w).alloc (.cells #[.int .i64 2, .slice ao RR.length co, .slice none 0 0, .slice none 0 0, .slice none 0 0] 75))
  clear hO hlo
  obtain ⟨R, hR7⟩ : ∃ R, RR.length = R := ⟨_, rfl⟩
  have HRR := hide hR7
  rw [hR7] at hl hr HLO HQ HB HO G0 K0 ⊢
  clear hR7
  go_enter Try.func35, Try.ntmps35
  go_wp2_with fail
  generalize w.alloc (.cells #[.int .i64 2, .slice ao R co, .slice none 0 0, .slice none 0 0, .slice none 0 0] 75) = w1 at G0 K0 ⊢
  obtain ⟨gb, hgb⟩ : ∃ g, w.heap.size = g := ⟨_, rfl⟩
  have HGB := hide hgb
  rw [hgb] at G0 HQ ⊢
  clear hgb
  go_loopw [16] (fun vi wr => ∃ r : Nat, ∃ pl mk ph : Value, r ≤ R ∧ vi = .int .i64 (r : Int) ∧ Hid (Gs gb gb wr (ptN RR r : Int) (.slice ao R co) pl mk ph (PLn OO r) (MKn RR r) (PHn RR OO r)) ∧ Hid (Keep w wr)) (fun vi _ => R - (intOf vi).toNat)
  case atStart => exact ⟨0, _, _, _, Nat.zero_le _, rfl, G0, K0⟩
  case round =>
    clear G0 K0
    obtain ⟨r, pl, mk, ph, hr1, rfl, GS, KW⟩ := hrel
    by_cases hlt : r < R
    · have li : (r : Int) < (R : Int) := by omega
      obtain ⟨m, hm1, hm2, hm3, hm4⟩ := unhide hr r hlt
      obtain ⟨e1, e2, e3, e4⟩ := unhide HN r m hm1
      obtain ⟨b1, b2, b3, b4⟩ := unhide HB r (by omega)
      obtain ⟨b5, b6, b7, b8⟩ := unhide HB (r + 1) (by omega)
      have HE := hide (show Gs gb gb = Gs gb gb from rfl)
      obtain ⟨p, hp⟩ : ∃ p, ptN RR r = p := ⟨_, rfl⟩
      obtain ⟨PL, hPL⟩ : ∃ p, PLn OO r = p := ⟨_, rfl⟩
      obtain ⟨MK, hMK⟩ : ∃ p, MKn RR r = p := ⟨_, rfl⟩
      obtain ⟨PH, hPH⟩ : ∃ p, PHn RR OO r = p := ⟨_, rfl⟩
      rw [hp] at e1 e2 e4 GS b1
      rw [hPL] at e3 GS b3
      rw [hMK] at e2 GS b2
      rw [hPH] at e4 GS b4
      clear hp hPL hMK hPH
      have HE1 := hide e1
      have HE2 := hide e2
      have HE3 := hide e3
      have HE4 := hide e4
      clear e1 e2 e3 e4 b6 b7 b8
      have HE0 := hide hm4
      obtain ⟨ar1, cr1, e9, -, hrows⟩ := unhide HR
      injection e9 with e9 _ e10
      subst e9 e10
      obtain ⟨ad, u, rfl, cu, hu⟩ := hrows r (by rw [unhide HRR]; exact hlt)
      have y0 := kc (unhide KW) cu
      obtain ⟨ua, uc, rfl, hut⟩ := hu
      rw [hm1] at y0 hut
      have HU := hide hut
      obtain ⟨g9, vu, ea, cv, hv⟩ := (unhide HO).row (k := r) (by rw [unhide HLO]; exact hlt)
      have cv0 := kc (unhide KW) cv
      have HV := hide hv
      have CV := hide cv
      clear cv
      clear hm4 hrows cu hut hv
      have hgl := (unhide GS).lt
      have O1 : Hid ((wr.alloc (.cells #[.int .i64 0] 3)).ownsRow wr.heap.size 3 1 (.slice (some ⟨wr.heap.size, 0, none⟩) 1 1) (0 + 1) (ics (mkP p 0))) := hide (own_lit wr _ _)
      have X1 : Hid ((wr.alloc (.cells #[.int .i64 0] 3)).heap[gb]? = some (.cells #[.int .i64 ((p + 0 : Nat) : Int), .slice ao R co, pl, mk, ph] 75 (0, 0))) := hide (by rw [heap_alloc_old _ _ hgl]; exact (unhide GS).box)
      have Y1 : Hid (wr.grownBy (wr.alloc (.cells #[.int .i64 0] 3)) (some gb)) := hide (World.grownBy_alloc _ _ _)
      have K1 := hide ((unhide KW).alloc (.cells #[.int .i64 0] 3))
      go_wp2_with fail
      generalize hw2 : wr.alloc (.cells #[.int .i64 0] 3) = w2 at O1 X1 Y1 K1 ⊢
      have Z2 : Hid (Keep wr w2) := hide (by rw [← hw2]; exact (Keep.refl wr).alloc _)
      obtain ⟨q, hq⟩ : ∃ q, wr.heap.size = q := ⟨_, rfl⟩
      have HQ2 := hide hq
      rw [hq] at O1 hgl ⊢
      clear hq hw2
      have HQ3 : Hid (w.heap.size ≤ q) := hide (by rw [← unhide HQ2]; exact Below.size (unhide KW))
      have mm : wrap64 ((m : Int) + 1 - 1) = (m : Int) := by rw [w64 (by omega) (by omega)]; omega
      go_loopw [8, 25] (fun vm vi ws => ∃ j : Nat, j ≤ m ∧ vi = .int .i64 (j : Int) ∧ Hid (ws.ownsRow q 3 1 vm (j + 1) (ics (mkP p j))) ∧ Hid (ws.heap[gb]? = some (.cells #[.int .i64 ((p + j : Nat) : Int), .slice ao R co, pl, mk, ph] 75 (0, 0))) ∧ Hid (wr.grownBy ws (some gb)) ∧ Hid (Keep w ws)) (fun vm vi _ => m - (intOf vi).toNat)
      case atStart => exact ⟨0, Nat.zero_le _, rfl, O1, X1, Y1, K1⟩
      case round =>
        clear O1 X1 Y1 K1
        obtain ⟨j, hj, rfl, OM, XB, YG, K3⟩ := hrel
        obtain ⟨am, cm, rfl⟩ := own_l (unhide OM)
        by_cases hjl : j < m
        · have lj : (j : Int) < (m : Int) := by omega
          obtain ⟨c0, c1, c2, c3, c4⟩ := box_at (unhide XB)
          have XB4 := hide (box_alloc (unhide XB) (.cells #[.int .i64 ((p + j : Nat) : Int)] 3))
          have O4 := hide ((unhide OM).alloc (.cells #[.int .i64 ((p + j : Nat) : Int)] 3))
          have K4 := hide ((unhide K3).alloc (.cells #[.int .i64 ((p + j : Nat) : Int)] 3))
          have Y4 := hide (gb_keep (unhide YG) ((Keep.refl wr).alloc (.cells #[.int .i64 ((p + j : Nat) : Int)] 3)))
          have t3 := new_v wr [.int .i64 ((p + j : Nat) : Int)] 3
          have t5 : q ≤ (wr.alloc (.cells #[.int .i64 ((p + j : Nat) : Int)] 3)).heap.size := by have h1 := (unhide YG).size; rw [unhide HQ2] at h1; simp; omega
          obtain ⟨x, hx⟩ : ∃ x : Int, ((p + j : Nat) : Int) = x := ⟨_, rfl⟩
          have xb : 0 ≤ x ∧ x ≤ 1000 := by omega
          have HXX := hide hx
          have wx : wrap64 (x + 1) = x + 1 := w64 (by omega) (by omega)
          rw [hx] at c0 XB4 O4 K4 Y4 t3 t5
          clear hx xb
          go_wp2_with (at_builtin; refine wpList_append_own _ rfl _ _ 49 rfl q 3 i0 _ 1 8 Try.underlying49 hi0 hz00 hz01 hz02 rfl (by decide) _ _ _ rfl (unhide O4) ⟨wr.heap.size, 0, none⟩ 1 1 [.int .i64 x] rfl rfl t3 (by simp [Value.oneCell']) (by unfold maxLen; omega) (by omega) t5 ?_; intro v7 w7 hown' hgrow hnil; have O7 := hide hown'; have XB7 := hide (box_own (unhide XB4) (unhide O4) hgl hgrow); have K7 := hide (Below.grown (unhide K4) hgrow (Below.size (unhide K4)) (fun k ek => by have h1 := ((unhide O4).lt k ek).1; have h2 := unhide HQ3; omega)); have Y7 := hide (gb_own9 (unhide Y4) (unhide HQ2) (unhide O4) hgrow); obtain ⟨d0, d1, d2, d3, d4⟩ := box_at (unhide XB7); have f7 := box_fz (unhide XB7) 0; obtain ⟨a7, e7, rfl⟩ := own_l hown'; clear hown' hgrow hnil)
          go_roundw
          case rel => exact ⟨j + 1, hjl, by go_num, hide (by rw [mkP_more, ics_app, unhide HXX]; exact own_kt (unhide O7) (Kt.set (A := fun e => e = 75) (unhide XB7) rfl) (by decide)), hide (by rw [box_set (unhide XB7), ← Nat.add_assoc, Int.natCast_add, unhide HXX]; rfl), hide (gb_set (unhide Y7) 0 _), hide (Below.setCell (unhide K7) (by rw [unhide HGB]; exact Nat.le_refl _) _)⟩
          case measure => simp [intOf]; omega
        · have lj : ¬ (j : Int) < (m : Int) := by omega
          obtain rfl : j = m := by omega
          have O4 := hide ((unhide OM).alloc (.cells #[.int .i64 1] 3))
          have XB4 := hide (box_alloc (unhide XB) (.cells #[.int .i64 1] 3))
          have K4 := hide ((unhide K3).alloc (.cells #[.int .i64 1] 3))
          have Y4 := hide (gb_keep (unhide YG) ((Keep.refl wr).alloc (.cells #[.int .i64 1] 3)))
          have t3 := new_v wr [.int .i64 1] 3
          have t5 : q ≤ (wr.alloc (.cells #[.int .i64 1] 3)).heap.size := by have h1 := (unhide YG).size; rw [unhide HQ2] at h1; simp; omega
          obtain ⟨au, cu2, rfl⟩ := (unhide HV).sl
          rw [hm3] at CV HV
          clear cv0
          have lr : (r : Int) < (R : Int) := by omega
          have lr0 : (0 : Int) ≤ (r : Int) := by omega
          subst ea
          go_upto_region 11 with fail
          go_wp2_with (at_builtin; refine wpList_append_own _ rfl _ _ 49 rfl q 3 i0 _ 1 8 Try.underlying49 hi0 hz00 hz01 hz02 rfl (by decide) _ _ _ rfl (unhide O4) ⟨wr.heap.size, 0, none⟩ 1 1 [.int .i64 1] rfl rfl t3 (by simp [Value.oneCell']) (by unfold maxLen; omega) (by omega) t5 ?_; intro v7 w7 hown' hgrow hnil; have O7 := hide hown'; have XB7 := hide (box_own (unhide XB4) (unhide O4) hgl hgrow); have K7 := hide (Below.grown (unhide K4) hgrow (Below.size (unhide K4)) (fun k ek => by have h1 := ((unhide O4).lt k ek).1; have h2 := unhide HQ3; omega)); have Y7 := hide (gb_own9 (unhide Y4) (unhide HQ2) (unhide O4) hgrow); have cv7 := kc (unhide K7) (unhide CV); obtain ⟨a7, e7, rfl⟩ := own_l hown'; clear hown' hgrow hnil)
          have G7 : Hid (Gs gb gb w7 ((p + j : Nat) : Int) (.slice (some ⟨g9, 0, none⟩) R co) pl mk ph PL MK PH) := hide ((unhide GS).but (unhide Y7) (unhide XB7))
          have V7 : Hid (Iw 3 w7 (.slice a7 (j + 1 + 1) e7) (mkL p (j + 1))) := hide (by
            have h := iw_own (L := mkL p (j + 1)) (by rw [mkL, ics_app]; exact unhide O7) (by rw [mkL_len])
            exact h)
          have HML := hide (mkL_len p j)
          have HRM := hide hm1
          have HOM := hide hm3
          clear O7 O4 XB4 K4 Y4 t3 t5 Y7 XB7 OM XB YG K3 GS cv7 lj HQ2 HQ3 hgl
          obtain ⟨M, hM⟩ : ∃ M, mkL p (j + 1) = M := ⟨_, rfl⟩
          rw [hM] at V7 HML HE2 HE4
          clear hM
          obtain ⟨n, hn⟩ : ∃ n, j + 1 = n := ⟨_, rfl⟩
          obtain ⟨n2, hn2⟩ : ∃ n2, p + j = n2 := ⟨_, rfl⟩
          have HN9 := hide hn
          rw [hn] at V7 HE0 HRM HOM HE4 HU HV ⊢
          rw [hn2] at G7 HE1
          have hn4 : n ≤ 4 := by omega
          have HP8 : Hid (PH.length ≤ 8) := hide (by omega)
          have HML2 : Hid (M.length = n + 1) := hide (by rw [unhide HML, ← unhide HN9])
          clear hn hn2 hm1 hm3 hm2 mm
          go_wp2_with fail
          go_loopw [50] (fun vi ws => ∃ (k : Nat) (pq : Value), k ≤ n ∧ vi = .int .i64 (k : Int) ∧ Hid (Gs gb gb ws (n2 : Int) (.slice (some ⟨g9, 0, none⟩) R co) pl mk pq PL MK (PH ++ phL M (RR.getD r []) (OO.getD r []) k)) ∧ Hid (Iw 3 ws (.slice a7 (n + 1) e7) M) ∧ Hid (Keep w ws)) (fun vi _ => n - (intOf vi).toNat)
          case atStart => exact ⟨0, ph, Nat.zero_le _, rfl, hide (by have := unhide G7; simpa [phL] using this), V7, K7⟩
          case round =>
            clear G7 V7 K7
            obtain ⟨k, pq, hk, rfl, GK, VK, KK⟩ := hrel
            by_cases hkl : k < n
            · have lk : (k : Int) < (n : Int) := by omega
              have lkj : (k : Int) < (j : Int) + 1 := by have := unhide HN9; omega
              obtain ⟨o, ho1, ho2⟩ := (unhide HE0) k hkl
              obtain ⟨gv, eau, ov0⟩ := iw_at (unhide HV) (k := k) (by rw [unhide HOM]; exact hkl)
              subst eau
              have ov := kc (unhide KK) ov0
              rw [ho1] at ov
              obtain ⟨ad3, eu, tv0⟩ := (unhide HU) o (by omega)
              subst eu
              have tv := kc (unhide KK) tv0
              obtain ⟨gm, ea7, mv0⟩ := iw_at (unhide VK) (k := k) (by rw [unhide HML2]; omega)
              subst ea7
              obtain ⟨gm2, ea7, mv1⟩ := iw_at (unhide VK) (k := k + 1) (by rw [unhide HML2]; omega)
              injection ea7 with ea7
              injection ea7 with ea7
              subst ea7
              have hpe : phE M (RR.getD r []) (OO.getD r []) k = (M.getD k 0, M.getD (k + 1) 0, (RR.getD r []).getD o 0) := by rw [phE, ho1, Int.toNat_natCast]
              have HPM := hide (phL_more M (RR.getD r []) (OO.getD r []) k)
              rw [hpe] at HPM
              have HPL := hide (phL_len M (RR.getD r []) (OO.getD r []) k)
              obtain ⟨x, hx⟩ : ∃ x, M.getD k 0 = x := ⟨_, rfl⟩
              obtain ⟨y, hy⟩ : ∃ x, M.getD (k + 1) 0 = x := ⟨_, rfl⟩
              obtain ⟨z, hz⟩ : ∃ x, (RR.getD r []).getD o 0 = x := ⟨_, rfl⟩
              rw [hx] at mv0 HPM
              rw [hy] at mv1 HPM
              rw [hz] at tv HPM
              rw [hz] at tv0
              clear hpe hz ho1 ov0
              have HK1 : Hid (k < M.length) := hide (by rw [unhide HML2]; omega)
              have HK2 : Hid (k + 1 < M.length) := hide (by rw [unhide HML2]; omega)
              have SK : Hid (∀ w', Keep wr w' → w'.cell? ⟨gm, k, none⟩ = some (.int .i64 x) ∧ w'.cell? ⟨gm, k + 1, none⟩ = some (.int .i64 y) ∧ w'.cell? (ad3.add o) = some (.int .i64 z)) := hide (fun w' hk => ⟨kc hk mv0, kc hk mv1, kc hk tv⟩)
              have bx := (unhide GK).cell.2.2.2.2
              have lo0 : (0 : Int) ≤ (o : Int) := by omega
              have lk0 : (0 : Int) ≤ (k : Int) := by omega
              have lo1 : (o : Int) < (n : Int) := by omega
              have lk1 : (k : Int) < (n : Int) + 1 := by omega
              have lk6 : (k : Int) + 1 < (n : Int) + 1 := by omega
              have lk2 : IntKind.i64.wrap ((k : Int) + 1) = (k : Int) + 1 := by rw [IntKind.wrap_i64]; omega
              have lk4 : (0 : Int) ≤ (k : Int) + 1 := by omega
              have lk5 : ((k : Int) + 1).toNat = k + 1 := by omega
              have HLN : Hid ((PH ++ phL M (RR.getD r []) (OO.getD r []) k).length ≤ 100000) := hide (by rw [List.length_append, unhide HPL]; exact Nat.le_trans (Nat.add_le_add (unhide HP8) (Nat.le_trans hk hn4)) (by decide))
              have SW : Hid (∀ w', Keep w w' → Iw 3 w' (.slice (some ⟨gm, 0, none⟩) (n + 1) e7) M → w'.cell? ⟨gm, k, none⟩ = some (.int .i64 x) ∧ w'.cell? ⟨gm, k + 1, none⟩ = some (.int .i64 y) ∧ w'.cell? (ad3.add o) = some (.int .i64 z)) := hide (fun w' hk hv => by
                obtain ⟨g1, e1, h1⟩ := iw_at hv (k := k) (unhide HK1)
                obtain ⟨g2, e2, h2⟩ := iw_at hv (k := k + 1) (unhide HK2)
                injection e1 with e1
                injection e1 with e1
                injection e2 with e2
                injection e2 with e2
                subst e1 e2
                rw [hx] at h1
                rw [hy] at h2
                exact ⟨h1, h2, kc hk tv0⟩)
              clear mv0 mv1 tv hx hy tv0
              have K8 := hide (((unhide KK).drew).alloc (.cells #[.int .i64 x, .int .i64 y, .int .i64 z] 82))
              have E8 := hide (((Keep.refl wr).drew).alloc (.cells #[.int .i64 x, .int .i64 y, .int .i64 z] 82))
              have G8 := hide ((unhide GK).keep (unhide E8))
              have V8 := hide ((unhide VK).keep (unhide E8))
              have HC8 := hide (new_v wr.drew (ecs [(x, y, z)]) 82)
              have bx8 : ((wr.alloc (.cells #[.int .i64 x, .int .i64 y, .int .i64 z] 82)).drew).cell? ⟨gb, 4, none⟩ = some pq := (unhide G8).cell.2.2.2.2
              have bx9 : wr.drew.cell? ⟨gb, 4, none⟩ = some pq := kc ((Keep.refl wr).drew) bx
              go_upto_region 15 with fail
              clear bx
              refine wp_region_held_drew (S := (fun w' => w'.cell? ⟨gm, k, none⟩ = some (.int .i64 x) ∧ w'.cell? ⟨gm, k + 1, none⟩ = some (.int .i64 y) ∧ w'.cell? (ad3.add o) = some (.int .i64 z))) (by kernel_rfl) (by exact unhide SK _ ((Keep.refl _).drew)) (fun hHeld => ?_)
              refine wpAnyH_take (i := 0) (v := ?_) rfl (by kernel_rfl) (by kernel_rfl) (by kernel_rfl) (fun _ _ _ h => h) (Or.inl ⟨by rfl, ?_⟩) hHeld ?_
              rotate_left
              · intro w hSw
                try dsimp only at hSw
                go_simp
                try with_reducible rfl
              show wpAnyH _ _ _ _ _ _ _ (Act.put _ (some 55) _) _
              try simp only [Act.put, List.setIfInBounds_toArray, List.set_cons_zero, List.set_cons_succ]
              refine wpAnyH_take (i := 1) (v := ?_) rfl (by kernel_rfl) (by kernel_rfl) (by kernel_rfl) (fun _ _ _ h => h) (Or.inl ⟨by rfl, ?_⟩) hHeld ?_
              rotate_left
              · intro w hSw
                try dsimp only at hSw
                go_simp
                try with_reducible rfl
              show wpAnyH _ _ _ _ _ _ _ (Act.put _ (some 56) _) _
              try simp only [Act.put, List.setIfInBounds_toArray, List.set_cons_zero, List.set_cons_succ]
              refine wpAnyH_take (i := 2) (v := ?_) rfl (by kernel_rfl) (by kernel_rfl) (by kernel_rfl) (fun _ _ _ h => h) (Or.inl ⟨by rfl, ?_⟩) hHeld ?_
              rotate_left
              · intro w hSw
                try dsimp only at hSw
                go_simp
                try with_reducible rfl
              show wpAnyH _ _ _ _ _ _ _ (Act.put _ (some 57) _) _
              try simp only [Act.put, List.setIfInBounds_toArray, List.set_cons_zero, List.set_cons_succ]
              refine wpAnyH_take (i := 3) (v := ?_) rfl (by kernel_rfl) (by kernel_rfl) (by kernel_rfl) (fun _ _ _ h => h) (Or.inl ⟨by rfl, ?_⟩) hHeld ?_
              rotate_left
              · intro w hSw
                try dsimp only at hSw
                go_simp
                try with_reducible rfl
              show wpAnyH _ _ _ _ _ _ _ (Act.put _ (some 58) _) _
              try simp only [Act.put, List.setIfInBounds_toArray, List.set_cons_zero, List.set_cons_succ]
              refine wpAnyH_take (i := 5) (v := ?_) rfl (by kernel_rfl) (by kernel_rfl) (by kernel_rfl) (fun _ _ _ h => h) (Or.inl ⟨by rfl, ?_⟩) hHeld ?_
              rotate_left
              · intro w hSw
                try dsimp only at hSw
                go_simp
                try with_reducible rfl
              show wpAnyH _ _ _ _ _ _ _ (Act.put _ (some 60) _) _
              try simp only [Act.put, List.setIfInBounds_toArray, List.set_cons_zero, List.set_cons_succ]
              refine wpAnyH_take (i := 6) (v := ?_) rfl (by kernel_rfl) (by kernel_rfl) (by kernel_rfl) (fun _ _ _ h => h) (Or.inl ⟨by rfl, ?_⟩) hHeld ?_
              rotate_left
              · intro w hSw
                try dsimp only at hSw
                go_simp
                try with_reducible rfl
              show wpAnyH _ _ _ _ _ _ _ (Act.put _ (some 61) _) _
              try simp only [Act.put, List.setIfInBounds_toArray, List.set_cons_zero, List.set_cons_succ]
              refine wpAnyH_take (i := 7) (v := ?_) rfl (by kernel_rfl) (by kernel_rfl) (by kernel_rfl) (fun _ _ _ h => h) (Or.inl ⟨by rfl, ?_⟩) hHeld ?_
              rotate_left
              · intro w hSw
                try dsimp only at hSw
                go_simp
                try with_reducible rfl
              show wpAnyH _ _ _ _ _ _ _ (Act.put _ (some 62) _) _
              try simp only [Act.put, List.setIfInBounds_toArray, List.set_cons_zero, List.set_cons_succ]
              refine wpAnyH_take (i := 8) (v := ?_) rfl (by kernel_rfl) (by kernel_rfl) (by kernel_rfl) (fun _ _ _ h => h) (Or.inl ⟨by rfl, ?_⟩) hHeld ?_
              rotate_left
              · intro w hSw
                try dsimp only at hSw
                go_simp
                try with_reducible rfl
              show wpAnyH _ _ _ _ _ _ _ (Act.put _ (some 63) _) _
              try simp only [Act.put, List.setIfInBounds_toArray, List.set_cons_zero, List.set_cons_succ]
              refine wpAnyH_take (i := 9) (v := ?_) rfl (by kernel_rfl) (by kernel_rfl) (by kernel_rfl) (fun _ _ _ h => h) (Or.inl ⟨by rfl, ?_⟩) hHeld ?_
              rotate_left
              · intro w hSw
                try dsimp only at hSw
                go_simp
                try with_reducible rfl
              show wpAnyH _ _ _ _ _ _ _ (Act.put _ (some 64) _) _
              try simp only [Act.put, List.setIfInBounds_toArray, List.set_cons_zero, List.set_cons_succ]
              refine wpAnyH_take (i := 10) (v := ?_) rfl (by kernel_rfl) (by kernel_rfl) (by kernel_rfl) (fun _ _ _ h => h) (Or.inl ⟨by rfl, ?_⟩) hHeld ?_
              rotate_left
              · intro w hSw
                try dsimp only at hSw
                go_simp
                try with_reducible rfl
              show wpAnyH _ _ _ _ _ _ _ (Act.put _ (some 65) _) _
              try simp only [Act.put, List.setIfInBounds_toArray, List.set_cons_zero, List.set_cons_succ]
              refine wpAnyH_take (i := 11) (v := ?_) rfl (by kernel_rfl) (by kernel_rfl) (by kernel_rfl) (fun _ _ _ h => h) (Or.inl ⟨by rfl, ?_⟩) hHeld ?_
              rotate_left
              · intro w hSw
                try dsimp only at hSw
                go_simp
                try with_reducible rfl
              show wpAnyH _ _ _ _ _ _ _ (Act.put _ (some 66) _) _
              try simp only [Act.put, List.setIfInBounds_toArray, List.set_cons_zero, List.set_cons_succ]
              refine wpAnyH_take (i := 12) (v := ?_) rfl (by kernel_rfl) (by kernel_rfl) (by kernel_rfl) (fun _ _ _ h => h) (Or.inl ⟨by rfl, ?_⟩) hHeld ?_
              rotate_left
              · intro w hSw
                try dsimp only at hSw
                go_simp
                try with_reducible rfl
              show wpAnyH _ _ _ _ _ _ _ (Act.put _ (some 67) _) _
              try simp only [Act.put, List.setIfInBounds_toArray, List.set_cons_zero, List.set_cons_succ]
              refine wpAnyH_take (i := 13) (v := ?_) rfl (by kernel_rfl) (by kernel_rfl) (by kernel_rfl) (fun _ _ _ h => h) (Or.inl ⟨by rfl, ?_⟩) hHeld ?_
              rotate_left
              · intro w hSw
                try dsimp only at hSw
                go_simp
                try with_reducible rfl
              show wpAnyH _ _ _ _ _ _ _ (Act.put _ (some 68) _) _
              try simp only [Act.put, List.setIfInBounds_toArray, List.set_cons_zero, List.set_cons_succ]
              refine wpAnyH_take (i := 14) (v := ?_) rfl (by kernel_rfl) (by kernel_rfl) (by kernel_rfl) (fun _ _ _ h => h) (Or.inl ⟨by rfl, ?_⟩) hHeld ?_
              rotate_left
              · intro w hSw
                try dsimp only at hSw
                go_simp
                try with_reducible rfl
              show wpAnyH _ _ _ _ _ _ _ (Act.put _ (some 69) _) _
              try simp only [Act.put, List.setIfInBounds_toArray, List.set_cons_zero, List.set_cons_succ]
              refine wpAnyH_take (i := 15) (v := ?_) rfl (by kernel_rfl) (by kernel_rfl) (by kernel_rfl) (fun _ _ _ h => h) (Or.inl ⟨by rfl, ?_⟩) hHeld ?_
              rotate_left
              · intro w hSw
                try dsimp only at hSw
                go_simp
                try with_reducible rfl
              show wpAnyH _ _ _ _ _ _ _ (Act.put _ (some 70) _) _
              try simp only [Act.put, List.setIfInBounds_toArray, List.set_cons_zero, List.set_cons_succ]
              refine wpAnyH_take (i := 16) (v := ?_) rfl (by kernel_rfl) (by kernel_rfl) (by kernel_rfl) (fun _ _ _ h => h) (Or.inl ⟨by rfl, ?_⟩) hHeld ?_
              rotate_left
              · intro w hSw
                try dsimp only at hSw
                go_simp
                try with_reducible rfl
              show wpAnyH _ _ _ _ _ _ _ (Act.put _ (some 71) _) _
              try simp only [Act.put, List.setIfInBounds_toArray, List.set_cons_zero, List.set_cons_succ]
              refine wpAnyH_take (i := 17) (v := ?_) rfl (by kernel_rfl) (by kernel_rfl) (by kernel_rfl) (fun _ _ _ h => h) (Or.inl ⟨by rfl, ?_⟩) hHeld ?_
              rotate_left
              · intro w hSw
                try dsimp only at hSw
                go_simp
                try with_reducible rfl
              show wpAnyH _ _ _ _ _ _ _ (Act.put _ (some 72) _) _
              try simp only [Act.put, List.setIfInBounds_toArray, List.set_cons_zero, List.set_cons_succ]
              refine wpAnyH_take (i := 18) (v := ?_) rfl (by kernel_rfl) (by kernel_rfl) (by kernel_rfl) (fun _ _ _ h => h) (Or.inl ⟨by rfl, ?_⟩) hHeld ?_
              rotate_left
              · intro w hSw
                try dsimp only at hSw
                go_simp
                try with_reducible rfl
              show wpAnyH _ _ _ _ _ _ _ (Act.put _ (some 73) _) _
              try simp only [Act.put, List.setIfInBounds_toArray, List.set_cons_zero, List.set_cons_succ]
              refine wpAnyH_ready (rs := [4, 19]) (by kernel_rfl) (by simp) ?_
              refine AllReadyH.cons rfl (fun K hK => ?_) (AllReadyH.cons rfl (fun K hK => ?_) AllReadyH.nil)
              ·
                clear bx8
                go_simp
                clear hHeld
                refine hK.out _ _ ?_ (fun hHeld => ?_)
                · exact unhide SK _ ((Keep.refl _).drew)
                clear hK K
                try simp only [Act.put, List.setIfInBounds_toArray, List.set_cons_zero, List.set_cons_succ]
                clear bx9
                refine wpAnyH_ready (rs := [19]) (by kernel_rfl) (by simp) ?_
                refine AllReadyH.cons rfl (fun K hK => ?_) AllReadyH.nil
                go_simp
                clear hHeld
                refine hK.out _ _ ?_ (fun hHeld => ?_)
                · exact unhide SK _ (((Keep.refl _).drew).alloc _)
                clear hK K
                try simp only [Act.put, List.setIfInBounds_toArray, List.set_cons_zero, List.set_cons_succ]
                refine wpAnyH_ready (rs := [20]) (by kernel_rfl) (by simp) ?_
                refine AllReadyH.cons rfl (fun K hK => ?_) AllReadyH.nil
                clear hHeld
                refine wp_ap _ _ 73 rfl rfl rfl (Gs.app_ph (b0 := w) (unhide G8) (unhide K8) (unhide HGB) (ad := ⟨wr.heap.size, 0, none⟩) (c := 1) (e := (x, y, z)) (unhide HC8) (unhide HLN) (unhide V8)) ?_
                intro v9 w9 hP
                generalize (PH ++ phL M (RR.getD r []) (OO.getD r []) k).length + 1 = l9 at hP
                obtain ⟨a9, c9, rfl⟩ := hP.sl
                have f9 := hP.fz 4
                have d9 := hP.cell.2.2.2.2
                have K9 := hide hP.k2
                have G9 := hide hP.s
                have HS9 := unhide SW _ hP.k1 (iw_kt (unhide V8) hP.t (by decide))
                refine hK.out _ _ HS9 (fun hHeld => ?_)
                clear hK K HS9
                try simp only [Act.put, List.setIfInBounds_toArray, List.set_cons_zero, List.set_cons_succ]
                refine wpAnyH_take (i := 21) (v := ?_) rfl (by kernel_rfl) (by kernel_rfl) (by kernel_rfl) (fun _ _ _ h => h) (Or.inl ⟨by rfl, ?_⟩) hHeld ?_
                rotate_left
                · intro w hSw
                  try dsimp only at hSw
                  go_simp
                  try with_reducible rfl
                show wpAnyH _ _ _ _ _ _ _ (Act.put _ (some 76) _) _
                try simp only [Act.put, List.setIfInBounds_toArray, List.set_cons_zero, List.set_cons_succ]
                refine wpAnyH_take (i := 22) (v := ?_) rfl (by kernel_rfl) (by kernel_rfl) (by kernel_rfl) (fun _ _ _ h => h) (Or.inl ⟨by rfl, ?_⟩) hHeld ?_
                rotate_left
                · intro w hSw
                  try dsimp only at hSw
                  go_simp
                  try with_reducible rfl
                show wpAnyH _ _ _ _ _ _ _ (Act.put _ (some 77) _) _
                try simp only [Act.put, List.setIfInBounds_toArray, List.set_cons_zero, List.set_cons_succ]
                refine wpAnyH_ready (rs := [23]) (by kernel_rfl) (by simp) ?_
                refine AllReadyH.cons rfl (fun K hK => ?_) AllReadyH.nil
                go_simp
                clear hHeld
                refine hK.out _ _ ?_ (fun hHeld => ?_)
                · exact unhide SW _ (unhide K9) (unhide G9).2
                clear hK K
                try simp only [Act.put, List.setIfInBounds_toArray, List.set_cons_zero, List.set_cons_succ]
                clear d9 f9
                refine wpAnyH_done (by kernel_rfl) ?_ _
                clear hHeld
                go_wp2_with fail
                go_roundw
                case rel => exact ⟨k + 1, _, hkl, by go_num, hide (by rw [unhide HPM, ← List.append_assoc]; exact (unhide G9).1), hide (unhide G9).2, K9⟩
                case measure => simp [intOf]; omega
              ·
                clear bx9
                go_simp
                clear hHeld
                refine hK.out _ _ ?_ (fun hHeld => ?_)
                · exact unhide SK _ (((Keep.refl _).drew).alloc _)
                clear hK K
                try simp only [Act.put, List.setIfInBounds_toArray, List.set_cons_zero, List.set_cons_succ]
                refine wpAnyH_ready (rs := [4]) (by kernel_rfl) (by simp) ?_
                refine AllReadyH.cons rfl (fun K hK => ?_) AllReadyH.nil
                go_simp
                clear hHeld
                refine hK.out _ _ ?_ (fun hHeld => ?_)
                · exact unhide SK _ (((Keep.refl _).drew).alloc _)
                clear hK K
                try simp only [Act.put, List.setIfInBounds_toArray, List.set_cons_zero, List.set_cons_succ]
                clear bx8
                refine wpAnyH_ready (rs := [20]) (by kernel_rfl) (by simp) ?_
                refine AllReadyH.cons rfl (fun K hK => ?_) AllReadyH.nil
                clear hHeld
                refine wp_ap _ _ 73 rfl rfl rfl (Gs.app_ph (b0 := w) (unhide G8) (unhide K8) (unhide HGB) (ad := ⟨wr.heap.size, 0, none⟩) (c := 1) (e := (x, y, z)) (unhide HC8) (unhide HLN) (unhide V8)) ?_
                intro v9 w9 hP
                generalize (PH ++ phL M (RR.getD r []) (OO.getD r []) k).length + 1 = l9 at hP
                obtain ⟨a9, c9, rfl⟩ := hP.sl
                have f9 := hP.fz 4
                have d9 := hP.cell.2.2.2.2
                have K9 := hide hP.k2
                have G9 := hide hP.s
                have HS9 := unhide SW _ hP.k1 (iw_kt (unhide V8) hP.t (by decide))
                refine hK.out _ _ HS9 (fun hHeld => ?_)
                clear hK K HS9
                try simp only [Act.put, List.setIfInBounds_toArray, List.set_cons_zero, List.set_cons_succ]
                refine wpAnyH_take (i := 21) (v := ?_) rfl (by kernel_rfl) (by kernel_rfl) (by kernel_rfl) (fun _ _ _ h => h) (Or.inl ⟨by rfl, ?_⟩) hHeld ?_
                rotate_left
                · intro w hSw
                  try dsimp only at hSw
                  go_simp
                  try with_reducible rfl
                show wpAnyH _ _ _ _ _ _ _ (Act.put _ (some 76) _) _
                try simp only [Act.put, List.setIfInBounds_toArray, List.set_cons_zero, List.set_cons_succ]
                refine wpAnyH_take (i := 22) (v := ?_) rfl (by kernel_rfl) (by kernel_rfl) (by kernel_rfl) (fun _ _ _ h => h) (Or.inl ⟨by rfl, ?_⟩) hHeld ?_
                rotate_left
                · intro w hSw
                  try dsimp only at hSw
                  go_simp
                  try with_reducible rfl
                show wpAnyH _ _ _ _ _ _ _ (Act.put _ (some 77) _) _
                try simp only [Act.put, List.setIfInBounds_toArray, List.set_cons_zero, List.set_cons_succ]
                refine wpAnyH_ready (rs := [23]) (by kernel_rfl) (by simp) ?_
                refine AllReadyH.cons rfl (fun K hK => ?_) AllReadyH.nil
                go_simp
                clear hHeld
                refine hK.out _ _ ?_ (fun hHeld => ?_)
                · exact unhide SW _ (unhide K9) (unhide G9).2
                clear hK K
                try simp only [Act.put, List.setIfInBounds_toArray, List.set_cons_zero, List.set_cons_succ]
                clear d9 f9
                refine wpAnyH_done (by kernel_rfl) ?_ _
                clear hHeld
                go_wp2_with fail
                go_roundw
                case rel => exact ⟨k + 1, _, hkl, by go_num, hide (by rw [unhide HPM, ← List.append_assoc]; exact (unhide G9).1), hide (unhide G9).2, K9⟩
                case measure => simp [intOf]; omega
            · have lk : ¬ (k : Int) < (n : Int) := by omega
              have lkj : ¬ (k : Int) < (j : Int) + 1 := by have := unhide HN9; omega
              obtain rfl : k = n := by omega
              have TTr := hide (fun (v : Value) (L : List Int) (w' : World) (h : Iw 3 w' v L) (hL : L.length ≤ 1000000) => (unhide TT) v L w' h hL)
              have K4 := hide ((unhide KK).alloc (.cells #[.slice a7 (k + 1) e7] 49))
              have G4 := hide ((unhide GK).keep ((Keep.refl wr).alloc (.cells #[.slice a7 (k + 1) e7] 49)))
              have V4 := hide ((unhide VK).keep ((Keep.refl wr).alloc (.cells #[.slice a7 (k + 1) e7] 49)))
              have HC4 := hide (box_c wr [.slice a7 (k + 1) e7] 49 0 _ rfl)
              have bc3 := (unhide GK).cell.2.2.2.1
              have HMKL := hide b2
              have HPLL := hide b3
              go_upto_region 17 with fail
              go_upto_region 18 with (at_builtin; refine wpList_ap rfl _ _ 28 rfl rfl rfl (Gs.app_mk (b0 := w) (unhide G4) (unhide K4) (unhide HGB) (ad := ⟨wr.heap.size, 0, none⟩) (c := 1) (u := .slice a7 (k + 1) e7) (unhide HC4) (unhide V4) (unhide HMKL)) ?_; intro v9 w9 hP; generalize MK.length + 1 = l9 at hP; obtain ⟨a9, c9, rfl⟩ := hP.sl; have f9 := hP.fz 3; have d9 := hP.cell.2.2.2.1; have K10 := hide hP.k2; have G10 := hide hP.s; clear hP)
              clear bc3 G4 V4 K4 HC4 GK VK KK f9 d9
              generalize w9.setCell ⟨gb, 3, none⟩ (.slice a9 l9 c9) = w10 at K10 G10 ⊢
              have K11 := K10
              have SC : Hid (∀ w', Keep w w' → w'.cell? ⟨g9, r, none⟩ = some (.slice au (j + 1) cu2)) := hide (fun w' hk => kc hk (unhide CV))
              have TD := hide ((unhide TTr) (.slice au (j + 1) cu2) (OO.getD r []) w10.drew (by rw [unhide HN9]; exact (unhide HV).keep (unhide K10).drew) (by rw [unhide HOM]; omega))
              have bp9 : w10.drew.cell? ⟨gb, 2, none⟩ = some pl := kc ((Keep.refl w10).drew) (unhide G10).cell.2.2.1
              refine wp_region_held_drew (S := (fun w' => w'.cell? ⟨g9, r, none⟩ = some (.slice au (j + 1) cu2))) (by kernel_rfl) (by exact unhide SC _ ((unhide K11).trans ((Keep.refl _).drew))) (fun hHeld => ?_)
              refine wpAnyH_take (i := 0) (v := ?_) rfl (by kernel_rfl) (by kernel_rfl) (by kernel_rfl) (fun _ _ _ h => h) (Or.inl ⟨by rfl, ?_⟩) hHeld ?_
              rotate_left
              · intro w hSw
                try dsimp only at hSw
                go_simp
                try with_reducible rfl
              show wpAnyH _ _ _ _ _ _ _ (Act.put _ (some 89) _) _
              try simp only [Act.put, List.setIfInBounds_toArray, List.set_cons_zero, List.set_cons_succ]
              refine wpAnyH_take (i := 1) (v := ?_) rfl (by kernel_rfl) (by kernel_rfl) (by kernel_rfl) (fun _ _ _ h => h) (Or.inl ⟨by rfl, ?_⟩) hHeld ?_
              rotate_left
              · intro w hSw
                try dsimp only at hSw
                go_simp
                try with_reducible rfl
              show wpAnyH _ _ _ _ _ _ _ (Act.put _ (some 90) _) _
              try simp only [Act.put, List.setIfInBounds_toArray, List.set_cons_zero, List.set_cons_succ]
              refine wpAnyH_take (i := 2) (v := ?_) rfl (by kernel_rfl) (by kernel_rfl) (by kernel_rfl) (fun _ _ _ h => h) (Or.inl ⟨by rfl, ?_⟩) hHeld ?_
              rotate_left
              · intro w hSw
                try dsimp only at hSw
                go_simp
                try with_reducible rfl
              show wpAnyH _ _ _ _ _ _ _ (Act.put _ (some 91) _) _
              try simp only [Act.put, List.setIfInBounds_toArray, List.set_cons_zero, List.set_cons_succ]
              refine wpAnyH_take (i := 3) (v := ?_) rfl (by kernel_rfl) (by kernel_rfl) (by kernel_rfl) (fun _ _ _ h => h) (Or.inl ⟨by rfl, ?_⟩) hHeld ?_
              rotate_left
              · intro w hSw
                try dsimp only at hSw
                go_simp
                try with_reducible rfl
              show wpAnyH _ _ _ _ _ _ _ (Act.put _ (some 92) _) _
              try simp only [Act.put, List.setIfInBounds_toArray, List.set_cons_zero, List.set_cons_succ]
              refine wpAnyH_take (i := 5) (v := ?_) rfl (by kernel_rfl) (by kernel_rfl) (by kernel_rfl) (fun _ _ _ h => h) (Or.inl ⟨by rfl, ?_⟩) hHeld ?_
              rotate_left
              · intro w hSw
                try dsimp only at hSw
                go_simp
                try with_reducible rfl
              show wpAnyH _ _ _ _ _ _ _ (Act.put _ (some 94) _) _
              try simp only [Act.put, List.setIfInBounds_toArray, List.set_cons_zero, List.set_cons_succ]
              refine wpAnyH_take (i := 6) (v := ?_) rfl (by kernel_rfl) (by kernel_rfl) (by kernel_rfl) (fun _ _ _ h => h) (Or.inl ⟨by rfl, ?_⟩) hHeld ?_
              rotate_left
              · intro w hSw
                try dsimp only at hSw
                go_simp
                try with_reducible rfl
              show wpAnyH _ _ _ _ _ _ _ (Act.put _ (some 95) _) _
              try simp only [Act.put, List.setIfInBounds_toArray, List.set_cons_zero, List.set_cons_succ]
              refine wpAnyH_take (i := 7) (v := ?_) rfl (by kernel_rfl) (by kernel_rfl) (by kernel_rfl) (fun _ _ _ h => h) (Or.inl ⟨by rfl, ?_⟩) hHeld ?_
              rotate_left
              · intro w hSw
                try dsimp only at hSw
                go_simp
                try with_reducible rfl
              show wpAnyH _ _ _ _ _ _ _ (Act.put _ (some 96) _) _
              try simp only [Act.put, List.setIfInBounds_toArray, List.set_cons_zero, List.set_cons_succ]
              refine wpAnyH_take (i := 8) (v := ?_) rfl (by kernel_rfl) (by kernel_rfl) (by kernel_rfl) (fun _ _ _ h => h) (Or.inl ⟨by rfl, ?_⟩) hHeld ?_
              rotate_left
              · intro w hSw
                try dsimp only at hSw
                go_simp
                try with_reducible rfl
              show wpAnyH _ _ _ _ _ _ _ (Act.put _ (some 97) _) _
              try simp only [Act.put, List.setIfInBounds_toArray, List.set_cons_zero, List.set_cons_succ]
              refine wpAnyH_ready (rs := [4, 9]) (by kernel_rfl) (by simp) ?_
              refine AllReadyH.cons rfl (fun K hK => ?_) (AllReadyH.cons rfl (fun K hK => ?_) AllReadyH.nil)
              ·
                go_simp
                clear hHeld
                refine hK.out _ _ ?_ (fun hHeld => ?_)
                · exact unhide SC _ ((unhide K11).trans ((Keep.refl _).drew))
                clear hK K
                try simp only [Act.put, List.setIfInBounds_toArray, List.set_cons_zero, List.set_cons_succ]
                refine wpAnyH_ready (rs := [9]) (by kernel_rfl) (by simp) ?_
                refine AllReadyH.cons rfl (fun K hK => ?_) AllReadyH.nil
                go_simp
                clear hHeld
                (refine (unhide TD).mono ?_; rintro e w5 ⟨v5, rfl, hk5, hi5⟩; obtain ⟨at5, ct5, hv5⟩ := hi5.sl; subst hv5; have I5 : Hid (Iw 3 w5 (.slice at5 (Od.tnL (OO.getD r [])).length ct5) (Od.tnL (OO.getD r []))) := hide hi5; clear hi5; obtain ⟨nt5, hnt5⟩ : ∃ n, (Od.tnL (OO.getD r [])).length = n := ⟨_, rfl⟩; rw [hnt5] at I5 ⊢; have bp5 : w5.cell? ⟨gb, 2, none⟩ = some pl := kc hk5 bp9; have bp6 : (w5.alloc (.cells #[.slice at5 nt5 ct5] 49)).cell? ⟨gb, 2, none⟩ = some pl := kc ((Keep.refl w5).alloc _) bp5)
                try go_wp2_with fail
                refine hK.out _ _ ?_ (fun hHeld => ?_)
                · exact unhide SC _ ((unhide K11).trans (Keep.trans (Keep.drew (Keep.refl w10)) hk5))
                clear hK K
                try simp only [Act.put, List.setIfInBounds_toArray, List.set_cons_zero, List.set_cons_succ]
                clear bp5 bp6 bp9
                refine wpAnyH_ready (rs := [10]) (by kernel_rfl) (by simp) ?_
                refine AllReadyH.cons rfl (fun K hK => ?_) AllReadyH.nil
                go_simp
                clear hHeld
                refine hK.out _ _ ?_ (fun hHeld => ?_)
                · exact unhide SC _ ((unhide K11).trans (Keep.trans (Keep.drew (Keep.refl w10)) (hk5.alloc _)))
                clear hK K
                try simp only [Act.put, List.setIfInBounds_toArray, List.set_cons_zero, List.set_cons_succ]
                have K12 := hide ((unhide K11).trans (Keep.trans (Keep.drew (Keep.refl w10)) (hk5.alloc (.cells #[.slice at5 nt5 ct5] 49))))
                have G12 := hide ((unhide G10).keep (Keep.trans (Keep.drew (Keep.refl w10)) (hk5.alloc (.cells #[.slice at5 nt5 ct5] 49))))
                have V12 : Hid (Iw 3 (w5.alloc (.cells #[.slice at5 nt5 ct5] 49)) (.slice at5 nt5 ct5) (Od.tnL (OO.getD r []))) := hide (Iw.keep (unhide I5) ((Keep.refl w5).alloc _))
                have HC12 := box_c w5 [.slice at5 nt5 ct5] 49 0 _ rfl
                refine wpAnyH_ready (rs := [11]) (by kernel_rfl) (by simp) ?_
                refine AllReadyH.cons rfl (fun K hK => ?_) AllReadyH.nil
                clear hHeld
                refine wp_ap _ _ 28 rfl rfl rfl (Gs.app_pl (b0 := w) (unhide G12) (unhide K12) (unhide HGB) (ad := ⟨w5.heap.size, 0, none⟩) (c := 1) (u := .slice at5 nt5 ct5) HC12 (unhide V12) (unhide HPLL)) ?_
                intro v13 w13 hP
                generalize PL.length + 1 = l13 at hP
                obtain ⟨a13, c13, rfl⟩ := hP.sl
                have f13 := hP.fz 2
                have d13 := hP.cell.2.2.1
                have K13 := hide hP.k2
                have G13 := hide hP.s
                refine hK.out _ _ (unhide SC _ hP.k1) (fun hHeld => ?_)
                clear hK K HC12
                try simp only [Act.put, List.setIfInBounds_toArray, List.set_cons_zero, List.set_cons_succ]
                refine wpAnyH_take (i := 12) (v := ?_) rfl (by kernel_rfl) (by kernel_rfl) (by kernel_rfl) (fun _ _ _ h => h) (Or.inl ⟨by rfl, ?_⟩) hHeld ?_
                rotate_left
                · intro w hSw
                  try dsimp only at hSw
                  go_simp
                  try with_reducible rfl
                show wpAnyH _ _ _ _ _ _ _ (Act.put _ (some 101) _) _
                try simp only [Act.put, List.setIfInBounds_toArray, List.set_cons_zero, List.set_cons_succ]
                refine wpAnyH_take (i := 13) (v := ?_) rfl (by kernel_rfl) (by kernel_rfl) (by kernel_rfl) (fun _ _ _ h => h) (Or.inl ⟨by rfl, ?_⟩) hHeld ?_
                rotate_left
                · intro w hSw
                  try dsimp only at hSw
                  go_simp
                  try with_reducible rfl
                show wpAnyH _ _ _ _ _ _ _ (Act.put _ (some 102) _) _
                try simp only [Act.put, List.setIfInBounds_toArray, List.set_cons_zero, List.set_cons_succ]
                refine wpAnyH_ready (rs := [14]) (by kernel_rfl) (by simp) ?_
                refine AllReadyH.cons rfl (fun K hK => ?_) AllReadyH.nil
                go_simp
                clear hHeld
                refine hK.out _ _ ?_ (fun hHeld => ?_)
                · exact unhide SC _ (unhide K13)
                clear hK K
                try simp only [Act.put, List.setIfInBounds_toArray, List.set_cons_zero, List.set_cons_succ]
                clear d13 f13
                refine wpAnyH_done (by kernel_rfl) ?_ _
                clear hHeld
                go_wp2_with fail
                go_roundw
                case rel => exact ⟨r + 1, _, _, _, hlt, by go_num, hide (by rw [unhide HE1, unhide HE2, unhide HE3, unhide HE4]; exact unhide G13), K13⟩
                case measure => simp [intOf]; omega
              ·
                go_simp
                clear hHeld
                (refine (unhide TD).mono ?_; rintro e w5 ⟨v5, rfl, hk5, hi5⟩; obtain ⟨at5, ct5, hv5⟩ := hi5.sl; subst hv5; have I5 : Hid (Iw 3 w5 (.slice at5 (Od.tnL (OO.getD r [])).length ct5) (Od.tnL (OO.getD r []))) := hide hi5; clear hi5; obtain ⟨nt5, hnt5⟩ : ∃ n, (Od.tnL (OO.getD r [])).length = n := ⟨_, rfl⟩; rw [hnt5] at I5 ⊢; have bp5 : w5.cell? ⟨gb, 2, none⟩ = some pl := kc hk5 bp9; have bp6 : (w5.alloc (.cells #[.slice at5 nt5 ct5] 49)).cell? ⟨gb, 2, none⟩ = some pl := kc ((Keep.refl w5).alloc _) bp5)
                try go_wp2_with fail
                refine hK.out _ _ ?_ (fun hHeld => ?_)
                · exact unhide SC _ ((unhide K11).trans (Keep.trans (Keep.drew (Keep.refl w10)) hk5))
                clear hK K
                try simp only [Act.put, List.setIfInBounds_toArray, List.set_cons_zero, List.set_cons_succ]
                refine wpAnyH_ready (rs := [4, 10]) (by kernel_rfl) (by simp) ?_
                refine AllReadyH.cons rfl (fun K hK => ?_) (AllReadyH.cons rfl (fun K hK => ?_) AllReadyH.nil)
                ·
                  clear bp6
                  go_simp
                  clear hHeld
                  refine hK.out _ _ ?_ (fun hHeld => ?_)
                  · exact unhide SC _ ((unhide K11).trans (Keep.trans (Keep.drew (Keep.refl w10)) hk5))
                  clear hK K
                  try simp only [Act.put, List.setIfInBounds_toArray, List.set_cons_zero, List.set_cons_succ]
                  clear bp5 bp9
                  refine wpAnyH_ready (rs := [10]) (by kernel_rfl) (by simp) ?_
                  refine AllReadyH.cons rfl (fun K hK => ?_) AllReadyH.nil
                  go_simp
                  clear hHeld
                  refine hK.out _ _ ?_ (fun hHeld => ?_)
                  · exact unhide SC _ ((unhide K11).trans (Keep.trans (Keep.drew (Keep.refl w10)) (hk5.alloc _)))
                  clear hK K
                  try simp only [Act.put, List.setIfInBounds_toArray, List.set_cons_zero, List.set_cons_succ]
                  have K12 := hide ((unhide K11).trans (Keep.trans (Keep.drew (Keep.refl w10)) (hk5.alloc (.cells #[.slice at5 nt5 ct5] 49))))
                  have G12 := hide ((unhide G10).keep (Keep.trans (Keep.drew (Keep.refl w10)) (hk5.alloc (.cells #[.slice at5 nt5 ct5] 49))))
                  have V12 : Hid (Iw 3 (w5.alloc (.cells #[.slice at5 nt5 ct5] 49)) (.slice at5 nt5 ct5) (Od.tnL (OO.getD r []))) := hide (Iw.keep (unhide I5) ((Keep.refl w5).alloc _))
                  have HC12 := box_c w5 [.slice at5 nt5 ct5] 49 0 _ rfl
                  refine wpAnyH_ready (rs := [11]) (by kernel_rfl) (by simp) ?_
                  refine AllReadyH.cons rfl (fun K hK => ?_) AllReadyH.nil
                  clear hHeld
                  refine wp_ap _ _ 28 rfl rfl rfl (Gs.app_pl (b0 := w) (unhide G12) (unhide K12) (unhide HGB) (ad := ⟨w5.heap.size, 0, none⟩) (c := 1) (u := .slice at5 nt5 ct5) HC12 (unhide V12) (unhide HPLL)) ?_
                  intro v13 w13 hP
                  generalize PL.length + 1 = l13 at hP
                  obtain ⟨a13, c13, rfl⟩ := hP.sl
                  have f13 := hP.fz 2
                  have d13 := hP.cell.2.2.1
                  have K13 := hide hP.k2
                  have G13 := hide hP.s
                  refine hK.out _ _ (unhide SC _ hP.k1) (fun hHeld => ?_)
                  clear hK K HC12
                  try simp only [Act.put, List.setIfInBounds_toArray, List.set_cons_zero, List.set_cons_succ]
                  refine wpAnyH_take (i := 12) (v := ?_) rfl (by kernel_rfl) (by kernel_rfl) (by kernel_rfl) (fun _ _ _ h => h) (Or.inl ⟨by rfl, ?_⟩) hHeld ?_
                  rotate_left
                  · intro w hSw
                    try dsimp only at hSw
                    go_simp
                    try with_reducible rfl
                  show wpAnyH _ _ _ _ _ _ _ (Act.put _ (some 101) _) _
                  try simp only [Act.put, List.setIfInBounds_toArray, List.set_cons_zero, List.set_cons_succ]
                  refine wpAnyH_take (i := 13) (v := ?_) rfl (by kernel_rfl) (by kernel_rfl) (by kernel_rfl) (fun _ _ _ h => h) (Or.inl ⟨by rfl, ?_⟩) hHeld ?_
                  rotate_left
                  · intro w hSw
                    try dsimp only at hSw
                    go_simp
                    try with_reducible rfl
                  show wpAnyH _ _ _ _ _ _ _ (Act.put _ (some 102) _) _
                  try simp only [Act.put, List.setIfInBounds_toArray, List.set_cons_zero, List.set_cons_succ]
                  refine wpAnyH_ready (rs := [14]) (by kernel_rfl) (by simp) ?_
                  refine AllReadyH.cons rfl (fun K hK => ?_) AllReadyH.nil
                  go_simp
                  clear hHeld
                  refine hK.out _ _ ?_ (fun hHeld => ?_)
                  · exact unhide SC _ (unhide K13)
                  clear hK K
                  try simp only [Act.put, List.setIfInBounds_toArray, List.set_cons_zero, List.set_cons_succ]
                  clear d13 f13
                  refine wpAnyH_done (by kernel_rfl) ?_ _
                  clear hHeld
                  go_wp2_with fail
                  go_roundw
                  case rel => exact ⟨r + 1, _, _, _, hlt, by go_num, hide (by rw [unhide HE1, unhide HE2, unhide HE3, unhide HE4]; exact unhide G13), K13⟩
                  case measure => simp [intOf]; omega
                ·
                  go_simp
                  clear hHeld
                  refine hK.out _ _ ?_ (fun hHeld => ?_)
                  · exact unhide SC _ ((unhide K11).trans (Keep.trans (Keep.drew (Keep.refl w10)) (hk5.alloc _)))
                  clear hK K
                  try simp only [Act.put, List.setIfInBounds_toArray, List.set_cons_zero, List.set_cons_succ]
                  refine wpAnyH_ready (rs := [4]) (by kernel_rfl) (by simp) ?_
                  refine AllReadyH.cons rfl (fun K hK => ?_) AllReadyH.nil
                  go_simp
                  clear hHeld
                  refine hK.out _ _ ?_ (fun hHeld => ?_)
                  · exact unhide SC _ ((unhide K11).trans (Keep.trans (Keep.drew (Keep.refl w10)) (hk5.alloc _)))
                  clear hK K
                  try simp only [Act.put, List.setIfInBounds_toArray, List.set_cons_zero, List.set_cons_succ]
                  clear bp5 bp6 bp9
                  have K12 := hide ((unhide K11).trans (Keep.trans (Keep.drew (Keep.refl w10)) (hk5.alloc (.cells #[.slice at5 nt5 ct5] 49))))
                  have G12 := hide ((unhide G10).keep (Keep.trans (Keep.drew (Keep.refl w10)) (hk5.alloc (.cells #[.slice at5 nt5 ct5] 49))))
                  have V12 : Hid (Iw 3 (w5.alloc (.cells #[.slice at5 nt5 ct5] 49)) (.slice at5 nt5 ct5) (Od.tnL (OO.getD r []))) := hide (Iw.keep (unhide I5) ((Keep.refl w5).alloc _))
                  have HC12 := box_c w5 [.slice at5 nt5 ct5] 49 0 _ rfl
                  refine wpAnyH_ready (rs := [11]) (by kernel_rfl) (by simp) ?_
                  refine AllReadyH.cons rfl (fun K hK => ?_) AllReadyH.nil
                  clear hHeld
                  refine wp_ap _ _ 28 rfl rfl rfl (Gs.app_pl (b0 := w) (unhide G12) (unhide K12) (unhide HGB) (ad := ⟨w5.heap.size, 0, none⟩) (c := 1) (u := .slice at5 nt5 ct5) HC12 (unhide V12) (unhide HPLL)) ?_
                  intro v13 w13 hP
                  generalize PL.length + 1 = l13 at hP
                  obtain ⟨a13, c13, rfl⟩ := hP.sl
                  have f13 := hP.fz 2
                  have d13 := hP.cell.2.2.1
                  have K13 := hide hP.k2
                  have G13 := hide hP.s
                  refine hK.out _ _ (unhide SC _ hP.k1) (fun hHeld => ?_)
                  clear hK K HC12
                  try simp only [Act.put, List.setIfInBounds_toArray, List.set_cons_zero, List.set_cons_succ]
                  refine wpAnyH_take (i := 12) (v := ?_) rfl (by kernel_rfl) (by kernel_rfl) (by kernel_rfl) (fun _ _ _ h => h) (Or.inl ⟨by rfl, ?_⟩) hHeld ?_
                  rotate_left
                  · intro w hSw
                    try dsimp only at hSw
                    go_simp
                    try with_reducible rfl
                  show wpAnyH _ _ _ _ _ _ _ (Act.put _ (some 101) _) _
                  try simp only [Act.put, List.setIfInBounds_toArray, List.set_cons_zero, List.set_cons_succ]
                  refine wpAnyH_take (i := 13) (v := ?_) rfl (by kernel_rfl) (by kernel_rfl) (by kernel_rfl) (fun _ _ _ h => h) (Or.inl ⟨by rfl, ?_⟩) hHeld ?_
                  rotate_left
                  · intro w hSw
                    try dsimp only at hSw
                    go_simp
                    try with_reducible rfl
                  show wpAnyH _ _ _ _ _ _ _ (Act.put _ (some 102) _) _
                  try simp only [Act.put, List.setIfInBounds_toArray, List.set_cons_zero, List.set_cons_succ]
                  refine wpAnyH_ready (rs := [14]) (by kernel_rfl) (by simp) ?_
                  refine AllReadyH.cons rfl (fun K hK => ?_) AllReadyH.nil
                  go_simp
                  clear hHeld
                  refine hK.out _ _ ?_ (fun hHeld => ?_)
                  · exact unhide SC _ (unhide K13)
                  clear hK K
                  try simp only [Act.put, List.setIfInBounds_toArray, List.set_cons_zero, List.set_cons_succ]
                  clear d13 f13
                  refine wpAnyH_done (by kernel_rfl) ?_ _
                  clear hHeld
                  go_wp2_with fail
                  go_roundw
                  case rel => exact ⟨r + 1, _, _, _, hlt, by go_num, hide (by rw [unhide HE1, unhide HE2, unhide HE3, unhide HE4]; exact unhide G13), K13⟩
                  case measure => simp [intOf]; omega
    · have li : ¬ (r : Int) < (R : Int) := by omega
      obtain rfl : r = R := by omega
      go_wp2_with fail
      try go_ret
      exact (unhide HQ) _ _ _ _ _ (unhide GS) (unhide KW)
end Gp
end Go.Proofs.Ytakandlehneciaa
