/- The document's Sum, over letters. -/
import Derived.Test.YtdgmndjofbdgeaaCrH
import Derived.Test.YtdgmndjofbdgeaaLMath
import Derived.Test.YtdgmndjofbdgeaaCrD
import Derived.Deep.DrawnRows
import Derived.Deep.RegionHeld3
import Derived.Laws.AppendOwn
import Derived.Laws.OwnMore
import Derived.Laws.MakeOwn
import Derived.OwnWalk
namespace Go.Proofs.Ytdgmndjofbdgeaa
open Go.RowKit
attribute [local go_sem ↓] Go.wp_at_zero Go.wp_at_succ
set_option linter.unusedVariables false
set_option linter.unusedSimpArgs false
set_option maxRecDepth 10000
namespace Cr
theorem set_cl {W : World} {b i : Nat} {arr : Array Value} {t : TypeId} {fr : Nat × Nat} (h : W.heap[b]? = some (.cells arr t fr)) (v : Value) : (W.setCell ⟨b, i, none⟩ v).heap[b]? = some (.cells (arr.setIfInBounds i v) t fr) := by
  simp [World.setCell, Array.getElem?_modify, h]
/-- a call that compares two fractions -/
def CmpC (F : Nat) : Prop := ∀ (f t : Int × Int) (w : World), In f.1 → In f.2 → In t.1 → In t.2 → Calls Try.prog F #[.agg #[.int .i64 f.1, .int .i64 f.2], .agg #[.int .i64 t.1, .int .i64 t.2]] w fun e w' => e = .returned (.int .i64 (gtF f t)) ∧ Keep w w'
/-- what is best behind j rings -/
def Bst (L : List (Int × Int)) (j : Nat) (g : Int) (f : Int × Int) : Prop := (j = 0 ∧ g = -1 ∧ f = (0, 0)) ∨ (0 < j ∧ g = ((gst L j : Nat) : Int) ∧ f = L.getD (gst L j) (0, 0))
theorem gst_one (L : List (Int × Int)) : gst L 1 = 0 := by
  rw [gst]
  split <;> rfl
theorem Bst.first {L : List (Int × Int)} : Bst L 1 ((0 : Nat) : Int) (L.getD 0 (0, 0)) := .inr ⟨by omega, by rw [gst_one], by rw [gst_one]⟩
theorem Bst.more {L : List (Int × Int)} {j : Nat} {g : Int} {f : Int × Int} (h : Bst L j g f) (hj : 0 < j) (hg : 0 < gtF (L.getD j (0, 0)) f) : Bst L (j + 1) ((j : Nat) : Int) (L.getD j (0, 0)) := by
  rcases h with ⟨h, _⟩ | ⟨_, rfl, rfl⟩
  · omega
  · refine .inr ⟨by omega, ?_, ?_⟩ <;> rw [gst, if_pos hg]
theorem Bst.less {L : List (Int × Int)} {j : Nat} {g : Int} {f : Int × Int} (h : Bst L j g f) (hj : 0 < j) (hg : ¬ 0 < gtF (L.getD j (0, 0)) f) : Bst L (j + 1) g f := by
  rcases h with ⟨h, _⟩ | ⟨_, rfl, rfl⟩
  · omega
  · refine .inr ⟨by omega, ?_, ?_⟩ <;> rw [gst, if_neg hg]
theorem Bst.in {L : List (Int × Int)} {j : Nat} {g : Int} {f : Int × Int} (h : Bst L j g f) (hL : ∀ x ∈ L, In x.1 ∧ In x.2) : In f.1 ∧ In f.2 := by
  have z : In (0 : Int) := by unfold In; omega
  rcases h with ⟨_, _, rfl⟩ | ⟨_, _, rfl⟩
  · exact ⟨z, z⟩
  · rw [List.getD_eq_getElem?_getD]
    cases h9 : L[gst L j]? with
    | none => exact ⟨z, z⟩
    | some y => exact hL y (List.mem_of_getElem? h9)
set_option maxHeartbeats 16000000 in
theorem rsum_main (s : ByteArray) (x1 : Option Addr) (n1 c1 : Nat) (x2 : Option Addr) (n2 c2 : Nat) (x3 : Option Addr) (n3 c3 : Nat) (x4 : Option Addr) (n4 c4 : Nat) (x5 : Option Addr) (n5 c5 : Nat) (p : Int) (xf : Option Addr) (cf : Nat) (XG : Nat → Option Addr) (NG CG : Nat → Nat) (FR : Nat → Nat → Bool) (XR : Nat → Nat → Option Addr) (NR CR : Nat → Nat → Nat) (Q : Nat → Nat → List (Int × Int)) (w : World) (hn : n4 ≤ 50)
    (HNG : Hid (∀ k, k < n4 → 0 < NG k ∧ NG k ≤ 1000))
    (HQ : Hid (∀ k j, k < n4 → j < NG k → (Q k j).length ≤ 50 ∧ ∀ x ∈ Q k j, In x.1 ∧ In x.2))
    (HC : Hid (∀ k, k < n4 → ∃ ad, x4 = some ad ∧ ad.block < w.heap.size ∧ w.cell? (ad.add k) = some (.slice (XG k) (NG k) (CG k))))
    (HR : Hid (∀ k, k < n4 → ∀ j, j < NG k → ∃ ad, XG k = some ad ∧ ad.block < w.heap.size ∧ w.cell? (ad.add (j * 2)) = some (.bool (FR k j)) ∧ w.cell? ⟨(ad.add (j * 2)).block, (ad.add (j * 2)).off + 1, none⟩ = some (.slice (XR k j) (NR k j) (CR k j))))
    (TR : Hid (∀ k j, k < n4 → j < NG k → ∀ w', Keep w w' → Calls Try.prog 27 #[.agg #[.string s, .slice x1 n1 c1, .slice x2 n2 c2, .slice x3 n3 c3, .slice x4 n4 c4, .slice x5 n5 c5, .int .i64 p], .agg #[.bool (FR k j), .slice (XR k j) (NR k j) (CR k j)], .slice xf n3 cf] w' (Fq (Q k j) w')))
    (TS : Hid (SumC 15)) (TC : Hid (CmpC 16)) :
    Calls Try.prog 8 #[.agg #[.string s, .slice x1 n1 c1, .slice x2 n2 c2, .slice x3 n3 c3, .slice x4 n4 c4, .slice x5 n5 c5, .int .i64 p], .slice xf n3 cf] w (Cq Q NG n4 w) := by
  obtain ⟨i0, hi0, hz00, hz01, hz02⟩ := info_f infoF
  obtain ⟨i1, hi1, hz10, hz11, hz12⟩ := info_f infoI
  obtain ⟨r, HZR⟩ : ∃ r, Hid (fz (zK Q NG) 0 n4 = r) := ⟨_, hide rfl⟩
  have hnw0 := heap_alloc_new w (.cells #[.string s, .slice x1 n1 c1, .slice x2 n2 c2, .slice x3 n3 c3, .slice x4 n4 c4, .slice x5 n5 c5, .int .i64 p] 28)
  have hnw1 := heap_alloc_new (w.alloc (.cells #[.string s, .slice x1 n1 c1, .slice x2 n2 c2, .slice x3 n3 c3, .slice x4 n4 c4, .slice x5 n5 c5, .int .i64 p] 28)) (.cells #[.int .i64 0, .int .i64 0, .slice none 0 0] 35)
  have K0 := hide (((Keep.refl w).alloc (.cells #[.string s, .slice x1 n1 c1, .slice x2 n2 c2, .slice x3 n3 c3, .slice x4 n4 c4, .slice x5 n5 c5, .int .i64 p] 28)).alloc (.cells #[.int .i64 0, .int .i64 0, .slice none 0 0] 35))
  have hnwa : ((w.alloc (.cells #[.string s, .slice x1 n1 c1, .slice x2 n2 c2, .slice x3 n3 c3, .slice x4 n4 c4, .slice x5 n5 c5, .int .i64 p] 28)).alloc (.cells #[.int .i64 0, .int .i64 0, .slice none 0 0] 35)).heap[w.heap.size]? = some (.cells #[.string s, .slice x1 n1 c1, .slice x2 n2 c2, .slice x3 n3 c3, .slice x4 n4 c4, .slice x5 n5 c5, .int .i64 p] 28 (0, 0)) := by rw [heap_alloc_old _ _ (by simp)]; exact hnw0
  rw [World.size_alloc] at hnw1
  clear hnw0
  go_enter Try.func8, Try.ntmps8
  go_upto_region 1 with fail
  generalize (w.alloc (.cells #[.string s, .slice x1 n1 c1, .slice x2 n2 c2, .slice x3 n3 c3, .slice x4 n4 c4, .slice x5 n5 c5, .int .i64 p] 28)).alloc (.cells #[.int .i64 0, .int .i64 0, .slice none 0 0] 35) = w0 at hnwa hnw1 K0 ⊢
  obtain ⟨q0, HQ0⟩ : ∃ q, Hid (w.heap.size = q) := ⟨_, hide rfl⟩
  rw [uq HQ0] at hnwa hnw1 ⊢
  have HX0 : Hid (∀ w' : World, Keep w0 w' → (w'.cell? ⟨q0, 0, none⟩ = some (.string s) ∧ w'.cell? ⟨q0, 1, none⟩ = some (.slice x1 n1 c1) ∧ w'.cell? ⟨q0, 2, none⟩ = some (.slice x2 n2 c2) ∧ w'.cell? ⟨q0, 3, none⟩ = some (.slice x3 n3 c3) ∧ w'.cell? ⟨q0, 4, none⟩ = some (.slice x4 n4 c4) ∧ w'.cell? ⟨q0, 5, none⟩ = some (.slice x5 n5 c5) ∧ w'.cell? ⟨q0, 6, none⟩ = some (.int .i64 p)) ∧ w'.cell? ⟨q0 + 1, 0, none⟩ = some (.int .i64 0) ∧ w'.cell? ⟨q0 + 1, 1, none⟩ = some (.int .i64 0) ∧ w'.cell? ⟨q0 + 1, 2, none⟩ = some (.slice none 0 0)) := hide (fun w' k9 => by
    have h1 := k9.block q0 (Array.getElem?_eq_some_iff.1 hnwa).1
    rw [hnwa] at h1
    have h2 := k9.block (q0 + 1) (Array.getElem?_eq_some_iff.1 hnw1).1
    rw [hnw1] at h2
    refine ⟨⟨?_, ?_, ?_, ?_, ?_, ?_, ?_⟩, ?_, ?_, ?_⟩ <;> simp [World.cell?, h1, h2])
  have HXZ : Hid (∀ w' : World, Keep w0 w' → w'.frozen? ⟨q0 + 1, 0, none⟩ = false ∧ w'.frozen? ⟨q0 + 1, 1, none⟩ = false ∧ w'.frozen? ⟨q0 + 1, 2, none⟩ = false) := hide (fun w' k9 => by
    have h2 := k9.block (q0 + 1) (Array.getElem?_eq_some_iff.1 hnw1).1
    rw [hnw1] at h2
    refine ⟨?_, ?_, ?_⟩ <;> simp [World.frozen?, h2])
  clear hnwa hnw1
  obtain ⟨⟨z0, z1, z2, z3, z4, z5, z6⟩, g0, g1, g2⟩ := (uq HX0) w0 (Keep.refl _)
  obtain ⟨y0, y1, y2⟩ := (uq HXZ) w0 (Keep.refl _)
  have lq0 : q0 + 1 < w0.heap.size := World.block_lt_of_cell? w0 _ g0
  have lq1 : q0 < w0.heap.size := by omega
  go_wp2_with fail
  clear z0 z1 z2 z3 z4 z5 z6 g0 g1 g2 y0 y1 y2 lq0 lq1
  go_loopw [6] (fun vi wr => ∃ k : Nat, k ≤ n4 ∧ vi = .int .i64 (k : Int) ∧ Hid (Keep w0 wr)) (fun vi _ => n4 - (intOf vi).toNat)
  case atStart => exact ⟨0, Nat.zero_le _, rfl, hide (Keep.refl _)⟩
  case round =>
    obtain ⟨k, hk, rfl, KW⟩ := hrel
    obtain ⟨⟨z0, z1, z2, z3, z4, z5, z6⟩, g0, g1, g2⟩ := (uq HX0) wr (uq KW)
    obtain ⟨y0, y1, y2⟩ := (uq HXZ) wr (uq KW)
    have lq0 : q0 + 1 < wr.heap.size := World.block_lt_of_cell? wr _ g0
    have lq1 : q0 < wr.heap.size := by omega
    by_cases hlt : k < n4
    · have li : (k : Int) < (n4 : Int) := by omega
      obtain ⟨ad, rfl, hb, e0⟩ := (uq HC) k hlt
      have x0 := V.far_cell ((uq K0).trans (uq KW)) (by rw [V.add_block9]; exact hb) e0
      clear e0
      have hk0 : ¬ NG k = 0 := by have := ((uq HNG) k hlt).1; omega
      have h1 : ((NG k : Int) == 0) = false := by simpa using hk0
      have h2 : ¬ (NG k : Int) = 0 := by omega
      generalize NG k = m at x0 h1 h2 hk0
      go_wp2_with fail
      go_roundw
      case rel => exact ⟨k + 1, hlt, by go_num, KW⟩
      case measure => simp [intOf]; omega
    · have li : ¬ (k : Int) < (n4 : Int) := by omega
      have hbx := heap_alloc_new wr (.cells #[.int .i64 0, .int .i64 0, .slice none 0 0] 35)
      have KA := hide ((uq KW).alloc (.cells #[.int .i64 0, .int .i64 0, .slice none 0 0] 35))
      go_upto_region 9 with fail
      clear z0 z1 z2 z3 z4 z5 z6 g0 g1 g2 y0 y1 y2 lq0 lq1
      generalize wr.alloc (.cells #[.int .i64 0, .int .i64 0, .slice none 0 0] 35) = wa at hbx KA ⊢
      obtain ⟨qc, HQC⟩ : ∃ q, Hid (wr.heap.size = q ∧ w0.heap.size ≤ q) := ⟨_, hide ⟨rfl, Below.size (uq KW)⟩⟩
      rw [(uq HQC).1] at hbx ⊢
      have HBA := hide hbx
      have HQL : Hid (qc < wa.heap.size) := hide (Array.getElem?_eq_some_iff.1 hbx).1
      have HQW : Hid (w0.heap.size ≤ qc) := hide (uq HQC).2
      clear hbx KW HQC hlt hk li
      clear wr
      go_wp2_with fail
      go_loopw [8, 9] (fun vs vi wr => ∃ (i : Nat) (vr : Value), i ≤ n4 ∧ vi = .int .i64 (i : Int) ∧ Hid (wr.ownsRow wa.heap.size 32 2 vs i (fcs (tb (sU Q NG) i))) ∧ Hid (wr.ownsRow wa.heap.size 3 1 vr i (ics (tb (fun k => ((gR Q NG k : Nat) : Int)) i))) ∧ Hid (wr.heap[qc]? = some (.cells #[.int .i64 0, .int .i64 0, vr] 35 (0, 0))) ∧ Hid (fz (zK Q NG) i (n4 - i) = r) ∧ Hid (Keep w0 wr) ∧ Hid (wa.heap.size ≤ wr.heap.size)) (fun vs vi _ => n4 - (intOf vi).toNat)
      case atStart => exact ⟨0, _, Nat.zero_le _, rfl, hide (World.ownsRow_nil _ _ _ _), hide (World.ownsRow_nil _ _ _ _), HBA, HZR, KA, hide (Nat.le_refl _)⟩
      case round =>
        obtain ⟨i, vr, hi, rfl, HOF, HOI, HBC, HFZ, KW, HWR⟩ := hrel
        obtain ⟨⟨z0, z1, z2, z3, z4, z5, z6⟩, g0, g1, g2⟩ := (uq HX0) wr (uq KW)
        obtain ⟨y0, y1, y2⟩ := (uq HXZ) wr (uq KW)
        have lq0 : q0 + 1 < wr.heap.size := World.block_lt_of_cell? wr _ g0
        have lq1 : q0 < wr.heap.size := by omega
        by_cases hlt : i < n4
        · skip
          have HWA : Hid (wa.heap.size ≤ wr.heap.size) := hide (uq HWR)
          obtain ⟨wo, hwo⟩ : ∃ wo, wo = wr := ⟨_, rfl⟩
          subst hwo
          have li : (i : Int) < (n4 : Int) := by omega
          obtain ⟨ag, rfl, hbg, d0⟩ := (uq HC) i hlt
          obtain ⟨hg0, hg1⟩ := (uq HNG) i hlt
          obtain ⟨ar, ear, hbr, _⟩ := (uq HR) i hlt 0 hg0
          rw [ear] at d0
          have HRi := hide ((uq HR) i hlt)
          have TRi := hide (fun j => (uq TR) i j hlt)
          have HQi := hide (fun j => (uq HQ) i j hlt)
          obtain ⟨rz, HRZ⟩ : ∃ rz, Hid (fz (fun j => sZ (Q i j)) 0 (NG i) = rz) := ⟨_, hide rfl⟩
          have hb2 := heap_alloc_new wo (.cells #[.int .i64 0, .int .i64 0] 32)
          have KB := hide ((Keep.refl wo).alloc (.cells #[.int .i64 0, .int .i64 0] 32))
          go_upto_region 14 with fail
          clear z0 z1 z2 z3 z4 z5 z6 g0 g1 g2 y0 y1 y2 lq0 lq1
          generalize wo.alloc (.cells #[.int .i64 0, .int .i64 0] 32) = wb at hb2 KB ⊢
          obtain ⟨qb, HQB⟩ : ∃ q, Hid (wo.heap.size = q) := ⟨_, hide rfl⟩
          rw [uq HQB] at hb2 ⊢
          have HBB := hide hb2
          clear hb2
          obtain ⟨ng, hng⟩ : ∃ n, NG i = n := ⟨_, rfl⟩
          have HNI := hide hng
          rw [hng] at d0 hg0 hg1 HRZ
          clear hng
          have D0 : Hid (∀ w' : World, Keep w0 w' → w'.cell? (ag.add i) = some (.slice (some ar) ng (CG i))) := hide (fun w' k9 => V.far_cell ((uq K0).trans k9) (by rw [V.add_block9]; exact hbg) d0)
          clear d0
          go_wp2_with fail
          go_loopw [11, 12] (fun vg vj wr => ∃ (j : Nat) (g : Int) (f : Int × Int), j ≤ ng ∧ vj = .int .i64 (j : Int) ∧ vg = .int .i64 g ∧ Hid (wr.heap[qb]? = some (.cells #[.int .i64 f.1, .int .i64 f.2] 32 (0, 0))) ∧ Hid (Keep wo wr) ∧ Hid (fz (fun j => sZ (Q i j)) j (ng - j) = rz) ∧ Hid (Bst (eL Q NG i) j g f)) (fun vg vj _ => ng - (intOf vj).toNat)
          case atStart => exact ⟨0, -1, (0, 0), Nat.zero_le _, rfl, rfl, HBB, KB, HRZ, hide (.inl ⟨rfl, rfl, rfl⟩)⟩
          case round =>
            obtain ⟨j, g, f, hj, rfl, rfl, HBQ, KQ, HFJ, HBS⟩ := hrel
            have K0Q := hide ((uq KW).trans (uq KQ))
            have x0 := (uq D0) wr (uq K0Q)
            obtain ⟨⟨z0, z1, z2, z3, z4, z5, z6⟩, g0, g1, g2⟩ := (uq HX0) wr (uq K0Q)
            obtain ⟨y0, y1, y2⟩ := (uq HXZ) wr (uq K0Q)
            have lq0 : q0 + 1 < wr.heap.size := World.block_lt_of_cell? wr _ g0
            have lq1 : q0 < wr.heap.size := by omega
            by_cases hjl : j < ng
            · skip
              have lj : (j : Int) < (ng : Int) := by omega
              have hjn : j < NG i := by have := uq HNI; omega
              obtain ⟨ar2, ear2, _, d2, d3⟩ := (uq HRi) j hjn
              rw [ear] at ear2
              cases ear2
              have TRj := hide ((uq TRi) j hjn)
              have HQj := hide ((uq HQi) j hjn)
              have HEL : Hid ((eL Q NG i).getD j (0, 0) = sS (Q i j)) := hide (tb_at _ _ _ _ hjn)
              have HSI := hide (sS_in (Q i j))
              have HFN : Hid (sZ (Q i j) = 0 → fz (fun j => sZ (Q i j)) (j + 1) (ng - (j + 1)) = rz) := hide (fun h => fz_no (uq HFJ) hjl h)
              have HFY : Hid (¬ sZ (Q i j) = 0 → rz = sZ (Q i j)) := hide (fun h => fz_yes (uq HFJ) hjl h)
              have TSj : Hid (∀ v w', Frs w' v (Q i j) → Calls Try.prog 15 #[v] w' fun e w'' => e = .returned (.tuple #[.agg #[.int .i64 (sS (Q i j)).1, .int .i64 (sS (Q i j)).2], .int .i64 (sZ (Q i j))]) ∧ Keep w' w'') := hide (fun v w' h => (uq TS) v (Q i j) w' h (uq HQj).1)
              clear HFJ
              generalize sZ (Q i j) = zq at HFN HFY TSj
              generalize sS (Q i j) = sq at HEL HSI TSj
              obtain ⟨sx, sy⟩ := sq
              simp only at HSI TSj
              generalize Q i j = qj at TRj HQj TSj
              generalize FR i j = fr at d2 TRj
              generalize XR i j = xr at d3 TRj
              generalize NR i j = nr at d3 TRj
              generalize CR i j = cr at d3 TRj
              have HS : Hid (∀ w' : World, Keep wr w' → w'.cell? ⟨q0, 0, none⟩ = some (.string s) ∧ w'.cell? ⟨q0, 1, none⟩ = some (.slice x1 n1 c1) ∧ w'.cell? ⟨q0, 2, none⟩ = some (.slice x2 n2 c2) ∧ w'.cell? ⟨q0, 3, none⟩ = some (.slice x3 n3 c3) ∧ w'.cell? ⟨q0, 4, none⟩ = some (.slice (some ag) n4 c4) ∧ w'.cell? ⟨q0, 5, none⟩ = some (.slice x5 n5 c5) ∧ w'.cell? ⟨q0, 6, none⟩ = some (.int .i64 p) ∧ w'.cell? (ag.add i) = some (.slice (some ar) ng (CG i)) ∧ w'.cell? (ar.add (j * 2)) = some (.bool fr) ∧ w'.cell? ⟨(ar.add (j * 2)).block, (ar.add (j * 2)).off + 1, none⟩ = some (.slice xr nr cr)) := hide (fun w' k9 => by
                have k8 := (uq K0).trans ((uq K0Q).trans k9)
                obtain ⟨⟨a0, a1, a2, a3, a4, a5, a6⟩, _⟩ := (uq HX0) w' ((uq K0Q).trans k9)
                exact ⟨a0, a1, a2, a3, a4, a5, a6, (uq D0) w' ((uq K0Q).trans k9), V.far_cell k8 (by rw [V.add_block9]; exact hbr) d2, V.far_cell k8 (by show (ar.add (j * 2)).block < _; rw [V.add_block9]; exact hbr) d3⟩)
              clear d2 d3
              go_upto_region 18 with fail
              clear z0 z1 z2 z3 z4 z5 z6 g0 g1 g2 y0 y1 y2 lq0 lq1
              clear x0
              go_cut [13, 14] (fun s13 s14 wc => ∃ B, s13 = .pointer (some ⟨B, 0, none⟩) ∧ s14 = .int .i64 zq ∧ B < wc.heap.size ∧ wr.heap.size ≤ B ∧ wc.cell? ⟨B, 0, none⟩ = some (.int .i64 sx) ∧ wc.cell? ⟨B, 1, none⟩ = some (.int .i64 sy) ∧ Keep wr wc)
              case first =>
                refine wp_region_held_drew (S := fun w' => w'.cell? ⟨q0, 0, none⟩ = some (.string s) ∧ w'.cell? ⟨q0, 1, none⟩ = some (.slice x1 n1 c1) ∧ w'.cell? ⟨q0, 2, none⟩ = some (.slice x2 n2 c2) ∧ w'.cell? ⟨q0, 3, none⟩ = some (.slice x3 n3 c3) ∧ w'.cell? ⟨q0, 4, none⟩ = some (.slice (some ag) n4 c4) ∧ w'.cell? ⟨q0, 5, none⟩ = some (.slice x5 n5 c5) ∧ w'.cell? ⟨q0, 6, none⟩ = some (.int .i64 p) ∧ w'.cell? (ag.add i) = some (.slice (some ar) ng (CG i)) ∧ w'.cell? (ar.add (j * 2)) = some (.bool fr) ∧ w'.cell? ⟨(ar.add (j * 2)).block, (ar.add (j * 2)).off + 1, none⟩ = some (.slice xr nr cr)) (by kernel_rfl) (by exact (uq HS) _ ((Keep.refl wr).drew)) (fun hHeld => ?_)
                refine tkk 0 59 hHeld ?_; try simp only [Act.put, Ya, Yb, Yc]
                refine tkk 1 60 hHeld ?_; try simp only [Act.put, Ya, Yb, Yc]
                refine tkk 2 61 hHeld ?_; try simp only [Act.put, Ya, Yb, Yc]
                refine tkk 3 62 hHeld ?_; try simp only [Act.put, Ya, Yb, Yc]
                refine tkk 4 63 hHeld ?_; try simp only [Act.put, Ya, Yb, Yc]
                refine tkk 5 64 hHeld ?_; try simp only [Act.put, Ya, Yb, Yc]
                refine tkk 6 65 hHeld ?_; try simp only [Act.put, Ya, Yb, Yc]
                refine tkk 7 66 hHeld ?_; try simp only [Act.put, Ya, Yb, Yc]
                refine tkk 8 67 hHeld ?_; try simp only [Act.put, Ya, Yb, Yc]
                refine tkk 9 68 hHeld ?_; try simp only [Act.put, Ya, Yb, Yc]
                refine tkk 10 69 hHeld ?_; try simp only [Act.put, Ya, Yb, Yc]
                refine wpAnyH_ready (rs := [11, 16]) (by kernel_rfl) (by simp) ?_
                refine AllReadyH.cons rfl (fun K hK => ?_) (AllReadyH.cons rfl (fun K hK => ?_) AllReadyH.nil)
                · skip
                  go_simp
                  clear hHeld
                  (refine ((uq TRj) _ (((uq K0).trans (uq K0Q)).trans (by repeat (first | (with_reducible exact Keep.refl _) | apply keep_ext | apply Keep.alloc | apply Keep.drew)))).mono ?_; rintro e w5 ⟨v5, rfl, hk9, ho9⟩; obtain ⟨o5, k5, rfl⟩ := hk9.ext; have HF5 := hide (frs_own ho9 (uq HQj).2); clear hk9 ho9)
                  try go_wp2_with fail
                  refine hK.out _ _ ?_ (fun hHeld => ?_)
                  · exact (uq HS) _ (by repeat (first | (with_reducible exact Keep.refl _) | apply keep_ext | apply Keep.alloc | apply Keep.drew))
                  clear hK K
                  try simp only [Act.put, Ya, Yb, Yc]
                  refine wpAnyH_ready (rs := [12, 16]) (by kernel_rfl) (by simp) ?_
                  refine AllReadyH.cons rfl (fun K hK => ?_) (AllReadyH.cons rfl (fun K hK => ?_) AllReadyH.nil)
                  · skip
                    go_simp
                    clear hHeld
                    (refine ((uq TSj) _ _ (uq HF5)).mono ?_; rintro e w6 ⟨rfl, hk9⟩; obtain ⟨o6, k6, rfl⟩ := hk9.ext; clear hk9)
                    try go_wp2_with fail
                    refine hK.out _ _ ?_ (fun hHeld => ?_)
                    · exact (uq HS) _ (by repeat (first | (with_reducible exact Keep.refl _) | apply keep_ext | apply Keep.alloc | apply Keep.drew))
                    clear hK K
                    try simp only [Act.put, Ya, Yb, Yc]
                    refine tkk 13 58 hHeld ?_; try simp only [Act.put, Ya, Yb, Yc]
                    refine tkk 14 72 hHeld ?_; try simp only [Act.put, Ya, Yb, Yc]
                    refine tkk 15 73 hHeld ?_; try simp only [Act.put, Ya, Yb, Yc]
                    refine rdyy 16 (fun K hK => ?_)
                    go_simp
                    clear hHeld
                    refine hK.out _ _ ?_ (fun hHeld => ?_)
                    · exact (uq HS) _ (by repeat (first | (with_reducible exact Keep.refl _) | apply keep_ext | apply Keep.alloc | apply Keep.drew))
                    clear hK K
                    try simp only [Act.put, Ya, Yb, Yc]
                    refine rdyy 17 (fun K hK => ?_)
                    go_simp
                    clear hHeld
                    refine hK.out _ _ ?_ (fun hHeld => ?_)
                    · exact (uq HS) _ (by repeat (first | (with_reducible exact Keep.refl _) | apply keep_ext | apply Keep.alloc | apply Keep.drew))
                    clear hK K
                    try simp only [Act.put, Ya, Yb, Yc]
                    refine tkk 18 14 hHeld ?_; try simp only [Act.put, Ya, Yb, Yc]
                    refine wpAnyH_done (by kernel_rfl) ?_ _
                    clear hHeld
                    go_wp2_with fail
                    go_meet
                    exact ⟨_, rfl, rfl, by simp <;> omega, by simp <;> omega, by simp [go_sem], by simp [go_sem], by repeat (first | (with_reducible exact Keep.refl _) | apply keep_ext | apply Keep.alloc | apply Keep.drew | (refine keep_st ?_ (by simp <;> omega)))⟩
                  · skip
                    go_simp
                    clear hHeld
                    refine hK.out _ _ ?_ (fun hHeld => ?_)
                    · exact (uq HS) _ (by repeat (first | (with_reducible exact Keep.refl _) | apply keep_ext | apply Keep.alloc | apply Keep.drew))
                    clear hK K
                    try simp only [Act.put, Ya, Yb, Yc]
                    refine rdyy 12 (fun K hK => ?_)
                    go_simp
                    clear hHeld
                    (refine ((uq TSj) _ _ ((uq HF5).keep ((Keep.refl _).alloc _))).mono ?_; rintro e w6 ⟨rfl, hk9⟩; obtain ⟨o6, k6, rfl⟩ := hk9.ext; clear hk9)
                    try go_wp2_with fail
                    refine hK.out _ _ ?_ (fun hHeld => ?_)
                    · exact (uq HS) _ (by repeat (first | (with_reducible exact Keep.refl _) | apply keep_ext | apply Keep.alloc | apply Keep.drew))
                    clear hK K
                    try simp only [Act.put, Ya, Yb, Yc]
                    refine tkk 13 58 hHeld ?_; try simp only [Act.put, Ya, Yb, Yc]
                    refine tkk 14 72 hHeld ?_; try simp only [Act.put, Ya, Yb, Yc]
                    refine tkk 15 73 hHeld ?_; try simp only [Act.put, Ya, Yb, Yc]
                    refine rdyy 17 (fun K hK => ?_)
                    go_simp
                    clear hHeld
                    refine hK.out _ _ ?_ (fun hHeld => ?_)
                    · exact (uq HS) _ (by repeat (first | (with_reducible exact Keep.refl _) | apply keep_ext | apply Keep.alloc | apply Keep.drew))
                    clear hK K
                    try simp only [Act.put, Ya, Yb, Yc]
                    refine tkk 18 14 hHeld ?_; try simp only [Act.put, Ya, Yb, Yc]
                    refine wpAnyH_done (by kernel_rfl) ?_ _
                    clear hHeld
                    go_wp2_with fail
                    go_meet
                    exact ⟨_, rfl, rfl, by simp <;> omega, by simp <;> omega, by simp [go_sem], by simp [go_sem], by repeat (first | (with_reducible exact Keep.refl _) | apply keep_ext | apply Keep.alloc | apply Keep.drew | (refine keep_st ?_ (by simp <;> omega)))⟩
                · skip
                  go_simp
                  clear hHeld
                  refine hK.out _ _ ?_ (fun hHeld => ?_)
                  · exact (uq HS) _ (by repeat (first | (with_reducible exact Keep.refl _) | apply keep_ext | apply Keep.alloc | apply Keep.drew))
                  clear hK K
                  try simp only [Act.put, Ya, Yb, Yc]
                  refine rdyy 11 (fun K hK => ?_)
                  go_simp
                  clear hHeld
                  (refine ((uq TRj) _ (((uq K0).trans (uq K0Q)).trans (by repeat (first | (with_reducible exact Keep.refl _) | apply keep_ext | apply Keep.alloc | apply Keep.drew)))).mono ?_; rintro e w5 ⟨v5, rfl, hk9, ho9⟩; obtain ⟨o5, k5, rfl⟩ := hk9.ext; have HF5 := hide (frs_own ho9 (uq HQj).2); clear hk9 ho9)
                  try go_wp2_with fail
                  refine hK.out _ _ ?_ (fun hHeld => ?_)
                  · exact (uq HS) _ (by repeat (first | (with_reducible exact Keep.refl _) | apply keep_ext | apply Keep.alloc | apply Keep.drew))
                  clear hK K
                  try simp only [Act.put, Ya, Yb, Yc]
                  refine rdyy 12 (fun K hK => ?_)
                  go_simp
                  clear hHeld
                  (refine ((uq TSj) _ _ (uq HF5)).mono ?_; rintro e w6 ⟨rfl, hk9⟩; obtain ⟨o6, k6, rfl⟩ := hk9.ext; clear hk9)
                  try go_wp2_with fail
                  refine hK.out _ _ ?_ (fun hHeld => ?_)
                  · exact (uq HS) _ (by repeat (first | (with_reducible exact Keep.refl _) | apply keep_ext | apply Keep.alloc | apply Keep.drew))
                  clear hK K
                  try simp only [Act.put, Ya, Yb, Yc]
                  refine tkk 13 58 hHeld ?_; try simp only [Act.put, Ya, Yb, Yc]
                  refine tkk 14 72 hHeld ?_; try simp only [Act.put, Ya, Yb, Yc]
                  refine tkk 15 73 hHeld ?_; try simp only [Act.put, Ya, Yb, Yc]
                  refine rdyy 17 (fun K hK => ?_)
                  go_simp
                  clear hHeld
                  refine hK.out _ _ ?_ (fun hHeld => ?_)
                  · exact (uq HS) _ (by repeat (first | (with_reducible exact Keep.refl _) | apply keep_ext | apply Keep.alloc | apply Keep.drew))
                  clear hK K
                  try simp only [Act.put, Ya, Yb, Yc]
                  refine tkk 18 14 hHeld ?_; try simp only [Act.put, Ya, Yb, Yc]
                  refine wpAnyH_done (by kernel_rfl) ?_ _
                  clear hHeld
                  go_wp2_with fail
                  go_meet
                  exact ⟨_, rfl, rfl, by simp <;> omega, by simp <;> omega, by simp [go_sem], by simp [go_sem], by repeat (first | (with_reducible exact Keep.refl _) | apply keep_ext | apply Keep.alloc | apply Keep.drew | (refine keep_st ?_ (by simp <;> omega)))⟩
              case rest =>
                obtain ⟨B, hs13, hs14, hB1, hB2, m0, m1, hkc⟩ := hcut
                subst hs13 hs14
                have KC := hide ((uq KQ).trans hkc)
                have K0C := hide ((uq K0Q).trans hkc)
                have HBC2 : Hid (wc.heap[qb]? = some (.cells #[.int .i64 f.1, .int .i64 f.2] 32 (0, 0))) := hide (by rw [hkc.block qb (Array.getElem?_eq_some_iff.1 (uq HBQ)).1]; exact uq HBQ)
                have hBq : ¬ B = qb := by have := (Array.getElem?_eq_some_iff.1 (uq HBQ)).1; omega
                clear hkc HS HBQ KQ K0Q TSj TRj HQj
                obtain ⟨⟨z0, z1, z2, z3, z4, z5, z6⟩, g0, g1, g2⟩ := (uq HX0) wc (uq K0C)
                obtain ⟨y0, y1, y2⟩ := (uq HXZ) wc (uq K0C)
                have lq0 : q0 + 1 < wc.heap.size := World.block_lt_of_cell? wc _ g0
                have lq1 : q0 < wc.heap.size := by omega
                by_cases hz : zq = 0
                · subst hz
                  have HF2 := hide ((uq HFN) rfl)
                  clear HFN HFY
                  have n0 : wc.cell? ⟨qb, 0, none⟩ = some (.int .i64 f.1) := by simp [World.cell?, uq HBC2]
                  have n1 : wc.cell? ⟨qb, 1, none⟩ = some (.int .i64 f.2) := by simp [World.cell?, uq HBC2]
                  have p0 : wc.frozen? ⟨qb, 0, none⟩ = false := by simp [World.frozen?, uq HBC2]
                  have p1 : wc.frozen? ⟨qb, 1, none⟩ = false := by simp [World.frozen?, uq HBC2]
                  have lqb : qb < wc.heap.size := (Array.getElem?_eq_some_iff.1 (uq HBC2)).1
                  have HBN : Hid (((wc.setCell ⟨qb, 0, none⟩ (.int .i64 sx)).setCell ⟨qb, 1, none⟩ (.int .i64 sy)).heap[qb]? = some (.cells #[.int .i64 sx, .int .i64 sy] 32 (0, 0))) := hide (by have h1 := set_cl (i := 0) (uq HBC2) (.int .i64 sx); have h2 := set_cl (i := 1) h1 (.int .i64 sy); simpa using h2)
                  have KN : Hid (Keep wo ((wc.setCell ⟨qb, 0, none⟩ (.int .i64 sx)).setCell ⟨qb, 1, none⟩ (.int .i64 sy))) := hide (keep_st (keep_st (uq KC) (by have := uq HQB; omega)) (by have := uq HQB; omega))
                  have hB3 : ¬ qb = B := fun h => hBq h.symm
                  by_cases hj0 : j = 0
                  · subst hj0
                    obtain ⟨rfl, rfl⟩ : g = -1 ∧ f = (0, 0) := by
                      rcases uq HBS with ⟨_, h1, h2⟩ | ⟨h, _⟩
                      · exact ⟨h1, h2⟩
                      · omega
                    go_wp2_with fail
                    go_roundw
                    case rel => exact ⟨1, 0, (sx, sy), hjl, by go_num, rfl, HBN, KN, HF2, hide (by have h := Bst.first (L := eL Q NG i); rw [uq HEL] at h; exact h)⟩
                    case measure => simp [intOf]; omega
                  · obtain ⟨gn, hgn⟩ : ∃ gn : Nat, g = (gn : Int) := by
                      rcases uq HBS with ⟨h, _⟩ | ⟨_, h, _⟩
                      · exact absurd h hj0
                      · exact ⟨_, h⟩
                    subst hgn
                    have hgl : ¬ (gn : Int) < 0 := by omega
                    have hgd : decide ((gn : Int) < 0) = false := decide_eq_false hgl
                    have TCj := hide (fun w9 => (uq TC) (sx, sy) f w9 (uq HSI).1 (uq HSI).2 ((uq HBS).in (eL_in Q NG i)).1 ((uq HBS).in (eL_in Q NG i)).2)
                    obtain ⟨f1, f2⟩ := f
                    simp only at n0 n1 TCj
                    have HGY : Hid (0 < gtF (sx, sy) (f1, f2) → Bst (eL Q NG i) (j + 1) ((j : Nat) : Int) (sx, sy)) := hide (fun h => by have h2 := (uq HBS).more (by omega) (by rw [uq HEL]; exact h); rw [uq HEL] at h2; exact h2)
                    have HGN : Hid (¬ 0 < gtF (sx, sy) (f1, f2) → Bst (eL Q NG i) (j + 1) ((gn : Nat) : Int) (f1, f2)) := hide (fun h => (uq HBS).less (by omega) (by rw [uq HEL]; exact h))
                    generalize gtF (sx, sy) (f1, f2) = cmpv at TCj HGY HGN
                    go_wp2_with fail
                    (refine ((uq TCj) _).mono ?_; rintro e w7 ⟨rfl, hk9⟩)
                    have q0b : w7.cell? ⟨B, 0, none⟩ = some (.int .i64 sx) := V.far_cell hk9 hB1 m0
                    have q1b : w7.cell? ⟨B, 1, none⟩ = some (.int .i64 sy) := V.far_cell hk9 hB1 m1
                    have K7 := hide ((uq KC).trans hk9)
                    have HB7 : Hid (w7.heap[qb]? = some (.cells #[.int .i64 f1, .int .i64 f2] 32 (0, 0))) := hide (by rw [hk9.block qb lqb]; exact uq HBC2)
                    clear hk9 n0 n1 p0 p1 m0 m1 HBN KN z0 z1 z2 z3 z4 z5 z6 g0 g1 g2 y0 y1 y2 lq0 lq1
                    by_cases hc : 0 < cmpv
                    · have n0 : w7.cell? ⟨qb, 0, none⟩ = some (.int .i64 f1) := by simp [World.cell?, uq HB7]
                      have n1 : w7.cell? ⟨qb, 1, none⟩ = some (.int .i64 f2) := by simp [World.cell?, uq HB7]
                      have p0 : w7.frozen? ⟨qb, 0, none⟩ = false := by simp [World.frozen?, uq HB7]
                      have p1 : w7.frozen? ⟨qb, 1, none⟩ = false := by simp [World.frozen?, uq HB7]
                      have HBN : Hid (((w7.setCell ⟨qb, 0, none⟩ (.int .i64 sx)).setCell ⟨qb, 1, none⟩ (.int .i64 sy)).heap[qb]? = some (.cells #[.int .i64 sx, .int .i64 sy] 32 (0, 0))) := hide (by have h1 := set_cl (i := 0) (uq HB7) (.int .i64 sx); have h2 := set_cl (i := 1) h1 (.int .i64 sy); simpa using h2)
                      have KN : Hid (Keep wo ((w7.setCell ⟨qb, 0, none⟩ (.int .i64 sx)).setCell ⟨qb, 1, none⟩ (.int .i64 sy))) := hide (keep_st (keep_st (uq K7) (by have := uq HQB; omega)) (by have := uq HQB; omega))
                      have HB9 := hide ((uq HGY) hc)
                      clear HGY HGN
                      go_wp2_with fail
                      go_roundw
                      case rel => exact ⟨j + 1, _, (sx, sy), hjl, by go_num, rfl, HBN, KN, HF2, HB9⟩
                      case measure => simp [intOf]; omega
                    · have HB9 := hide ((uq HGN) (by omega))
                      clear HGY HGN
                      go_wp2_with fail
                      go_roundw
                      case rel => exact ⟨j + 1, _, (f1, f2), hjl, by go_num, rfl, HB7, K7, HF2, HB9⟩
                      case measure => simp [intOf]; omega
                · have hzb : (zq != 0) = true := by simpa using hz
                  have HZ := hide hz
                  have HRQ := hide ((uq HFY) hz)
                  clear hz HFN HFY
                  have HRR : Hid (fz (zK Q NG) 0 n4 = zq) := hide (by
                    have h0 : zK Q NG i = rz := by unfold zK; rw [uq HNI]; exact uq HRZ
                    have h1 := fz_yes (uq HFZ) hlt (by rw [h0, uq HRQ]; exact uq HZ)
                    rw [uq HZR, h1, h0, uq HRQ])
                  go_wp2_with fail
                  exact bodyPost_ret (v := .tuple #[.agg #[.int .i64 0, .int .i64 0, .slice none 0 0], .int .i64 zq]) (by simp [results, Try.results8, go_sem, g0, g1, g2, lq0]) rfl ⟨_, _, _, _, rfl, by repeat (first | exact ((uq K0).trans (uq K0C)) | apply Keep.alloc | apply Keep.drew | (refine keep_st ?_ (by have := uq HQ0; omega))), by unfold zS; rw [uq HRR, if_neg (uq HZ)], fun _ => ⟨rfl, rfl, rfl⟩, fun h => absurd h (uq HZ)⟩
            · skip
              have lj : ¬ (j : Int) < (ng : Int) := by omega
              obtain rfl : j = ng := by omega
              have HFE := hide (fz_end (uq HFJ) (Nat.le_refl _))
              have HF2 : Hid (fz (zK Q NG) (i + 1) (n4 - (i + 1)) = r) := hide (fz_no (uq HFZ) hlt (by unfold zK; rw [uq HNI, uq HRZ]; exact uq HFE))
              obtain ⟨hgg, hff⟩ : g = ((gR Q NG i : Nat) : Int) ∧ f = sU Q NG i := by
                rcases uq HBS with ⟨h, _⟩ | ⟨_, h1, h2⟩
                · omega
                · unfold sU gR; rw [uq HNI]; exact ⟨h1, h2⟩
              have HSI : Hid (ics (tb (fun k => ((gR Q NG k : Nat) : Int)) (i + 1)) = ics (tb (fun k => ((gR Q NG k : Nat) : Int)) i) ++ [.int .i64 g]) := hide (by rw [tb, ics_app, hgg]; rfl)
              have HSF : Hid (fcs (tb (sU Q NG) (i + 1)) = fcs (tb (sU Q NG) i) ++ [.int .i64 f.1, .int .i64 f.2]) := hide (by rw [tb, fcs_app, hff]; rfl)
              clear hgg hff HBS HFJ HFE HFZ
              have HOFq := hide (own_k (uq HOF) (uq KQ))
              have HOIq := hide (own_k (uq HOI) (uq KQ))
              have HBq : Hid (wr.heap[qc]? = some (.cells #[.int .i64 0, .int .i64 0, vr] 35 (0, 0))) := hide (by rw [(uq KQ).block qc (Array.getElem?_eq_some_iff.1 (uq HBC)).1]; exact uq HBC)
              have KAQ : Hid (Keep wa wr → True) := hide (fun _ => trivial)
              have n0 : wr.cell? ⟨qb, 0, none⟩ = some (.int .i64 f.1) := by simp [World.cell?, uq HBQ]
              have n1 : wr.cell? ⟨qb, 1, none⟩ = some (.int .i64 f.2) := by simp [World.cell?, uq HBQ]
              have lqb : qb < wr.heap.size := (Array.getElem?_eq_some_iff.1 (uq HBQ)).1
              have hsa : wa.heap.size ≤ wr.heap.size := Nat.le_trans (uq HWA) (Below.size (uq KQ))
              obtain ⟨f1, f2⟩ := f
              simp only at n0 n1 HSF
              obtain ⟨va, vcp, rfl⟩ := own_l (uq HOIq)
              go_upto_region 25 with (at_builtin; refine wpList_append_own _ rfl _ _ 29 rfl wa.heap.size 32 i0 _ 2 16 Try.underlying29 hi0 hz00 hz01 hz02 rfl (by decide) _ _ _ rfl ((uq HOFq).alloc _) ⟨wr.heap.size, 0, none⟩ 1 1 [.int .i64 f1, .int .i64 f2] rfl rfl (new_v wr [.int .i64 f1, .int .i64 f2] _) (by simp [Value.oneCell']) (by unfold maxLen; omega) (by omega) (by simp; omega) ?_; intro v' w6 hown' hgrow hnil; have HOF6 := hide hown'; have HG6 := hide hgrow; clear hown' hgrow hnil)
              have K6 : Hid (Keep w0 w6) := hide (Below.grown ((uq K0Q).alloc (.cells #[.int .i64 f1, .int .i64 f2] 32)) (uq HG6) (by have := Below.size (uq K0Q); simp; omega) (fun j ej => by have := ((uq HOFq).lt j ej).1; have := uq HQW; have := uq HQL; omega))
              have HOI6 := hide (own_g ((uq HOIq).alloc (.cells #[.int .i64 f1, .int .i64 f2] 32)) ((uq HOFq).alloc (.cells #[.int .i64 f1, .int .i64 f2] 32)) (by decide) (uq HG6))
              have HB6 : Hid (w6.heap[qc]? = some (.cells #[.int .i64 0, .int .i64 0, .slice va i vcp] 35 (0, 0))) := hide (box_g (h := by rw [heap_alloc_old _ _ (Array.getElem?_eq_some_iff.1 (uq HBq)).1]; exact uq HBq) ((uq HOFq).alloc (.cells #[.int .i64 f1, .int .i64 f2] 32)) (by decide) (uq HG6))
              have g6 : w6.cell? ⟨qc, 2, none⟩ = some (.slice va i vcp) := by simp [World.cell?, uq HB6]
              have hs6 := Below.size (uq K6)
              have lq6 : qc < w6.heap.size := (Array.getElem?_eq_some_iff.1 (uq HB6)).1
              have hsa6 : wa.heap.size ≤ w6.heap.size := by have h := (uq HG6).size; simp at h; omega
              clear n0 n1 lqb x0 z0 z1 z2 z3 z4 z5 z6 g0 g1 g2 y0 y1 y2 lq0 lq1
              go_wp2_with (at_builtin; refine wpList_append_own _ rfl _ _ 33 rfl wa.heap.size 3 i1 _ 1 8 Try.underlying33 hi1 hz10 hz11 hz12 rfl (by decide) _ _ _ rfl ((uq HOI6).alloc _) ⟨w6.heap.size, 0, none⟩ 1 1 [.int .i64 g] rfl rfl (new_v w6 [.int .i64 g] _) (by simp [Value.oneCell']) (by unfold maxLen; omega) (by omega) (by first | (simp; done) | (simp; omega)) ?_; intro v8 w8 hown' hgrow hnil; obtain ⟨a8, c8, rfl⟩ := own_l hown'; have HOI8 := hide hown'; have HG8 := hide hgrow; clear hown' hgrow hnil; have HB8 : Hid (w8.heap[qc]? = some (.cells #[.int .i64 0, .int .i64 0, .slice va i vcp] 35 (0, 0))) := hide (box_g (h := by rw [heap_alloc_old _ _ (Array.getElem?_eq_some_iff.1 (uq HB6)).1]; exact uq HB6) ((uq HOI6).alloc (.cells #[.int .i64 g] 3)) (by decide) (uq HG8)); have n8 : w8.cell? ⟨qc, 2, none⟩ = some (.slice va i vcp) := (by simp [World.cell?, uq HB8]); have p8 : w8.frozen? ⟨qc, 2, none⟩ = false := (by simp [World.frozen?, uq HB8]))
              have K8 : Hid (Keep w0 w8) := hide (Below.grown ((uq K6).alloc (.cells #[.int .i64 g] 3)) (uq HG8) (by simp; omega) (fun j ej => by have := ((uq HOI6).lt j ej).1; have := uq HQW; have := uq HQL; omega))
              have HOF8 := hide (own_g ((uq HOF6).alloc (.cells #[.int .i64 g] 3)) ((uq HOI6).alloc (.cells #[.int .i64 g] 3)) (by decide) (uq HG8))
              go_roundw
              case rel => exact ⟨i + 1, _, hlt, by go_num, hide (by rw [uq HSF]; exact own_st (uq HOF8) (uq HQL)), hide (by rw [uq HSI]; exact own_st (uq HOI8) (uq HQL)), hide (by have h1 := set_cl (i := 2) (uq HB8) (.slice a8 (i + 1) c8); simpa using h1), HF2, hide (keep_st (uq K8) (uq HQW)), hide (by have h := (uq HG8).size; simp [World.setCell] at h ⊢; omega)⟩
              case measure => simp [intOf]; omega
        · skip
          have li : ¬ (i : Int) < (n4 : Int) := by omega
          obtain rfl : i = n4 := by omega
          have hr0 := fz_end (uq HFZ) (Nat.le_refl _)
          rw [hr0] at HZR
          have HZS : Hid (zS Q NG i = sZ (tb (sU Q NG) i)) := hide (by unfold zS; rw [if_pos (uq HZR)])
          clear hr0 HFZ
          have hln : (tb (sU Q NG) i).length = i := tb_len _ _
          have TK := hide ((uq TS) _ (tb (sU Q NG) i) wr (frs_own (by rw [hln]; exact uq HOF) (fun x hx => by obtain ⟨j, _, rfl⟩ := tb_mem hx; unfold sU; rw [List.getD_eq_getElem?_getD]; cases h9 : (eL Q NG j)[gR Q NG j]? with | none => exact ⟨by show In 0; unfold In; omega, by show In 0; unfold In; omega⟩ | some y => exact eL_in Q NG j y (List.mem_of_getElem? h9))) (by omega))
          clear hln
          obtain ⟨va, vcp, rfl⟩ := own_l (uq HOI)
          go_wp2_with fail
          (refine (uq TK).mono ?_; rintro e w5 ⟨rfl, hk9⟩; have K5 := hide ((uq KW).trans hk9); have HOI5 := hide (own_k (uq HOI) hk9); have HB5 : Hid (w5.heap[qc]? = some (.cells #[.int .i64 0, .int .i64 0, .slice va i vcp] 35 (0, 0))) := hide (by rw [hk9.block qc (Array.getElem?_eq_some_iff.1 (uq HBC)).1]; exact uq HBC); clear hk9)
          clear TK z0 z1 z2 z3 z4 z5 z6 g0 g1 g2 y0 y1 y2 lq0 lq1
          generalize hzz : sZ (tb (sU Q NG) i) = z at HZS ⊢
          generalize hxy : sS (tb (sU Q NG) i) = xy
          obtain ⟨sx, sy⟩ := xy
          have HXY := hide hxy
          clear hxy hzz
          simp only
          obtain ⟨⟨z0, z1, z2, z3, z4, z5, z6⟩, g0, g1, g2⟩ := (uq HX0) w5 (uq K5)
          obtain ⟨y0, y1, y2⟩ := (uq HXZ) w5 (uq K5)
          have lq0 : q0 + 1 < w5.heap.size := World.block_lt_of_cell? w5 _ g0
          have lq1 : q0 < w5.heap.size := by omega
          have lq5 : qc < w5.heap.size := (Array.getElem?_eq_some_iff.1 (uq HB5)).1
          have c0 : w5.cell? ⟨qc, 0, none⟩ = some (.int .i64 0) := by simp [World.cell?, uq HB5]
          have c1 : w5.cell? ⟨qc, 1, none⟩ = some (.int .i64 0) := by simp [World.cell?, uq HB5]
          have c2 : w5.cell? ⟨qc, 2, none⟩ = some (.slice va i vcp) := by simp [World.cell?, uq HB5]
          have b0 : w5.frozen? ⟨qc, 0, none⟩ = false := by simp [World.frozen?, uq HB5]
          have b1 : w5.frozen? ⟨qc, 1, none⟩ = false := by simp [World.frozen?, uq HB5]
          have hl0 : q0 + 1 < w0.heap.size := World.block_lt_of_cell? w0 _ ((uq HX0) w0 (Keep.refl _)).2.1
          have hqq : ¬ qc = q0 + 1 := by have := uq HQW; omega
          have hqr : ¬ q0 + 1 = qc := fun h => hqq h.symm
          have HQ9 : Hid (q0 + 1 < wa.heap.size) := hide (by have := uq HQW; have := uq HQL; omega)
          clear hl0
          by_cases hz : z = 0
          · subst hz
            go_wp2_with fail
            exact bodyPost_ret (v := .tuple #[.agg #[.int .i64 sx, .int .i64 sy, .slice va i vcp], .int .i64 0]) (by simp [results, Try.results8, go_sem, g0, g1, g2, lq0, hqq, hqr, c0, c1, c2, lq5]) rfl ⟨_, _, _, _, rfl, by repeat (first | (with_reducible exact ((uq K0).trans (uq K5))) | apply Keep.alloc | apply Keep.drew | (refine keep_st ?_ (by have := uq HQ0; have := uq HQW; have := Below.size (uq K0); omega))), (uq HZS).symm, fun h => absurd rfl h, fun _ => ⟨(uq HXY).symm, own_mono (by repeat (first | (with_reducible exact uq HOI5) | (with_reducible refine own_st ?_ (uq HQ9)) | (with_reducible refine own_st ?_ (uq HQL)) | (with_reducible apply World.ownsRow.alloc))) (by have h1 := Below.size (uq K0); have h2 := Below.size (uq KA); omega)⟩⟩
          · have hzb : (z != 0) = true := by simpa using hz
            have HZ := hide hz
            clear hz
            go_wp2_with fail
            exact bodyPost_ret (v := .tuple #[.agg #[.int .i64 0, .int .i64 0, .slice none 0 0], .int .i64 z]) (by simp [results, Try.results8, go_sem, g0, g1, g2, lq0]) rfl ⟨_, _, _, _, rfl, by repeat (first | exact ((uq K0).trans (uq K5)) | apply Keep.alloc | apply Keep.drew | (refine keep_st ?_ (by have := uq HQ0; omega))), (uq HZS).symm, fun _ => ⟨rfl, rfl, rfl⟩, fun h => absurd h (uq HZ)⟩
end Cr
end Go.Proofs.Ytdgmndjofbdgeaa
