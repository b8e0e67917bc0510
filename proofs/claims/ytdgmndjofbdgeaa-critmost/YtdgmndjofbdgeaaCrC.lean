/- Package crit: the sums of a group's rings. -/
import Derived.Test.YtdgmndjofbdgeaaCrB
import Derived.Deep.DrawnRows
import Derived.Deep.RegionHeld3
import Derived.Laws.AppendOwn
import Derived.Laws.OwnMore
import Derived.Laws.MakeOwn
import Derived.OwnWalk
namespace Go.Proofs.Ytdgmndjofbdgeaa
open Go.RowKit
attribute [local go_sem ↓] Go.wp_at_zero Go.wp_at_succ
set_option linter.unusedVariables false
set_option linter.unusedSimpArgs false
set_option maxRecDepth 10000
namespace Cr
/-- the first error from k on, of m; 0 if there is none -/
def fz (Z : Nat → Int) : Nat → Nat → Int
  | _, 0 => 0
  | k, m + 1 => if Z k = 0 then fz Z (k + 1) m else Z k
theorem fz_yes {Z : Nat → Int} {k n : Nat} {r : Int} (h : fz Z k (n - k) = r) (hk : k < n) (hz : ¬ Z k = 0) : r = Z k := by
  rw [show n - k = (n - (k + 1)) + 1 by omega, fz, if_neg hz] at h; exact h.symm
theorem fz_no {Z : Nat → Int} {k n : Nat} {r : Int} (h : fz Z k (n - k) = r) (hk : k < n) (hz : Z k = 0) : fz Z (k + 1) (n - (k + 1)) = r := by
  rw [show n - k = (n - (k + 1)) + 1 by omega, fz, if_pos hz] at h; exact h
theorem fz_end {Z : Nat → Int} {k n : Nat} {r : Int} (h : fz Z k (n - k) = r) (hk : n ≤ k) : r = 0 := by
  rw [show n - k = 0 by omega] at h; exact h.symm
/-- the first n answers -/
def tb {α : Type} (f : Nat → α) : Nat → List α
  | 0 => []
  | k + 1 => tb f k ++ [f k]
theorem tb_len {α : Type} (f : Nat → α) : ∀ n, (tb f n).length = n
  | 0 => rfl
  | n + 1 => by rw [tb, List.length_append, tb_len f n]; rfl
theorem tb_at {α : Type} (f : Nat → α) (d : α) : ∀ n j, j < n → (tb f n).getD j d = f j
  | 0, j, h => by omega
  | n + 1, j, h => by
    rw [tb, List.getD_eq_getElem?_getD]
    rcases Nat.lt_succ_iff_lt_or_eq.1 h with e | e
    · rw [List.getElem?_append_left (by rw [tb_len]; exact e), ← List.getD_eq_getElem?_getD]
      exact tb_at f d n j e
    · subst e
      rw [List.getElem?_append_right (by rw [tb_len]; exact Nat.le_refl _), tb_len, Nat.sub_self]
      rfl
theorem tb_mem {α : Type} {f : Nat → α} {n : Nat} {x : α} (h : x ∈ tb f n) : ∃ j, j < n ∧ x = f j := by
  induction n with
  | zero => cases h
  | succ n ih =>
    rw [tb, List.mem_append] at h
    rcases h with h | h
    · obtain ⟨j, h1, h2⟩ := ih h; exact ⟨j, by omega, h2⟩
    · simp at h; exact ⟨n, by omega, h⟩
/-- the sum of some, and its error -/
def sS (L : List (Int × Int)) : Int × Int := ((sm (0, 1) L).1, (sm (0, 1) L).2.1)
def sZ (L : List (Int × Int)) : Int := (sm (0, 1) L).2.2
theorem sm_in : ∀ (L : List (Int × Int)) (t : Int × Int), In t.1 → In t.2 → In (sm t L).1 ∧ In (sm t L).2.1
  | [], t, h1, h2 => ⟨h1, h2⟩
  | f :: L, t, h1, h2 => by
    rw [sm]
    split
    · exact sm_in L _ (pN_in _ _) (pD_in _ _)
    · refine ⟨?_, ?_⟩ <;> (show In 0; unfold In; omega)
theorem sS_in (L : List (Int × Int)) : In (sS L).1 ∧ In (sS L).2 := sm_in L (0, 1) (by unfold In; omega) (by unfold In; omega)
/-- a contract of a call that sums up -/
def SumC (F : Nat) : Prop := ∀ (v : Value) (L : List (Int × Int)) (w : World), Frs w v L → L.length ≤ 50 → Calls Try.prog F #[v] w fun e w' => e = .returned (.tuple #[.agg #[.int .i64 (sS L).1, .int .i64 (sS L).2], .int .i64 (sZ L)]) ∧ Keep w w'
/-- how ringSums ends -/
def Rsq (n : Nat) (Q : Nat → List (Int × Int)) (w : World) (e : Ending) (w' : World) : Prop := ∃ v z, e = .returned (.tuple #[v, .int .i64 z]) ∧ Keep w w' ∧ z = fz (fun k => sZ (Q k)) 0 n ∧ ((¬ z = 0 ∧ v = .slice none 0 0) ∨ (z = 0 ∧ w'.ownsRow w.heap.size 32 2 v n (fcs (tb (fun k => sS (Q k)) n))))
set_option maxHeartbeats 8000000 in
theorem ringSums_core (s : ByteArray) (x1 : Option Addr) (n1 c1 : Nat) (x2 : Option Addr) (n2 c2 : Nat) (x3 : Option Addr) (n3 c3 : Nat) (x4 : Option Addr) (n4 c4 : Nat) (x5 : Option Addr) (n5 c5 : Nat) (p : Int) (xg : Option Addr) (ng cg : Nat) (xf : Option Addr) (nf cf : Nat) (B : Nat → Bool) (XR : Nat → Option Addr) (NR CR : Nat → Nat) (Q : Nat → List (Int × Int)) (w : World) (hn : ng ≤ 1000)
    (HQ : Hid (∀ k, k < ng → (Q k).length ≤ 50 ∧ ∀ x ∈ Q k, In x.1 ∧ In x.2))
    (HC : Hid (∀ k, k < ng → ∃ ad, xg = some ad ∧ ad.block < w.heap.size ∧ w.cell? (ad.add (k * 2)) = some (.bool (B k)) ∧ w.cell? ⟨(ad.add (k * 2)).block, (ad.add (k * 2)).off + 1, none⟩ = some (.slice (XR k) (NR k) (CR k))))
    (TR : Hid (∀ k, k < ng → ∀ w', Keep w w' → Calls Try.prog 45 #[.agg #[.string s, .slice x1 n1 c1, .slice x2 n2 c2, .slice x3 n3 c3, .slice x4 n4 c4, .slice x5 n5 c5, .int .i64 p], .agg #[.bool (B k), .slice (XR k) (NR k) (CR k)], .slice xf nf cf] w' (Fq (Q k) w')))
    (TS : Hid (SumC 26)) :
    Calls Try.prog 24 #[.agg #[.string s, .slice x1 n1 c1, .slice x2 n2 c2, .slice x3 n3 c3, .slice x4 n4 c4, .slice x5 n5 c5, .int .i64 p], .agg #[.slice xg ng cg], .slice xf nf cf] w (Rsq ng Q w) := by
  obtain ⟨i0, hi0, hz00, hz01, hz02⟩ := info_f infoF
  have HRR : Hid (fz (fun k => sZ (Q k)) 0 (ng - 0) = fz (fun k => sZ (Q k)) 0 ng) := hide rfl
  obtain ⟨r, hr⟩ : ∃ r, fz (fun k => sZ (Q k)) 0 ng = r := ⟨_, rfl⟩
  rw [hr] at HRR
  have HR := hide hr
  clear hr
  obtain ⟨ZZ, hZhmk, hmk⟩ : ∃ ZZ : Array Value, ZZ.size = ng * 2 ∧ ∀ w, (Instr.makeSlice 29 (.int .i64 0) (.int .i64 (ng : Int))).run Try.prog w = .ok (.slice (some ⟨w.heap.size, 0, none⟩) 0 ng) (w.alloc (.cells ZZ 32)) := by
    refine ⟨madeCells (Value.agg #[.int .i64 0, .int .i64 0]).cells (ng * 2), by simp [size_madeCells], fun w => ?_⟩
    have h := run_make (P := Try.prog) w 29 32 i0 _ Try.underlying29 hi0 hz00 .i64 .i64 0 (ng : Int) (by omega) (by omega) (by rw [hz02]; omega) (by omega)
    rw [hz01] at h
    simpa using h
  have hnw0 := heap_alloc_new w (.cells #[.string s, .slice x1 n1 c1, .slice x2 n2 c2, .slice x3 n3 c3, .slice x4 n4 c4, .slice x5 n5 c5, .int .i64 p] 28)
  have hnw1 := heap_alloc_new (w.alloc (.cells #[.string s, .slice x1 n1 c1, .slice x2 n2 c2, .slice x3 n3 c3, .slice x4 n4 c4, .slice x5 n5 c5, .int .i64 p] 28)) (.cells #[.slice xg ng cg] 44)
  have K0 := hide (((Keep.refl w).alloc (.cells #[.string s, .slice x1 n1 c1, .slice x2 n2 c2, .slice x3 n3 c3, .slice x4 n4 c4, .slice x5 n5 c5, .int .i64 p] 28)).alloc (.cells #[.slice xg ng cg] 44))
  have hnwa : ((w.alloc (.cells #[.string s, .slice x1 n1 c1, .slice x2 n2 c2, .slice x3 n3 c3, .slice x4 n4 c4, .slice x5 n5 c5, .int .i64 p] 28)).alloc (.cells #[.slice xg ng cg] 44)).heap[w.heap.size]? = some (.cells #[.string s, .slice x1 n1 c1, .slice x2 n2 c2, .slice x3 n3 c3, .slice x4 n4 c4, .slice x5 n5 c5, .int .i64 p] 28 (0, 0)) := by rw [heap_alloc_old _ _ (by simp)]; exact hnw0
  rw [World.size_alloc] at hnw1
  clear hnw0
  go_enter Try.func24, Try.ntmps24
  go_upto_region 1 with fail
  generalize (w.alloc (.cells #[.string s, .slice x1 n1 c1, .slice x2 n2 c2, .slice x3 n3 c3, .slice x4 n4 c4, .slice x5 n5 c5, .int .i64 p] 28)).alloc (.cells #[.slice xg ng cg] 44) = w0 at hnwa hnw1 K0 ⊢
  obtain ⟨q0, HQ0⟩ : ∃ q, Hid (w.heap.size = q) := ⟨_, hide rfl⟩
  rw [uq HQ0] at hnwa hnw1 ⊢
  have HX0 : Hid (∀ w' : World, Keep w0 w' → (w'.cell? ⟨q0, 0, none⟩ = some (.string s) ∧ w'.cell? ⟨q0, 1, none⟩ = some (.slice x1 n1 c1) ∧ w'.cell? ⟨q0, 2, none⟩ = some (.slice x2 n2 c2) ∧ w'.cell? ⟨q0, 3, none⟩ = some (.slice x3 n3 c3) ∧ w'.cell? ⟨q0, 4, none⟩ = some (.slice x4 n4 c4) ∧ w'.cell? ⟨q0, 5, none⟩ = some (.slice x5 n5 c5) ∧ w'.cell? ⟨q0, 6, none⟩ = some (.int .i64 p)) ∧ w'.cell? ⟨q0 + 1, 0, none⟩ = some (.slice xg ng cg)) := hide (fun w' k9 => by
    have h1 := k9.block q0 (Array.getElem?_eq_some_iff.1 hnwa).1
    rw [hnwa] at h1
    have h2 := k9.block (q0 + 1) (Array.getElem?_eq_some_iff.1 hnw1).1
    rw [hnw1] at h2
    refine ⟨⟨?_, ?_, ?_, ?_, ?_, ?_, ?_⟩, ?_⟩ <;> simp [World.cell?, h1, h2])
  clear hnwa hnw1
  have hrow0 := hide (World.ownsRow_made (base := w0.heap.size) (e := 32) (size := 2) w0 ZZ ng (Nat.le_refl _) (by unfold maxLen; omega) hZhmk)
  obtain ⟨⟨z0, z1, z2, z3, z4, z5, z6⟩, g0⟩ := (uq HX0) w0 (Keep.refl _)
  have lq0 : q0 + 1 < w0.heap.size := World.block_lt_of_cell? w0 _ g0
  have lq1 : q0 < w0.heap.size := by omega
  go_wp2_with fail
  clear z0 z1 z2 z3 z4 z5 z6 g0 lq0 lq1
  go_loopw [8, 20] (fun vs vi wr => ∃ k : Nat, k ≤ ng ∧ vi = .int .i64 (k : Int) ∧ Hid (wr.ownsRow w0.heap.size 32 2 vs k (fcs (tb (fun k => sS (Q k)) k))) ∧ Hid (fz (fun k => sZ (Q k)) k (ng - k) = r) ∧ Hid (Keep w0 wr)) (fun vs vi _ => ng - (intOf vi).toNat)
  case atStart => exact ⟨0, Nat.zero_le _, rfl, hrow0, HRR, hide ((Keep.refl w0).alloc _)⟩
  case round =>
    obtain ⟨k, hk, rfl, HOW, HFZ, KW⟩ := hrel
    by_cases hlt : k < ng
    · have li : (k : Int) < (ng : Int) := by omega
      have KWW := hide ((uq K0).trans (uq KW))
      obtain ⟨ad, rfl, hb, e0, e1⟩ := (uq HC) k hlt
      have y0 := V.far_cell (uq KWW) (by rw [V.add_block9]; exact hb) e0
      have y1 := V.far_cell (uq KWW) (by show (ad.add (k * 2)).block < _; rw [V.add_block9]; exact hb) e1
      clear e0 e1
      obtain ⟨hq1, hq2⟩ := (uq HQ) k hlt
      have HQ2 := hide hq2
      clear hq2
      have hbx := heap_alloc_new wr (.cells #[.bool (B k), .slice (XR k) (NR k) (CR k)] 70)
      have KB := hide ((uq KW).alloc (.cells #[.bool (B k), .slice (XR k) (NR k) (CR k)] 70))
      have KA := hide ((Keep.refl wr).alloc (.cells #[.bool (B k), .slice (XR k) (NR k) (CR k)] 70))
      go_upto_region 5 with fail
      generalize wr.alloc (.cells #[.bool (B k), .slice (XR k) (NR k) (CR k)] 70) = wa at hbx KB KA ⊢
      obtain ⟨q, HQ⟩ : ∃ q, Hid (wr.heap.size = q) := ⟨_, hide rfl⟩
      rw [uq HQ] at hbx ⊢
      have HXq : Hid (∀ w' : World, Keep wa w' → w'.cell? ⟨q, 0, none⟩ = some (.bool (B k)) ∧ w'.cell? ⟨q, 1, none⟩ = some (.slice (XR k) (NR k) (CR k))) := hide (fun w' k9 => by
        have h1 := k9.block q (Array.getElem?_eq_some_iff.1 hbx).1
        rw [hbx] at h1
        refine ⟨?_, ?_⟩ <;> simp [World.cell?, h1])
      clear hbx y0 y1
      obtain ⟨f0, f1⟩ := (uq HXq) wa (Keep.refl wa)
      obtain ⟨⟨z0, z1, z2, z3, z4, z5, z6⟩, g0⟩ := (uq HX0) wa (uq KB)
      have TK := hide ((uq TR) k hlt wa ((uq K0).trans (uq KB)))
      have HSN : Hid (fcs (tb (fun k => sS (Q k)) (k + 1)) = fcs (tb (fun k => sS (Q k)) k) ++ [.int .i64 (sS (Q k)).1, .int .i64 (sS (Q k)).2]) := hide (by rw [tb, fcs_app]; rfl)
      have HZY : Hid (¬ sZ (Q k) = 0 → r = sZ (Q k)) := hide (fun h => fz_yes (Z := fun k => sZ (Q k)) (uq HFZ) hlt h)
      have HZN : Hid (sZ (Q k) = 0 → fz (fun k => sZ (Q k)) (k + 1) (ng - (k + 1)) = r) := hide (fun h => fz_no (Z := fun k => sZ (Q k)) (uq HFZ) hlt h)
      go_wp2_with fail
      (refine (uq TK).mono ?_; rintro e w2 ⟨vq, rfl, hk9, ho9⟩; have K2 := hide ((uq KB).trans hk9); have KA2 := hide ((uq KA).trans hk9); have TK2 := hide ((uq TS) vq (Q k) w2 (frs_own ho9 (uq HQ2)) hq1); clear hk9 ho9)
      clear z0 z1 z2 z3 z4 z5 z6 g0 f0 f1 TK
      generalize sZ (Q k) = z at TK2 HZY HZN
      generalize sS (Q k) = xy at TK2 HSN
      obtain ⟨sx, sy⟩ := xy
      simp only at TK2 HSN
      go_wp2_with fail
      (refine (uq TK2).mono ?_; rintro e w3 ⟨rfl, hk9⟩; have K3 := hide ((uq K2).trans hk9); have KA3 := hide ((uq KA2).trans hk9); clear hk9)
      have HOW3 := hide (own_k (uq HOW) (uq KA3))
      have hsz := Below.size (uq K3)
      clear HOW TK2
      by_cases hz : z = 0
      · subst hz
        have HF2 := hide ((uq HZN) rfl)
        clear HZN HZY
        go_wp2_with (at_builtin; refine wpList_append_own _ rfl _ _ 29 rfl w0.heap.size 32 i0 _ 2 16 Try.underlying29 hi0 hz00 hz01 hz02 rfl (by decide) _ _ _ rfl (((uq HOW3).alloc _).alloc _) ⟨w3.heap.size + 1, 0, none⟩ 1 1 [.int .i64 sx, .int .i64 sy] rfl rfl (new_v1 w3 _ [.int .i64 sx, .int .i64 sy] _) (by simp [Value.oneCell']) (by unfold maxLen; omega) (by omega) (by simp; omega) ?_; intro v' w4 hown' hgrow hnil; have HOWN := hide hown'; have HG := hide hgrow; have HK4 : Hid (Keep w0 w4) := hide (Below.grown (((uq K3).alloc _).alloc _) hgrow (by simp; omega) (fun j ej => ((uq HOW3).lt j ej).1)); clear hown' hgrow hnil)
        go_roundw
        case rel => exact ⟨k + 1, hlt, by go_num, hide (by rw [uq HSN]; exact uq HOWN), HF2, HK4⟩
        case measure => simp [intOf]; omega
      · have hzb : (z != 0) = true := by simpa using hz
        have HZ := hide hz
        have HRZ := hide ((uq HZY) hz)
        clear hz HZY HZN
        go_wp2_with fail
        go_ret2
        exact ⟨_, _, rfl, ((uq K0).trans (uq K3)).alloc _, (uq HRZ).symm.trans (uq HR).symm, .inl ⟨uq HZ, rfl⟩⟩
    · have li : ¬ (k : Int) < (ng : Int) := by omega
      obtain rfl : k = ng := by omega
      have HRZ := hide (fz_end (uq HFZ) (Nat.le_refl _))
      go_wp2_with fail
      go_ret2
      exact ⟨_, _, rfl, (uq K0).trans (uq KW), (uq HRZ).symm.trans (uq HR).symm, .inr ⟨rfl, own_mono (uq HOW) (Below.size (uq K0))⟩⟩
end Cr
end Go.Proofs.Ytdgmndjofbdgeaa
