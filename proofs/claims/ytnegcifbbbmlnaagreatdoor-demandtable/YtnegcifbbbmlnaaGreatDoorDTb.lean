/- Package demand: the flow ratios of a node, over letters. -/
import Derived.Test.YtnegcifbbbmlnaaGreatDoorDWk
import Derived.Laws.AppendOwn
import Derived.Laws.OwnMore
import Derived.Laws.MakeOwn
import Derived.OwnWalk
namespace Go.Proofs.YtnegcifbbbmlnaaGreatDoor
open Go.RowKit
attribute [local go_sem ↓] Go.wp_at_zero Go.wp_at_succ
set_option linter.unusedVariables false
set_option linter.unusedSimpArgs false
set_option maxRecDepth 10000
namespace W
/-- the first error from k on, of m; 0 if there is none -/
def fz (Z : Nat → Int) : Nat → Nat → Int
  | _, 0 => 0
  | k, m + 1 => if Z k = 0 then fz Z (k + 1) m else Z k
theorem fz_yes {Z : Nat → Int} {k n : Nat} {r : Int} (h : fz Z k (n - k) = r) (hk : k < n) (hz : ¬ Z k = 0) : r = Z k := by
  rw [show n - k = (n - (k + 1)) + 1 by omega, fz, if_neg hz] at h; exact h.symm
theorem fz_no {Z : Nat → Int} {k n : Nat} {r : Int} (h : fz Z k (n - k) = r) (hk : k < n) (hz : Z k = 0) : fz Z (k + 1) (n - (k + 1)) = r := by
  rw [show n - k = (n - (k + 1)) + 1 by omega, fz, if_pos hz] at h; exact h
theorem fz_end {Z : Nat → Int} {k n : Nat} {r : Int} (h : fz Z k (n - k) = r) (hk : n ≤ k) : r = 0 := by
  rw [show n - k = 0 by omega] at h; exact h.symm
/-- fractions as cells -/
def cp (X Y : Nat → Int) : Nat → List Value
  | 0 => []
  | k + 1 => cp X Y k ++ [.int .i64 (X k), .int .i64 (Y k)]
theorem infoF : (Tryz.prog.info? 23).map (fun i => (i.zero, i.size, i.bytes)) = some (some (.agg #[.int .i64 0, .int .i64 0]), 2, 16) := by kernel_rfl
theorem info_f {t : TypeId} {z : Value} {a b : Nat} (h : (Tryz.prog.info? t).map (fun i => (i.zero, i.size, i.bytes)) = some (some z, a, b)) : ∃ i, Tryz.prog.info? t = some i ∧ i.zero = some z ∧ i.size = a ∧ i.bytes = b := by
  cases hi : Tryz.prog.info? t with
  | none => rw [hi] at h; cases h
  | some i => rw [hi] at h; simp at h; exact ⟨i, rfl, h.1, h.2.1, h.2.2⟩
theorem own_k {w w' : World} {base : Nat} {e : TypeId} {z n : Nat} {v : Value} {xs : List Value} (h : w.ownsRow base e z v n xs) (hk : Keep w w') : w'.ownsRow base e z v n xs :=
  h.kept (row := none) ⟨hk.os, hk.tape, hk.output, hk.size, fun i hi _ => hk.block i hi⟩ (by cases v.ownBlock <;> simp)
theorem own_mono {w : World} {B B' : Nat} {e : TypeId} {z n : Nat} {v : Value} {xs : List Value} (h : w.ownsRow B e z v n xs) (hb : B' ≤ B) : w.ownsRow B' e z v n xs := by
  obtain ⟨h1, h2⟩ := h
  refine ⟨h1, ?_⟩
  rcases h2 with h2 | ⟨g, cap, cur, e, hg, r⟩
  · exact .inl h2
  · exact .inr ⟨g, cap, cur, e, by omega, r⟩
theorem add_pl (b o n : Nat) : (⟨b, o, none⟩ : Addr).add n = ⟨b, o + n, none⟩ := by unfold Addr.add; split <;> simp_all
theorem new_two (w : World) (a b : Value) (t : TypeId) : ∀ j u, [a, b][j]? = some u → (w.alloc (.cells #[a, b] t)).cell? ((⟨w.heap.size, 0, none⟩ : Addr).add j) = some u := by
  intro j u hj
  rw [add_pl, Nat.zero_add]
  match j, hj with
  | 0, hj => simp at hj; subst hj; simp [go_sem]
  | 1, hj => simp at hj; subst hj; simp [go_sem]
  | j + 2, hj => simp at hj
theorem new_two1 (w : World) (o : Obj) (a b : Value) (t : TypeId) : ∀ j u, [a, b][j]? = some u → ((w.alloc o).alloc (.cells #[a, b] t)).cell? ((⟨w.heap.size + 1, 0, none⟩ : Addr).add j) = some u := by
  have h := new_two (w.alloc o) a b t
  rw [World.size_alloc] at h
  exact h
theorem far9 {w W : World} {a : Addr} {v : Value} (h : Keep w W) (hb : a.block < w.heap.size) (hc : w.cell? a = some v) : W.cell? a = some v := by rw [Below.cell h hb]; exact hc
theorem ab9 (ad : Addr) (n : Nat) : (ad.add n).block = ad.block := by unfold Addr.add; split <;> rfl
/-- how ratios end: a row of the call's own, or nil beside the first error -/
def Rp (n : Nat) (X Y Z : Nat → Int) (w : World) (e : Ending) (w' : World) : Prop := ∃ v z, e = .returned (.tuple #[v, .int .i64 z]) ∧ Keep w w' ∧ z = fz Z 0 n ∧ ((¬ z = 0 ∧ v = .slice none 0 0) ∨ (z = 0 ∧ w'.ownsRow w.heap.size 23 2 v n (cp X Y n)))
set_option maxHeartbeats 8000000 in
theorem ratios_core (s : ByteArray) (x1 : Option Addr) (n1 c1 : Nat) (x2 : Option Addr) (n2 c2 : Nat) (x3 : Option Addr) (n3 c3 : Nat) (x4 : Option Addr) (n4 c4 : Nat) (x5 : Option Addr) (n5 c5 : Nat) (p : Int) (pn pd : Int) (HN : Nat → ByteArray) (V1 V2 V3 V4 V5 V6 V7 V8 V9 V10 : Nat → Int) (X Y Z : Nat → Int) (w : World) (hn : n1 ≤ 1000)
    (HC : Hid (∀ k, k < n1 → ∃ ad, x1 = some ad ∧ ad.block < w.heap.size ∧ w.cell? (ad.add (k * 11)) = some (.string (HN k)) ∧ w.cell? ⟨(ad.add (k * 11)).block, (ad.add (k * 11)).off + 1, none⟩ = some (.int .i64 (V1 k)) ∧ w.cell? ⟨(ad.add (k * 11)).block, (ad.add (k * 11)).off + 2, none⟩ = some (.int .i64 (V2 k)) ∧ w.cell? ⟨(ad.add (k * 11)).block, (ad.add (k * 11)).off + 3, none⟩ = some (.int .i64 (V3 k)) ∧ w.cell? ⟨(ad.add (k * 11)).block, (ad.add (k * 11)).off + 4, none⟩ = some (.int .i64 (V4 k)) ∧ w.cell? ⟨(ad.add (k * 11)).block, (ad.add (k * 11)).off + 5, none⟩ = some (.int .i64 (V5 k)) ∧ w.cell? ⟨(ad.add (k * 11)).block, (ad.add (k * 11)).off + 6, none⟩ = some (.int .i64 (V6 k)) ∧ w.cell? ⟨(ad.add (k * 11)).block, (ad.add (k * 11)).off + 7, none⟩ = some (.int .i64 (V7 k)) ∧ w.cell? ⟨(ad.add (k * 11)).block, (ad.add (k * 11)).off + 8, none⟩ = some (.int .i64 (V8 k)) ∧ w.cell? ⟨(ad.add (k * 11)).block, (ad.add (k * 11)).off + 9, none⟩ = some (.int .i64 (V9 k)) ∧ w.cell? ⟨(ad.add (k * 11)).block, (ad.add (k * 11)).off + 10, none⟩ = some (.int .i64 (V10 k))))
    (T : Hid (∀ k, k < n1 → ∀ w, Calls Tryz.prog 13 #[.agg #[.string (HN k), .int .i64 (V1 k), .int .i64 (V2 k), .int .i64 (V3 k), .int .i64 (V4 k), .int .i64 (V5 k), .int .i64 (V6 k), .int .i64 (V7 k), .int .i64 (V8 k), .int .i64 (V9 k), .int .i64 (V10 k)], .agg #[.int .i64 pn, .int .i64 pd]] w fun e w' => e = .returned (.tuple #[.agg #[.int .i64 (X k), .int .i64 (Y k)], .int .i64 (Z k)]) ∧ Keep w w')) :
    Calls Tryz.prog 10 #[.agg #[.string s, .slice x1 n1 c1, .slice x2 n2 c2, .slice x3 n3 c3, .slice x4 n4 c4, .slice x5 n5 c5, .int .i64 p], .agg #[.int .i64 pn, .int .i64 pd]] w (Rp n1 X Y Z w) := by
  obtain ⟨i0, hi, hz0, hz1, hz2⟩ := info_f infoF
  have HRR : Hid (fz Z 0 (n1 - 0) = fz Z 0 n1) := hide rfl
  obtain ⟨r, hr⟩ : ∃ r, fz Z 0 n1 = r := ⟨_, rfl⟩
  rw [hr] at HRR
  have HR := hide hr
  clear hr
  obtain ⟨ZZ, hZ, hmk⟩ : ∃ ZZ : Array Value, ZZ.size = n1 * 2 ∧ ∀ w, (Instr.makeSlice 33 (.int .i64 0) (.int .i64 (n1 : Int))).run Tryz.prog w = .ok (.slice (some ⟨w.heap.size, 0, none⟩) 0 n1) (w.alloc (.cells ZZ 23)) := by
    refine ⟨madeCells (Value.agg #[.int .i64 0, .int .i64 0]).cells (n1 * 2), by simp [size_madeCells], fun w => ?_⟩
    have h := run_make (P := Tryz.prog) w 33 23 i0 _ Tryz.underlying33 hi hz0 .i64 .i64 0 (n1 : Int) (by omega) (by omega) (by rw [hz2]; omega) (by omega)
    rw [hz1] at h
    simpa using h
  have hnw := heap_alloc_new w (.cells #[.string s, .slice x1 n1 c1, .slice x2 n2 c2, .slice x3 n3 c3, .slice x4 n4 c4, .slice x5 n5 c5, .int .i64 p] 42)
  have hnw2 := heap_alloc_new (w.alloc (.cells #[.string s, .slice x1 n1 c1, .slice x2 n2 c2, .slice x3 n3 c3, .slice x4 n4 c4, .slice x5 n5 c5, .int .i64 p] 42)) (.cells #[.int .i64 pn, .int .i64 pd] 23)
  have hnw1 : ((w.alloc (.cells #[.string s, .slice x1 n1 c1, .slice x2 n2 c2, .slice x3 n3 c3, .slice x4 n4 c4, .slice x5 n5 c5, .int .i64 p] 42)).alloc (.cells #[.int .i64 pn, .int .i64 pd] 23)).heap[w.heap.size]? = some (.cells #[.string s, .slice x1 n1 c1, .slice x2 n2 c2, .slice x3 n3 c3, .slice x4 n4 c4, .slice x5 n5 c5, .int .i64 p] 42 (0, 0)) := by rw [heap_alloc_old _ _ (by simp)]; exact hnw
  have K1 := hide (((Keep.refl w).alloc (.cells #[.string s, .slice x1 n1 c1, .slice x2 n2 c2, .slice x3 n3 c3, .slice x4 n4 c4, .slice x5 n5 c5, .int .i64 p] 42)).alloc (.cells #[.int .i64 pn, .int .i64 pd] 23))
  rw [World.size_alloc] at hnw2
  clear hnw
  go_enter Tryz.func10, Tryz.ntmps10
  go_upto_region 1 with fail
  generalize (w.alloc (.cells #[.string s, .slice x1 n1 c1, .slice x2 n2 c2, .slice x3 n3 c3, .slice x4 n4 c4, .slice x5 n5 c5, .int .i64 p] 42)).alloc (.cells #[.int .i64 pn, .int .i64 pd] 23) = wb at hnw1 hnw2 K1 ⊢
  obtain ⟨q, HQ⟩ : ∃ q, Hid (w.heap.size = q) := ⟨_, hide rfl⟩
  rw [uq HQ] at hnw1 hnw2 ⊢
  have HX : Hid (∀ w' : World, Keep wb w' → w'.cell? ⟨q, 1, none⟩ = some (.slice x1 n1 c1) ∧ w'.cell? ⟨q + 1, 0, none⟩ = some (.int .i64 pn) ∧ w'.cell? ⟨q + 1, 1, none⟩ = some (.int .i64 pd)) := hide (fun w' k9 => by
    have h1 := k9.block q (Array.getElem?_eq_some_iff.1 hnw1).1
    have h2 := k9.block (q + 1) (Array.getElem?_eq_some_iff.1 hnw2).1
    rw [hnw1] at h1
    rw [hnw2] at h2
    refine ⟨?_, ?_, ?_⟩ <;> simp [World.cell?, h1, h2])
  clear hnw1 hnw2
  have hrow0 := hide (World.ownsRow_made (base := wb.heap.size) (e := 23) (size := 2) wb ZZ n1 (Nat.le_refl _) (by unfold maxLen; omega) hZ)
  obtain ⟨f1, f2, f3⟩ := (uq HX) wb (Keep.refl _)
  have lq0 : q < wb.heap.size := World.block_lt_of_cell? wb _ f1
  go_wp2_with fail
  clear f1 f2 f3 lq0
  go_loopw [6, 18] (fun vs vi wr => ∃ k : Nat, k ≤ n1 ∧ vi = .int .i64 (k : Int) ∧ Hid (wr.ownsRow wb.heap.size 23 2 vs k (cp X Y k)) ∧ Hid (fz Z k (n1 - k) = r) ∧ Hid (Keep wb wr)) (fun vs vi _ => n1 - (intOf vi).toNat)
  case atStart => exact ⟨0, Nat.zero_le _, rfl, hrow0, HRR, hide ((Keep.refl wb).alloc _)⟩
  case round =>
    obtain ⟨k, hk, rfl, HROW, HFZ, HK⟩ := hrel
    by_cases hlt : k < n1
    · have li : (k : Int) < (n1 : Int) := by omega
      obtain ⟨ad, rfl, hb, e0, e1, e2, e3, e4, e5, e6, e7, e8, e9, e10⟩ := (uq HC) k hlt
      have KW := hide ((uq K1).trans (uq HK))
      have x0 := far9 (uq KW) (by show (ad.add (k * 11)).block < _; rw [ab9]; exact hb) e0
      have x1' := far9 (uq KW) (by show (ad.add (k * 11)).block < _; rw [ab9]; exact hb) e1
      have x2' := far9 (uq KW) (by show (ad.add (k * 11)).block < _; rw [ab9]; exact hb) e2
      have x3' := far9 (uq KW) (by show (ad.add (k * 11)).block < _; rw [ab9]; exact hb) e3
      have x4' := far9 (uq KW) (by show (ad.add (k * 11)).block < _; rw [ab9]; exact hb) e4
      have x5' := far9 (uq KW) (by show (ad.add (k * 11)).block < _; rw [ab9]; exact hb) e5
      have x6' := far9 (uq KW) (by show (ad.add (k * 11)).block < _; rw [ab9]; exact hb) e6
      have x7' := far9 (uq KW) (by show (ad.add (k * 11)).block < _; rw [ab9]; exact hb) e7
      have x8' := far9 (uq KW) (by show (ad.add (k * 11)).block < _; rw [ab9]; exact hb) e8
      have x9' := far9 (uq KW) (by show (ad.add (k * 11)).block < _; rw [ab9]; exact hb) e9
      have x10' := far9 (uq KW) (by show (ad.add (k * 11)).block < _; rw [ab9]; exact hb) e10
      clear e0 e1 e2 e3 e4 e5 e6 e7 e8 e9 e10
      obtain ⟨f1, f2, f3⟩ := (uq HX) wr (uq HK)
      have TT := hide ((uq T) k hlt)
      have lq : q + 1 < wr.heap.size := World.block_lt_of_cell? wr _ f2
      have hsz := Below.size (uq HK)
      clear f1
      go_wp2_with fail
      refine ((uq TT) _).mono ?_
      rintro e w2 ⟨rfl, hk2⟩
      have HK2 := hide (((uq HK).alloc _).trans hk2)
      have HROW2 := hide (own_k (own_k (uq HROW) ((Keep.refl wr).alloc _)) hk2)
      clear hk2 f2 f3 lq x0 x1' x2' x3' x4' x5' x6' x7' x8' x9' x10'
      have hsz2 := Below.size (uq HK2)
      by_cases hz : Z k = 0
      · have HF2 := hide (fz_no (uq HFZ) hlt hz)
        have hzb : (Z k != 0) = false := by simp [hz]
        obtain ⟨xk, hxk⟩ : ∃ x, X k = x := ⟨_, rfl⟩
        obtain ⟨yk, hyk⟩ : ∃ x, Y k = x := ⟨_, rfl⟩
        have HCP : Hid (cp X Y (k + 1) = cp X Y k ++ [.int .i64 xk, .int .i64 yk]) := hide (by rw [← hxk, ← hyk]; rfl)
        rw [hxk, hyk, hz]
        clear hxk hyk hz hzb
        have hkk : k ≤ 1000 := by omega
        go_wp2_with (at_builtin; refine wpList_append_own _ rfl _ _ 33 rfl wb.heap.size 23 i0 _ 2 16 Tryz.underlying33 hi hz0 hz1 hz2 rfl (by decide) _ _ _ rfl (((uq HROW2).alloc _).alloc _) ⟨w2.heap.size + 1, 0, none⟩ 1 1 [.int .i64 xk, .int .i64 yk] rfl rfl (new_two1 w2 _ _ _ _) (by simp [Value.oneCell']) (by unfold maxLen; omega) (by omega) (by simp; omega) ?_; intro v' w4 hown' hgrow hnil; have HOWN := hide hown'; have HK4 : Hid (Keep wb w4) := hide (Below.grown (((uq HK2).alloc _).alloc _) hgrow (by simp; omega) (fun j ej => ((uq HROW2).lt j ej).1)); clear hown' hgrow hnil)
        go_roundw
        case rel => exact ⟨k + 1, hlt, by go_num, by rw [uq HCP]; exact HOWN, HF2, HK4⟩
        case measure => simp [intOf]; omega
      · have hr0 := fz_yes (uq HFZ) hlt hz
        have hzb : (Z k != 0) = true := by simp [hz]
        have HR0 := hide hr0
        have HZ := hide hz
        clear hr0 hz
        go_wp2_with fail
        go_ret2
        refine ⟨_, _, rfl, (uq K1).trans ((uq HK2).alloc _), ?_, .inl ⟨uq HZ, rfl⟩⟩
        rw [uq HR, uq HR0]
    · have li : ¬ (k : Int) < (n1 : Int) := by omega
      have e : k = n1 := by omega
      subst e
      have hr0 := fz_end (uq HFZ) (Nat.le_refl _)
      have HR0 := hide hr0
      clear hr0
      go_wp2_with fail
      go_ret2
      exact ⟨_, _, rfl, (uq K1).trans (uq HK), by rw [uq HR, uq HR0], .inr ⟨rfl, own_mono (uq HROW) (uq K1).size⟩⟩
end W
end Go.Proofs.YtnegcifbbbmlnaaGreatDoor
