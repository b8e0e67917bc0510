/- Package crit: the places, and the ratios, of a ring's phases. -/
import Derived.Test.YtdgmndjofbdgeaaWholeQ
import Derived.Test.YtdgmndjofbdgeaaAllW
import Derived.Deep.DrawnRows
import Derived.Deep.RegionHeld3
import Derived.Laws.AppendOwn
import Derived.Laws.OwnMore
import Derived.Laws.MakeOwn
import Derived.OwnWalk
namespace Go.Proofs.Ytdgmndjofbdgeaa
open Go.RowKit
attribute [local go_sem ↓] Go.wp_at_zero Go.wp_at_succ
set_option linter.unusedVariables false
set_option linter.unusedSimpArgs false
set_option maxRecDepth 10000
namespace Cr
theorem infoI : (Try.prog.info? 3).map (fun i => (i.zero, i.size, i.bytes)) = some (some (.int .i64 0), 1, 8) := by kernel_rfl
theorem infoF : (Try.prog.info? 32).map (fun i => (i.zero, i.size, i.bytes)) = some (some (.agg #[.int .i64 0, .int .i64 0]), 2, 16) := by kernel_rfl
theorem info_f {t : TypeId} {z : Value} {a b : Nat} (h : (Try.prog.info? t).map (fun i => (i.zero, i.size, i.bytes)) = some (some z, a, b)) : ∃ i, Try.prog.info? t = some i ∧ i.zero = some z ∧ i.size = a ∧ i.bytes = b := by
  cases hi : Try.prog.info? t with
  | none => rw [hi] at h; cases h
  | some i => rw [hi] at h; simp at h; exact ⟨i, rfl, h.1, h.2.1, h.2.2⟩
theorem own_k {w w' : World} {base : Nat} {e : TypeId} {z n : Nat} {v : Value} {xs : List Value} (h : w.ownsRow base e z v n xs) (hk : Keep w w') : w'.ownsRow base e z v n xs :=
  h.kept (row := none) ⟨hk.os, hk.tape, hk.output, hk.size, fun i hi _ => hk.block i hi⟩ (by cases v.ownBlock <;> simp)
theorem own_mono {w : World} {B B' : Nat} {e : TypeId} {z n : Nat} {v : Value} {xs : List Value} (h : w.ownsRow B e z v n xs) (hb : B' ≤ B) : w.ownsRow B' e z v n xs := by
  obtain ⟨h1, h2⟩ := h
  refine ⟨h1, ?_⟩
  rcases h2 with h2 | ⟨g, cap, cur, e, hg, r⟩
  · exact .inl h2
  · exact .inr ⟨g, cap, cur, e, by omega, r⟩
theorem add_pl (b o n : Nat) : (⟨b, o, none⟩ : Addr).add n = ⟨b, o + n, none⟩ := by unfold Addr.add; split <;> simp_all
theorem new_v (w : World) (vs : List Value) (t : TypeId) : ∀ j u, vs[j]? = some u → (w.alloc (.cells vs.toArray t)).cell? ((⟨w.heap.size, 0, none⟩ : Addr).add j) = some u := by
  intro j u hj
  rw [add_pl, Nat.zero_add]
  have h := heap_alloc_new w (.cells vs.toArray t)
  simp only [World.cell?, h]
  simpa using hj
theorem new_v1 (w : World) (o : Obj) (vs : List Value) (t : TypeId) : ∀ j u, vs[j]? = some u → ((w.alloc o).alloc (.cells vs.toArray t)).cell? ((⟨w.heap.size + 1, 0, none⟩ : Addr).add j) = some u := by
  have h := new_v (w.alloc o) vs t
  rw [World.size_alloc] at h
  exact h
theorem own_cell {w : World} {B : Nat} {e : TypeId} {z n : Nat} {v : Value} {xs : List Value} (h : w.ownsRow B e z v n xs) : ∃ a cap, v = .slice a n cap ∧ (0 < n → ∃ g, a = some ⟨g, 0, none⟩ ∧ g < w.heap.size ∧ B ≤ g ∧ n ≤ cap ∧ ∀ j u, xs[j]? = some u → w.cell? ⟨g, j, none⟩ = some u) := by
  rcases h.2 with ⟨rfl, h0⟩ | ⟨g, cap, cur, rfl, hb, hg, hc, hm, hs, ht⟩
  · exact ⟨none, 0, by rw [h0], fun h => by omega⟩
  · refine ⟨_, cap, rfl, fun _ => ⟨g, rfl, (Array.getElem?_eq_some_iff.1 hg).1, hb, hc, fun j u hu => ?_⟩⟩
    rw [← ht, List.getElem?_take] at hu
    simp only [World.cell?, hg]
    split at hu
    · simpa using hu
    · cases hu
/-- numbers, fractions as cells -/
def ics (L : List Int) : List Value := L.map (.int .i64)
def fcs : List (Int × Int) → List Value
  | [] => []
  | x :: L => .int .i64 x.1 :: .int .i64 x.2 :: fcs L
theorem fcs_app : ∀ (L M : List (Int × Int)), fcs (L ++ M) = fcs L ++ fcs M
  | [], M => rfl
  | x :: L, M => by rw [List.cons_append, fcs, fcs, fcs_app L M]; rfl
theorem fcs_at : ∀ (L : List (Int × Int)) (j : Nat), j < L.length → (fcs L)[j * 2]? = some (.int .i64 (L.getD j (0, 0)).1) ∧ (fcs L)[j * 2 + 1]? = some (.int .i64 (L.getD j (0, 0)).2)
  | [], j, h => by simp at h
  | x :: L, 0, h => by simp [fcs]
  | x :: L, j + 1, h => by
    have := fcs_at L j (by simpa using h)
    rw [fcs, show (j + 1) * 2 = j * 2 + 1 + 1 by omega]
    simpa using this
/-- a slice that reads as numbers, as fractions -/
def Is (w : World) (v : Value) (L : List Int) : Prop := ∃ a cap, v = .slice a L.length cap ∧ ∀ k, k < L.length → ∃ ad, a = some ad ∧ ad.block < w.heap.size ∧ w.cell? (ad.add k) = some (.int .i64 (L.getD k 0))
def Frs (w : World) (v : Value) (L : List (Int × Int)) : Prop := ∃ a cap, v = .slice a L.length cap ∧ (0 < L.length → ∃ ad, a = some ad ∧ Fs w ad L)
theorem Is.keep {w w' : World} {v : Value} {L : List Int} (h : Is w v L) (hk : Keep w w') : Is w' v L := by
  obtain ⟨a, cap, rfl, h⟩ := h
  refine ⟨a, cap, rfl, fun k hlt => ?_⟩
  obtain ⟨ad, e, h1, h2⟩ := h k hlt
  exact ⟨ad, e, Nat.lt_of_lt_of_le h1 hk.size, by rw [Below.cell hk (by rw [add_blockF]; exact h1)]; exact h2⟩
theorem Frs.keep {w w' : World} {v : Value} {L : List (Int × Int)} (h : Frs w v L) (hk : Keep w w') : Frs w' v L := by
  obtain ⟨a, cap, rfl, h⟩ := h
  exact ⟨a, cap, rfl, fun hl => by obtain ⟨ad, e, h1⟩ := h hl; exact ⟨ad, e, h1.keep hk⟩⟩
theorem is_own {w : World} {B : Nat} {v : Value} {L : List Int} (h : w.ownsRow B 3 1 v L.length (ics L)) : Is w v L := by
  obtain ⟨a, cap, rfl, h1⟩ := own_cell h
  refine ⟨a, cap, rfl, fun k hk => ?_⟩
  obtain ⟨g, rfl, h2, h3, h4, h5⟩ := h1 (by omega)
  refine ⟨_, rfl, h2, ?_⟩
  rw [add_pl, Nat.zero_add]
  exact h5 k _ (by simp [ics, hk])
theorem frs_own {w : World} {B : Nat} {v : Value} {L : List (Int × Int)} (h : w.ownsRow B 32 2 v L.length (fcs L)) (hi : ∀ x ∈ L, In x.1 ∧ In x.2) : Frs w v L := by
  obtain ⟨a, cap, rfl, h1⟩ := own_cell h
  refine ⟨a, cap, rfl, fun hl => ?_⟩
  obtain ⟨g, rfl, h2, h3, h4, h5⟩ := h1 hl
  refine ⟨_, rfl, fun k hk => ?_⟩
  obtain ⟨e1, e2⟩ := fcs_at L k hk
  have hm : L.getD k (0, 0) ∈ L := by rw [List.getD_eq_getElem?_getD, List.getElem?_eq_getElem hk]; exact List.getElem_mem hk
  refine ⟨h2, (hi _ hm).1, (hi _ hm).2, ?_, ?_⟩
  · rw [add_pl, Nat.zero_add]; exact h5 _ _ e1
  · rw [add_pl, Nat.zero_add]; exact h5 _ _ e2
/-- the places that are there -/
def plc (A : List UInt8 → Int) (T : List (List UInt8)) : List Int := (T.map A).filter (fun x => decide (0 ≤ x))
theorem plc_more (A : List UInt8 → Int) (T : List (List UInt8)) (k : Nat) (hk : k < T.length) : plc A (T.take (k + 1)) = plc A (T.take k) ++ (if 0 ≤ A (T.getD k []) then [A (T.getD k [])] else []) := by
  unfold plc
  rw [List.take_add_one, List.map_append, List.filter_append, List.getElem?_eq_getElem hk, List.getD_eq_getElem?_getD, List.getElem?_eq_getElem hk]
  simp only [Option.toList, List.map_cons, List.map_nil, Option.getD_some]
  by_cases h : 0 ≤ A T[k]
  · simp [h]
  · simp [h]
theorem plc_len (A : List UInt8 → Int) (T : List (List UInt8)) : (plc A T).length ≤ T.length := by
  unfold plc
  exact Nat.le_trans (List.length_filter_le _ _) (by simp)
theorem ics_app (L M : List Int) : ics (L ++ M) = ics L ++ ics M := by simp [ics]
/-- a row of the call's own, of numbers, of fractions -/
def Iq (L : List Int) (w : World) (e : Ending) (w' : World) : Prop := ∃ v, e = .returned v ∧ Keep w w' ∧ w'.ownsRow w.heap.size 3 1 v L.length (ics L)
def Fq (L : List (Int × Int)) (w : World) (e : Ending) (w' : World) : Prop := ∃ v, e = .returned v ∧ Keep w w' ∧ w'.ownsRow w.heap.size 32 2 v L.length (fcs L)
set_option maxHeartbeats 4000000 in
theorem placesOf_core (s : ByteArray) (x1 : Option Addr) (n1 c1 : Nat) (x2 : Option Addr) (n2 c2 : Nat) (x3 : Option Addr) (n3 c3 : Nat) (x4 : Option Addr) (n4 c4 : Nat) (x5 : Option Addr) (n5 c5 : Nat) (p : Int) (fr : Bool) (xr : Option Addr) (T : List (List UInt8)) (cr : Nat) (A : List UInt8 → Int) (w : World) (hn : T.length ≤ 1000)
    (HC : Hid (∀ k, k < T.length → ∃ ad, xr = some ad ∧ ad.block < w.heap.size ∧ w.cell? (ad.add k) = some (.string (sv (T.getD k [])))))
    (TP : Hid (∀ nm w', Keep w w' → Calls Try.prog 49 #[.agg #[.string s, .slice x1 n1 c1, .slice x2 n2 c2, .slice x3 n3 c3, .slice x4 n4 c4, .slice x5 n5 c5, .int .i64 p], .string (sv nm)] w' fun e w'' => e = .returned (.int .i64 (A nm)) ∧ Keep w' w'')) :
    Calls Try.prog 28 #[.agg #[.string s, .slice x1 n1 c1, .slice x2 n2 c2, .slice x3 n3 c3, .slice x4 n4 c4, .slice x5 n5 c5, .int .i64 p], .agg #[.bool fr, .slice xr T.length cr]] w (Iq (plc A T) w) := by
  obtain ⟨i0, hi0, hz00, hz01, hz02⟩ := info_f infoI
  obtain ⟨nr, hnr⟩ : ∃ n, T.length = n := ⟨_, rfl⟩
  rw [hnr] at HC hn ⊢
  have HNR := hide hnr
  clear hnr
  obtain ⟨ZZ, hZhmk, hmk⟩ : ∃ ZZ : Array Value, ZZ.size = nr * 1 ∧ ∀ w, (Instr.makeSlice 33 (.int .i64 0) (.int .i64 (nr : Int))).run Try.prog w = .ok (.slice (some ⟨w.heap.size, 0, none⟩) 0 nr) (w.alloc (.cells ZZ 3)) := by
    refine ⟨madeCells (Value.int .i64 0).cells (nr * 1), by simp [size_madeCells], fun w => ?_⟩
    have h := run_make (P := Try.prog) w 33 3 i0 _ Try.underlying33 hi0 hz00 .i64 .i64 0 (nr : Int) (by omega) (by omega) (by rw [hz02]; omega) (by omega)
    rw [hz01] at h
    simpa using h
  have hnw0 := heap_alloc_new w (.cells #[.string s, .slice x1 n1 c1, .slice x2 n2 c2, .slice x3 n3 c3, .slice x4 n4 c4, .slice x5 n5 c5, .int .i64 p] 28)
  have hnw1 := heap_alloc_new (w.alloc (.cells #[.string s, .slice x1 n1 c1, .slice x2 n2 c2, .slice x3 n3 c3, .slice x4 n4 c4, .slice x5 n5 c5, .int .i64 p] 28)) (.cells #[.bool fr, .slice xr nr cr] 70)
  have K0 := hide (((Keep.refl w).alloc (.cells #[.string s, .slice x1 n1 c1, .slice x2 n2 c2, .slice x3 n3 c3, .slice x4 n4 c4, .slice x5 n5 c5, .int .i64 p] 28)).alloc (.cells #[.bool fr, .slice xr nr cr] 70))
  have hnwa : ((w.alloc (.cells #[.string s, .slice x1 n1 c1, .slice x2 n2 c2, .slice x3 n3 c3, .slice x4 n4 c4, .slice x5 n5 c5, .int .i64 p] 28)).alloc (.cells #[.bool fr, .slice xr nr cr] 70)).heap[w.heap.size]? = some (.cells #[.string s, .slice x1 n1 c1, .slice x2 n2 c2, .slice x3 n3 c3, .slice x4 n4 c4, .slice x5 n5 c5, .int .i64 p] 28 (0, 0)) := by rw [heap_alloc_old _ _ (by simp)]; exact hnw0
  rw [World.size_alloc] at hnw1
  clear hnw0
  go_enter Try.func28, Try.ntmps28
  go_upto_region 1 with fail
  generalize (w.alloc (.cells #[.string s, .slice x1 n1 c1, .slice x2 n2 c2, .slice x3 n3 c3, .slice x4 n4 c4, .slice x5 n5 c5, .int .i64 p] 28)).alloc (.cells #[.bool fr, .slice xr nr cr] 70) = w0 at hnwa hnw1 K0 ⊢
  obtain ⟨q0, HQ0⟩ : ∃ q, Hid (w.heap.size = q) := ⟨_, hide rfl⟩
  rw [uq HQ0] at hnwa hnw1 ⊢
  have HX0 : Hid (∀ w' : World, Keep w0 w' → (w'.cell? ⟨q0, 0, none⟩ = some (.string s) ∧ w'.cell? ⟨q0, 1, none⟩ = some (.slice x1 n1 c1) ∧ w'.cell? ⟨q0, 2, none⟩ = some (.slice x2 n2 c2) ∧ w'.cell? ⟨q0, 3, none⟩ = some (.slice x3 n3 c3) ∧ w'.cell? ⟨q0, 4, none⟩ = some (.slice x4 n4 c4) ∧ w'.cell? ⟨q0, 5, none⟩ = some (.slice x5 n5 c5) ∧ w'.cell? ⟨q0, 6, none⟩ = some (.int .i64 p)) ∧ w'.cell? ⟨q0 + 1, 0, none⟩ = some (.bool fr) ∧ w'.cell? ⟨q0 + 1, 1, none⟩ = some (.slice xr nr cr)) := hide (fun w' k9 => by
    have h1 := k9.block q0 (Array.getElem?_eq_some_iff.1 hnwa).1
    rw [hnwa] at h1
    have h2 := k9.block (q0 + 1) (Array.getElem?_eq_some_iff.1 hnw1).1
    rw [hnw1] at h2
    refine ⟨⟨?_, ?_, ?_, ?_, ?_, ?_, ?_⟩, ?_, ?_⟩ <;> simp [World.cell?, h1, h2])
  clear hnwa hnw1
  have hrow0 := hide (World.ownsRow_made (base := w0.heap.size) (e := 3) (size := 1) w0 ZZ nr (Nat.le_refl _) (by unfold maxLen; omega) hZhmk)
  obtain ⟨⟨z0, z1, z2, z3, z4, z5, z6⟩, g0, g1⟩ := (uq HX0) w0 (Keep.refl _)
  have lq0 : q0 + 1 < w0.heap.size := World.block_lt_of_cell? w0 _ g0
  go_wp2_with fail
  clear z0 z1 z2 z3 z4 z5 z6 g0 g1 lq0
  go_loopw [5, 16] (fun vs vi wr => ∃ k : Nat, k ≤ nr ∧ vi = .int .i64 (k : Int) ∧ Hid (wr.ownsRow w0.heap.size 3 1 vs (plc A (T.take k)).length (ics (plc A (T.take k)))) ∧ Hid (Keep w0 wr)) (fun vs vi _ => nr - (intOf vi).toNat)
  case atStart => exact ⟨0, Nat.zero_le _, rfl, hrow0, hide ((Keep.refl w0).alloc _)⟩
  case round =>
    obtain ⟨k, hk, rfl, HOW, KW⟩ := hrel
    by_cases hlt : k < nr
    · have li : (k : Int) < (nr : Int) := by omega
      have KWW := hide ((uq K0).trans (uq KW))
      obtain ⟨ad, rfl, hb, e0⟩ := (uq HC) k hlt
      have y0 := V.far_cell (uq KWW) (by rw [V.add_block9]; exact hb) e0
      clear e0
      obtain ⟨⟨z0, z1, z2, z3, z4, z5, z6⟩, g0, g1⟩ := (uq HX0) wr (uq KW)
      have TK := hide ((uq TP) (T.getD k []) wr (uq KWW))
      have HM := hide (plc_more A T k (by have := uq HNR; omega))
      have hpl : (plc A (T.take k)).length ≤ 1000 := by have := plc_len A (T.take k); have := List.length_take_le k T; omega
      generalize T.getD k [] = nm at y0 TK HM
      generalize A nm = a at TK HM
      go_wp2_with fail
      (refine (uq TK).mono ?_; rintro e w2 ⟨rfl, hk9⟩; have K2 := hide hk9; clear hk9)
      clear y0 z0 z1 z2 z3 z4 z5 z6 g0 g1
      have KW2 := hide ((uq KW).trans (uq K2))
      have HOW2 := hide (own_k (uq HOW) (uq K2))
      have hsz := Below.size (uq KW2)
      clear HOW
      by_cases ha : 0 ≤ a
      · rw [if_pos ha] at HM
        obtain ⟨L, hL⟩ : ∃ L, (plc A (T.take k)).length = L := ⟨_, rfl⟩
        rw [hL] at HOW2 hpl
        have HL := hide hL
        clear hL
        go_wp2_with (at_builtin; refine wpList_append_own _ rfl _ _ 33 rfl w0.heap.size 3 i0 _ 1 8 Try.underlying33 hi0 hz00 hz01 hz02 rfl (by decide) _ _ _ rfl ((uq HOW2).alloc _) ⟨w2.heap.size, 0, none⟩ 1 1 [.int .i64 a] rfl rfl (new_v w2 [.int .i64 a] _) (by simp [Value.oneCell']) (by unfold maxLen; omega) (by omega) (by simp; omega) ?_; intro v' w4 hown' hgrow hnil; have HOWN := hide hown'; have HG := hide hgrow; have HK4 : Hid (Keep w0 w4) := hide (Below.grown ((uq KW2).alloc _) hgrow (by simp; omega) (fun j ej => ((uq HOW2).lt j ej).1)); clear hown' hgrow hnil)
        go_roundw
        case rel => exact ⟨k + 1, hlt, by go_num, hide (by rw [uq HM, List.length_append, ics_app, uq HL]; exact uq HOWN), HK4⟩
        case measure => simp [intOf]; omega
      · rw [if_neg ha, List.append_nil] at HM
        go_wp2_with fail
        go_roundw
        case rel => exact ⟨k + 1, hlt, by go_num, hide (by rw [uq HM]; exact uq HOW2), KW2⟩
        case measure => simp [intOf]; omega
    · have li : ¬ (k : Int) < (nr : Int) := by omega
      obtain rfl : k = nr := by omega
      have HT : Hid (T.take k = T) := hide (by rw [← uq HNR]; exact List.take_length)
      go_wp2_with fail
      go_ret
      refine ⟨_, rfl, (uq K0).trans (uq KW), ?_⟩
      have h := own_mono (uq HOW) (Below.size (uq K0))
      rw [uq HT] at h
      exact h
end Cr
end Go.Proofs.Ytdgmndjofbdgeaa
