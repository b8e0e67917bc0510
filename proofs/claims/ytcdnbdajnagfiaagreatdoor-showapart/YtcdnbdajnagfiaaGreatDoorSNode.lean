/- Package show: the lines of a node. -/
import Derived.Test.YtcdnbdajnagfiaaGreatDoorSHead
import Derived.Test.YtcdnbdajnagfiaaGreatDoorLKind
import Derived.Test.YtcdnbdajnagfiaaGreatDoorSGrp
import Derived.Deep.DrawnRows
import Derived.Deep.RegionHeld
namespace Go.Proofs.YtcdnbdajnagfiaaGreatDoor
open Go.RowKit
attribute [local go_sem ↓] Go.wp_at_zero Go.wp_at_succ
set_option linter.unusedVariables false
set_option linter.unusedSimpArgs false
set_option maxRecDepth 10000
namespace S
set_option maxHeartbeats 32000000 in
theorem node_core (p : Nat) (S0 : List UInt8) (a1 : Option Addr) (n1 c1 : Nat) (a2 : Option Addr) (n2 c2 : Nat) (a3 : Option Addr) (n3 c3 : Nat) (a4 : Option Addr) (n4 c4 : Nat) (a5 : Option Addr) (n5 c5 : Nat) (ps0 : Int) (S1_0 : Nat → List UInt8) (V1_1 : Nat → Int) (V1_2 : Nat → Int) (V1_3 : Nat → Int) (V1_4 : Nat → Int) (V1_5 : Nat → Int) (V1_6 : Nat → Int) (V1_7 : Nat → Int) (V1_8 : Nat → Int) (V1_9 : Nat → Int) (V1_10 : Nat → Int) (S2_0 : Nat → List UInt8) (S2_1 : Nat → List UInt8) (V2_2 : Nat → Int) (V2_3 : Nat → Int) (V2_4 : Nat → Int) (V2_5 : Nat → Int) (S3_0 : Nat → List UInt8) (A3_1 : Nat → Option Addr) (N3_1 C3_1 : Nat → Nat) (V3_2 : Nat → Int) (A4_0 : Nat → Option Addr) (N4_0 C4_0 : Nat → Nat) (S5_0 : Nat → List UInt8) (S5_1 : Nat → List UInt8) (V5_2 : Nat → Int) (W1 W4 : Nat → List (List UInt8)) (NW : Nat → List (List UInt8)) (st : St) (w : World) (G : World → Prop) (hN : Nc p G) (h1 : n1 ≤ 1000) (h2 : n2 ≤ 1000) (h3 : n3 ≤ 1000) (h4 : n4 ≤ 1000) (h5 : n5 ≤ 1000)
    (HC1 : Hid (∀ k, k < n1 → ∃ ad, a1 = some ad ∧ ad.block < p ∧ w.cell? (ad.add (k * 11)) = some (.string (sv (S1_0 k))) ∧ w.cell? ⟨(ad.add (k * 11)).block, (ad.add (k * 11)).off + 1, none⟩ = some (.int .i64 (V1_1 k)) ∧ w.cell? ⟨(ad.add (k * 11)).block, (ad.add (k * 11)).off + 2, none⟩ = some (.int .i64 (V1_2 k)) ∧ w.cell? ⟨(ad.add (k * 11)).block, (ad.add (k * 11)).off + 3, none⟩ = some (.int .i64 (V1_3 k)) ∧ w.cell? ⟨(ad.add (k * 11)).block, (ad.add (k * 11)).off + 4, none⟩ = some (.int .i64 (V1_4 k)) ∧ w.cell? ⟨(ad.add (k * 11)).block, (ad.add (k * 11)).off + 5, none⟩ = some (.int .i64 (V1_5 k)) ∧ w.cell? ⟨(ad.add (k * 11)).block, (ad.add (k * 11)).off + 6, none⟩ = some (.int .i64 (V1_6 k)) ∧ w.cell? ⟨(ad.add (k * 11)).block, (ad.add (k * 11)).off + 7, none⟩ = some (.int .i64 (V1_7 k)) ∧ w.cell? ⟨(ad.add (k * 11)).block, (ad.add (k * 11)).off + 8, none⟩ = some (.int .i64 (V1_8 k)) ∧ w.cell? ⟨(ad.add (k * 11)).block, (ad.add (k * 11)).off + 9, none⟩ = some (.int .i64 (V1_9 k)) ∧ w.cell? ⟨(ad.add (k * 11)).block, (ad.add (k * 11)).off + 10, none⟩ = some (.int .i64 (V1_10 k))))
    (HC2 : Hid (∀ k, k < n2 → ∃ ad, a2 = some ad ∧ ad.block < p ∧ w.cell? (ad.add (k * 6)) = some (.string (sv (S2_0 k))) ∧ w.cell? ⟨(ad.add (k * 6)).block, (ad.add (k * 6)).off + 1, none⟩ = some (.string (sv (S2_1 k))) ∧ w.cell? ⟨(ad.add (k * 6)).block, (ad.add (k * 6)).off + 2, none⟩ = some (.int .i64 (V2_2 k)) ∧ w.cell? ⟨(ad.add (k * 6)).block, (ad.add (k * 6)).off + 3, none⟩ = some (.int .i64 (V2_3 k)) ∧ w.cell? ⟨(ad.add (k * 6)).block, (ad.add (k * 6)).off + 4, none⟩ = some (.int .i64 (V2_4 k)) ∧ w.cell? ⟨(ad.add (k * 6)).block, (ad.add (k * 6)).off + 5, none⟩ = some (.int .i64 (V2_5 k))))
    (HC3 : Hid (∀ k, k < n3 → ∃ ad, a3 = some ad ∧ ad.block < p ∧ w.cell? (ad.add (k * 3)) = some (.string (sv (S3_0 k))) ∧ w.cell? ⟨(ad.add (k * 3)).block, (ad.add (k * 3)).off + 1, none⟩ = some (.slice (A3_1 k) (N3_1 k) (C3_1 k)) ∧ w.cell? ⟨(ad.add (k * 3)).block, (ad.add (k * 3)).off + 2, none⟩ = some (.int .i64 (V3_2 k))))
    (HC4 : Hid (∀ k, k < n4 → ∃ ad, a4 = some ad ∧ ad.block < p ∧ w.cell? (ad.add k) = some (.slice (A4_0 k) (N4_0 k) (C4_0 k))))
    (HC5 : Hid (∀ k, k < n5 → ∃ ad, a5 = some ad ∧ ad.block < p ∧ w.cell? (ad.add (k * 3)) = some (.string (sv (S5_0 k))) ∧ w.cell? ⟨(ad.add (k * 3)).block, (ad.add (k * 3)).off + 1, none⟩ = some (.string (sv (S5_1 k))) ∧ w.cell? ⟨(ad.add (k * 3)).block, (ad.add (k * 3)).off + 2, none⟩ = some (.int .i64 (V5_2 k))))
    (T1 : Hid (∀ k, k < n1 → ∀ w' s, G w' → Ps w' p s → oks s (W1 k) → s.out.length + cost (W1 k) ≤ 1000000000 → Calls Tryz.prog 82 #[.pointer (some ⟨p, 0, none⟩), .agg #[.string (sv (S1_0 k)), .int .i64 (V1_1 k), .int .i64 (V1_2 k), .int .i64 (V1_3 k), .int .i64 (V1_4 k), .int .i64 (V1_5 k), .int .i64 (V1_6 k), .int .i64 (V1_7 k), .int .i64 (V1_8 k), .int .i64 (V1_9 k), .int .i64 (V1_10 k)]] w' fun e w'' => e = .returned (.tuple #[]) ∧ Ps w'' p (pss s (W1 k)) ∧ Fb p w' w''))
    (T4 : Hid (∀ k, k < n4 → ∀ w' s, Fb p w w' → Ps w' p s → oks s (W4 k) → s.out.length + cost (W4 k) ≤ 1000000000 → Calls Tryz.prog 84 #[.pointer (some ⟨p, 0, none⟩), .agg #[.slice (A4_0 k) (N4_0 k) (C4_0 k)]] w' fun e w'' => e = .returned (.tuple #[]) ∧ Ps w'' p (pss s (W4 k)) ∧ Fb p w' w''))
    (T3 : Hid (∀ k, k < n3 → LsT p w (A3_1 k) (N3_1 k) (C3_1 k) (NW k)))
    (RR : Hid (∀ k, k < n2 → (-999999999999999999 ≤ V2_2 k ∧ V2_2 k ≤ 999999999999999999) ∧ (-999999999999999999 ≤ V2_3 k ∧ V2_3 k ≤ 999999999999999999) ∧ (-999999999999999999 ≤ V2_4 k ∧ V2_4 k ≤ 999999999999999999)))
    (HP : Hid (Ps w p st)) (HG : Hid (G w)) (HO : Hid (oks st ([[110, 111, 100, 101], S0, [123]] ++ ((List.range n1).flatMap W1 ++ ((List.range n2).flatMap (fun k => [[119, 97, 108, 107], S2_0 k, [119, 105, 116, 104], S2_1 k, [108, 111, 110, 103], dg (V2_2 k), [112, 97, 99, 101], dg (V2_3 k), [108, 101, 97, 115, 116], dg (V2_4 k), [59]]) ++ ((List.range n3).flatMap (fun k => [[112, 104, 97, 115, 101], S3_0 k, [58]] ++ lw (NW k)) ++ ((List.range n4).flatMap W4 ++ ((List.range n5).flatMap (fun k => [[102, 111, 101], S5_0 k, S5_1 k, [59]]) ++ [[125]])))))))) (HL : Hid (st.out.length + cost ([[110, 111, 100, 101], S0, [123]] ++ ((List.range n1).flatMap W1 ++ ((List.range n2).flatMap (fun k => [[119, 97, 108, 107], S2_0 k, [119, 105, 116, 104], S2_1 k, [108, 111, 110, 103], dg (V2_2 k), [112, 97, 99, 101], dg (V2_3 k), [108, 101, 97, 115, 116], dg (V2_4 k), [59]]) ++ ((List.range n3).flatMap (fun k => [[112, 104, 97, 115, 101], S3_0 k, [58]] ++ lw (NW k)) ++ ((List.range n4).flatMap W4 ++ ((List.range n5).flatMap (fun k => [[102, 111, 101], S5_0 k, S5_1 k, [59]]) ++ [[125]])))))) ≤ 1000000000)) :
    Calls Tryz.prog 43 #[.pointer (some ⟨p, 0, none⟩), .agg #[.string (sv S0), .slice a1 n1 c1, .slice a2 n2 c2, .slice a3 n3 c3, .slice a4 n4 c4, .slice a5 n5 c5, .int .i64 ps0]] w fun e w' => e = .returned (.tuple #[]) ∧ Ps w' p (pss st ([[110, 111, 100, 101], S0, [123]] ++ ((List.range n1).flatMap W1 ++ ((List.range n2).flatMap (fun k => [[119, 97, 108, 107], S2_0 k, [119, 105, 116, 104], S2_1 k, [108, 111, 110, 103], dg (V2_2 k), [112, 97, 99, 101], dg (V2_3 k), [108, 101, 97, 115, 116], dg (V2_4 k), [59]]) ++ ((List.range n3).flatMap (fun k => [[112, 104, 97, 115, 101], S3_0 k, [58]] ++ lw (NW k)) ++ ((List.range n4).flatMap W4 ++ ((List.range n5).flatMap (fun k => [[102, 111, 101], S5_0 k, S5_1 k, [59]]) ++ [[125]]))))))) ∧ Fb p w w' := by
  obtain ⟨fin, HFin⟩ : ∃ fin, Hid (pss st ([[110, 111, 100, 101], S0, [123]] ++ ((List.range n1).flatMap W1 ++ ((List.range n2).flatMap (fun k => [[119, 97, 108, 107], S2_0 k, [119, 105, 116, 104], S2_1 k, [108, 111, 110, 103], dg (V2_2 k), [112, 97, 99, 101], dg (V2_3 k), [108, 101, 97, 115, 116], dg (V2_4 k), [59]]) ++ ((List.range n3).flatMap (fun k => [[112, 104, 97, 115, 101], S3_0 k, [58]] ++ lw (NW k)) ++ ((List.range n4).flatMap W4 ++ ((List.range n5).flatMap (fun k => [[102, 111, 101], S5_0 k, S5_1 k, [59]]) ++ [[125]])))))) = fin) := ⟨_, hide rfl⟩
  rw [uq HFin]
  obtain ⟨t5, HT5⟩ : ∃ t, Hid (([[125]] : List (List UInt8)) = t) := ⟨_, hide rfl⟩
  rw [uq HT5] at HO HL HFin
  obtain ⟨t4, HT4⟩ : ∃ t, Hid ((List.range n5).flatMap (fun k => [[102, 111, 101], S5_0 k, S5_1 k, [59]]) ++ t5 = t) := ⟨_, hide rfl⟩
  rw [uq HT4] at HO HL HFin
  obtain ⟨t3, HT3⟩ : ∃ t, Hid ((List.range n4).flatMap W4 ++ t4 = t) := ⟨_, hide rfl⟩
  rw [uq HT3] at HO HL HFin
  obtain ⟨t2, HT2⟩ : ∃ t, Hid ((List.range n3).flatMap (fun k => [[112, 104, 97, 115, 101], S3_0 k, [58]] ++ lw (NW k)) ++ t3 = t) := ⟨_, hide rfl⟩
  rw [uq HT2] at HO HL HFin
  obtain ⟨t1, HT1⟩ : ∃ t, Hid ((List.range n2).flatMap (fun k => [[119, 97, 108, 107], S2_0 k, [119, 105, 116, 104], S2_1 k, [108, 111, 110, 103], dg (V2_2 k), [112, 97, 99, 101], dg (V2_3 k), [108, 101, 97, 115, 116], dg (V2_4 k), [59]]) ++ t2 = t) := ⟨_, hide rfl⟩
  rw [uq HT1] at HO HL HFin
  obtain ⟨t0, HT0⟩ : ∃ t, Hid ((List.range n1).flatMap W1 ++ t1 = t) := ⟨_, hide rfl⟩
  rw [uq HT0] at HO HL HFin
  rw [oks_append] at HO
  rw [cost_append] at HL
  rw [← pss_append] at HFin
  have HPL := hide (Pr.lt (uq HP))
  obtain ⟨S, HS0⟩ : ∃ S, Hid (sv S0 = S) := ⟨_, rfl⟩
  rw [uq HS0]
  have HF0 : Hid (Fb p w (w.alloc (.cells #[.string (S), .slice a1 n1 c1, .slice a2 n2 c2, .slice a3 n3 c3, .slice a4 n4 c4, .slice a5 n5 c5, .int .i64 ps0] 46))) := hide (Fb.keep ((Keep.refl w).alloc _))
  have HP0 := hide ((uq HP).keep ((Keep.refl w).alloc (.cells #[.string (S), .slice a1 n1 c1, .slice a2 n2 c2, .slice a3 n3 c3, .slice a4 n4 c4, .slice a5 n5 c5, .int .i64 ps0] 46)))
  have HG0 := hide (hN.keep _ _ (uq HG) ((Keep.refl w).alloc (.cells #[.string (S), .slice a1 n1 c1, .slice a2 n2 c2, .slice a3 n3 c3, .slice a4 n4 c4, .slice a5 n5 c5, .int .i64 ps0] 46)))
  have HB0 := hide (heap_alloc_new w (.cells #[.string (S), .slice a1 n1 c1, .slice a2 n2 c2, .slice a3 n3 c3, .slice a4 n4 c4, .slice a5 n5 c5, .int .i64 ps0] 46))
  go_enter Tryz.func43, Tryz.ntmps43
  go_upto_region 1 with fail
  generalize w.alloc (.cells #[.string (S), .slice a1 n1 c1, .slice a2 n2 c2, .slice a3 n3 c3, .slice a4 n4 c4, .slice a5 n5 c5, .int .i64 ps0] 46) = w0 at HF0 HP0 HG0 HB0 ⊢
  obtain ⟨gb, HGb⟩ : ∃ gb, Hid (w.heap.size = gb) := ⟨_, rfl⟩
  rw [uq HGb] at HB0 ⊢
  have HGP : Hid (gb ≠ p) := hide (by have := uq HPL; have := uq HGb; omega)
  have cg : w0.cell? ⟨gb, 0, none⟩ = some (.string S) := by simp [World.cell?, uq HB0]
  go_wp2_with fail
  (have T9 := put_new (W := w0) [[110, 111, 100, 101], S0, [123]] rfl (uq HP0) (by simp) (uq HO).1 (by have := uq HL; omega); simp only [wc, List.map_cons, List.map_nil] at T9; rw [uq HS0] at T9; refine T9.mono ?_; clear T9; rintro e w1 ⟨rfl, hp, hf⟩; have HP1 := hide hp; have HF1 := hide ((uq HF0).trans hf); have HG1 := hide (hN.fb _ _ (uq HG0) hf); have HB1 := hide (hf.words (uq HB0) (by decide) (uq HGP)); clear hp hf)
  clear cg
  have HO1 := hide (uq HO).2
  have HE1 := HFin
  have HL1 : Hid ((pss st [[110, 111, 100, 101], S0, [123]]).out.length + cost t0 ≤ 1000000000) := hide (by have := pss_len _ _ (uq HO).1; have := uq HL; omega)
  obtain ⟨s1, HS1⟩ : ∃ s1, Hid (pss st [[110, 111, 100, 101], S0, [123]] = s1) := ⟨_, rfl⟩
  rw [uq HS1] at HO1 HE1 HL1 HP1
  clear HO HL HFin HS1
  have cg : w1.cell? ⟨gb, 1, none⟩ = some (.slice a1 n1 c1) := by simp [World.cell?, uq HB1]
  go_wp2_with fail
  clear cg
  rw [← uq HT0] at HO1 HE1 HL1
  go_loopw [22] (fun vi wr => ∃ (k : Nat) (s : St), k ≤ n1 ∧ vi = .int .i64 (k : Int) ∧ Hid (Ps wr p s) ∧ Hid (G wr) ∧ Hid (oks s (((List.range n1).drop k).flatMap W1 ++ t1)) ∧ Hid (pss s (((List.range n1).drop k).flatMap W1 ++ t1) = fin) ∧ Hid (s.out.length + cost (((List.range n1).drop k).flatMap W1 ++ t1) ≤ 1000000000) ∧ Hid (Fb p w wr) ∧ Hid (wr.heap[gb]? = some (.cells #[.string (S), .slice a1 n1 c1, .slice a2 n2 c2, .slice a3 n3 c3, .slice a4 n4 c4, .slice a5 n5 c5, .int .i64 ps0] 46 (0, 0)))) (fun vi wr => n1 - (intOf vi).toNat)
  case atStart => exact ⟨0, s1, Nat.zero_le _, rfl, HP1, HG1, hide (by rw [List.drop_zero]; exact uq HO1), hide (by rw [List.drop_zero]; exact uq HE1), hide (by rw [List.drop_zero]; exact uq HL1), HF1, HB1⟩
  case round =>
    obtain ⟨k, s, hk, rfl, HPk, HGk, HOk, HEk, HLk, HFk, HBk⟩ := hrel
    by_cases hlt : k < n1
    · have li : (k : Int) < (n1 : Int) := by omega
      rw [drop_range n1 k hlt, List.append_assoc] at HOk HEk HLk
      obtain ⟨rst, HRst⟩ : ∃ rst, Hid (((List.range n1).drop (k + 1)).flatMap W1 ++ t1 = rst) := ⟨_, hide rfl⟩
      rw [uq HRst] at HOk HEk HLk
      rw [oks_append] at HOk
      rw [cost_append] at HLk
      rw [← pss_append] at HEk
      have HLA := hide (pss_len _ _ (uq HOk).1)
      obtain ⟨ad, ea, hadp, e0, e1, e2, e3, e4, e5, e6, e7, e8, e9, e10⟩ := (uq HC1) k hlt
      subst ea
      have x0 := cell_low (uq HFk) e0 (by rw [add_block]; exact hadp)
      have x1 := cell_low (uq HFk) e1 (by show (ad.add (k * 11)).block < p; rw [add_block]; exact hadp)
      have x2 := cell_low (uq HFk) e2 (by show (ad.add (k * 11)).block < p; rw [add_block]; exact hadp)
      have x3 := cell_low (uq HFk) e3 (by show (ad.add (k * 11)).block < p; rw [add_block]; exact hadp)
      have x4 := cell_low (uq HFk) e4 (by show (ad.add (k * 11)).block < p; rw [add_block]; exact hadp)
      have x5 := cell_low (uq HFk) e5 (by show (ad.add (k * 11)).block < p; rw [add_block]; exact hadp)
      have x6 := cell_low (uq HFk) e6 (by show (ad.add (k * 11)).block < p; rw [add_block]; exact hadp)
      have x7 := cell_low (uq HFk) e7 (by show (ad.add (k * 11)).block < p; rw [add_block]; exact hadp)
      have x8 := cell_low (uq HFk) e8 (by show (ad.add (k * 11)).block < p; rw [add_block]; exact hadp)
      have x9 := cell_low (uq HFk) e9 (by show (ad.add (k * 11)).block < p; rw [add_block]; exact hadp)
      have x10 := cell_low (uq HFk) e10 (by show (ad.add (k * 11)).block < p; rw [add_block]; exact hadp)
      clear e0 e1 e2 e3 e4 e5 e6 e7 e8 e9 e10 hadp
      have HTk := hide ((uq T1) k hlt)
      obtain ⟨Y0, HY0⟩ : ∃ Y, Hid (sv (S1_0 k) = Y) := ⟨_, rfl⟩
      rw [uq HY0] at x0 HTk
      have HPa := hide ((uq HPk).keep ((Keep.refl wr).alloc (.cells #[.string Y0, .int .i64 (V1_1 k), .int .i64 (V1_2 k), .int .i64 (V1_3 k), .int .i64 (V1_4 k), .int .i64 (V1_5 k), .int .i64 (V1_6 k), .int .i64 (V1_7 k), .int .i64 (V1_8 k), .int .i64 (V1_9 k), .int .i64 (V1_10 k)] 84)))
      have HGa := hide (hN.keep _ _ (uq HGk) ((Keep.refl wr).alloc (.cells #[.string Y0, .int .i64 (V1_1 k), .int .i64 (V1_2 k), .int .i64 (V1_3 k), .int .i64 (V1_4 k), .int .i64 (V1_5 k), .int .i64 (V1_6 k), .int .i64 (V1_7 k), .int .i64 (V1_8 k), .int .i64 (V1_9 k), .int .i64 (V1_10 k)] 84)))
      have HFa : Hid (Fb p w (wr.alloc (.cells #[.string Y0, .int .i64 (V1_1 k), .int .i64 (V1_2 k), .int .i64 (V1_3 k), .int .i64 (V1_4 k), .int .i64 (V1_5 k), .int .i64 (V1_6 k), .int .i64 (V1_7 k), .int .i64 (V1_8 k), .int .i64 (V1_9 k), .int .i64 (V1_10 k)] 84))) := hide ((uq HFk).trans (Fb.keep ((Keep.refl wr).alloc _)))
      have HBa : Hid ((wr.alloc (.cells #[.string Y0, .int .i64 (V1_1 k), .int .i64 (V1_2 k), .int .i64 (V1_3 k), .int .i64 (V1_4 k), .int .i64 (V1_5 k), .int .i64 (V1_6 k), .int .i64 (V1_7 k), .int .i64 (V1_8 k), .int .i64 (V1_9 k), .int .i64 (V1_10 k)] 84)).heap[gb]? = some (.cells #[.string (S), .slice (some ad) n1 c1, .slice a2 n2 c2, .slice a3 n3 c3, .slice a4 n4 c4, .slice a5 n5 c5, .int .i64 ps0] 46 (0, 0))) := hide (by rw [heap_alloc_old _ _ (Array.getElem?_eq_some_iff.1 (uq HBk)).1]; exact uq HBk)
      have HXa := hide (heap_alloc_new wr (.cells #[.string Y0, .int .i64 (V1_1 k), .int .i64 (V1_2 k), .int .i64 (V1_3 k), .int .i64 (V1_4 k), .int .i64 (V1_5 k), .int .i64 (V1_6 k), .int .i64 (V1_7 k), .int .i64 (V1_8 k), .int .i64 (V1_9 k), .int .i64 (V1_10 k)] 84))
      have HNp : Hid (wr.heap.size ≠ p) := hide (by have := Pr.lt (uq HPk); omega)
      go_upto_region 5 with fail
      generalize wr.alloc (.cells #[.string Y0, .int .i64 (V1_1 k), .int .i64 (V1_2 k), .int .i64 (V1_3 k), .int .i64 (V1_4 k), .int .i64 (V1_5 k), .int .i64 (V1_6 k), .int .i64 (V1_7 k), .int .i64 (V1_8 k), .int .i64 (V1_9 k), .int .i64 (V1_10 k)] 84) = wa at HPa HGa HFa HBa HXa ⊢
      generalize wr.heap.size = qb at HXa HNp ⊢
      clear x0 x1 x2 x3 x4 x5 x6 x7 x8 x9 x10
      have y0 : wa.cell? ⟨qb, 0, none⟩ = some (.string Y0) := by simp [World.cell?, uq HXa]
      have y1 : wa.cell? ⟨qb, 1, none⟩ = some (.int .i64 (V1_1 k)) := by simp [World.cell?, uq HXa]
      have y2 : wa.cell? ⟨qb, 2, none⟩ = some (.int .i64 (V1_2 k)) := by simp [World.cell?, uq HXa]
      have y3 : wa.cell? ⟨qb, 3, none⟩ = some (.int .i64 (V1_3 k)) := by simp [World.cell?, uq HXa]
      have y4 : wa.cell? ⟨qb, 4, none⟩ = some (.int .i64 (V1_4 k)) := by simp [World.cell?, uq HXa]
      have y5 : wa.cell? ⟨qb, 5, none⟩ = some (.int .i64 (V1_5 k)) := by simp [World.cell?, uq HXa]
      have y6 : wa.cell? ⟨qb, 6, none⟩ = some (.int .i64 (V1_6 k)) := by simp [World.cell?, uq HXa]
      have y7 : wa.cell? ⟨qb, 7, none⟩ = some (.int .i64 (V1_7 k)) := by simp [World.cell?, uq HXa]
      have y8 : wa.cell? ⟨qb, 8, none⟩ = some (.int .i64 (V1_8 k)) := by simp [World.cell?, uq HXa]
      have y9 : wa.cell? ⟨qb, 9, none⟩ = some (.int .i64 (V1_9 k)) := by simp [World.cell?, uq HXa]
      have y10 : wa.cell? ⟨qb, 10, none⟩ = some (.int .i64 (V1_10 k)) := by simp [World.cell?, uq HXa]
      go_wp2_with fail
      (refine ((uq HTk) wa s (uq HGa) (uq HPa) (uq HOk).1 (by have := uq HLk; omega)).mono ?_; rintro e wz ⟨rfl, hp, hf⟩; have HPz := hide hp; have HFz := hide ((uq HFa).trans hf); have HGz := hide (hN.fb _ _ (uq HGa) hf); have HBz := hide (hf.words (uq HBa) (by decide) (uq HGP)); clear hp hf)
      clear y0 y1 y2 y3 y4 y5 y6 y7 y8 y9 y10
      go_wp2_with fail
      go_roundw
      case rel =>
        refine ⟨k + 1, _, hlt, by go_num, HPz, HGz, hide ?_, hide ?_, hide ?_, HFz, HBz⟩
        · rw [uq HRst]; exact (uq HOk).2
        · rw [uq HRst]; exact uq HEk
        · rw [uq HRst]
          have := uq HLk
          have := uq HLA
          omega
      case measure => simp [intOf]; omega
    · rw [drop_end n1 k hlt, List.nil_append] at HOk HEk HLk
      have HP2 := HPk
      have HG2 := HGk
      have HO2 := HOk
      have HE2 := HEk
      have HL2 := HLk
      have HF2 := HFk
      have HB2 := HBk
      obtain ⟨s2, hs9⟩ : ∃ s9, s9 = s := ⟨_, rfl⟩
      rw [← hs9] at HP2 HO2 HE2 HL2
      obtain ⟨w2, hw9⟩ : ∃ w9, w9 = wr := ⟨_, rfl⟩
      rw [← hw9] at HP2 HG2 HF2 HB2
      rw [← hw9]
      clear HPk HGk HOk HEk HLk HFk HBk hs9 hw9
      have cg : w2.cell? ⟨gb, 2, none⟩ = some (.slice a2 n2 c2) := by simp [World.cell?, uq HB2]
      go_wp2_with fail
      clear cg
      rw [← uq HT1] at HO2 HE2 HL2
      go_loopw [33] (fun vi wr => ∃ (k : Nat) (s : St), k ≤ n2 ∧ vi = .int .i64 (k : Int) ∧ Hid (Ps wr p s) ∧ Hid (G wr) ∧ Hid (oks s (((List.range n2).drop k).flatMap (fun k => [[119, 97, 108, 107], S2_0 k, [119, 105, 116, 104], S2_1 k, [108, 111, 110, 103], dg (V2_2 k), [112, 97, 99, 101], dg (V2_3 k), [108, 101, 97, 115, 116], dg (V2_4 k), [59]]) ++ t2)) ∧ Hid (pss s (((List.range n2).drop k).flatMap (fun k => [[119, 97, 108, 107], S2_0 k, [119, 105, 116, 104], S2_1 k, [108, 111, 110, 103], dg (V2_2 k), [112, 97, 99, 101], dg (V2_3 k), [108, 101, 97, 115, 116], dg (V2_4 k), [59]]) ++ t2) = fin) ∧ Hid (s.out.length + cost (((List.range n2).drop k).flatMap (fun k => [[119, 97, 108, 107], S2_0 k, [119, 105, 116, 104], S2_1 k, [108, 111, 110, 103], dg (V2_2 k), [112, 97, 99, 101], dg (V2_3 k), [108, 101, 97, 115, 116], dg (V2_4 k), [59]]) ++ t2) ≤ 1000000000) ∧ Hid (Fb p w wr) ∧ Hid (wr.heap[gb]? = some (.cells #[.string (S), .slice a1 n1 c1, .slice a2 n2 c2, .slice a3 n3 c3, .slice a4 n4 c4, .slice a5 n5 c5, .int .i64 ps0] 46 (0, 0)))) (fun vi wr => n2 - (intOf vi).toNat)
      case atStart => exact ⟨0, s2, Nat.zero_le _, rfl, HP2, HG2, hide (by rw [List.drop_zero]; exact uq HO2), hide (by rw [List.drop_zero]; exact uq HE2), hide (by rw [List.drop_zero]; exact uq HL2), HF2, HB2⟩
      case round =>
        obtain ⟨k, s, hk, rfl, HPk, HGk, HOk, HEk, HLk, HFk, HBk⟩ := hrel
        by_cases hlt : k < n2
        · have li : (k : Int) < (n2 : Int) := by omega
          rw [drop_range n2 k hlt, List.append_assoc] at HOk HEk HLk
          obtain ⟨rst, HRst⟩ : ∃ rst, Hid (((List.range n2).drop (k + 1)).flatMap (fun k => [[119, 97, 108, 107], S2_0 k, [119, 105, 116, 104], S2_1 k, [108, 111, 110, 103], dg (V2_2 k), [112, 97, 99, 101], dg (V2_3 k), [108, 101, 97, 115, 116], dg (V2_4 k), [59]]) ++ t2 = rst) := ⟨_, hide rfl⟩
          rw [uq HRst] at HOk HEk HLk
          rw [oks_append] at HOk
          rw [cost_append] at HLk
          rw [← pss_append] at HEk
          have HLA := hide (pss_len _ _ (uq HOk).1)
          obtain ⟨ad, ea, hadp, e0, e1, e2, e3, e4, e5⟩ := (uq HC2) k hlt
          subst ea
          have x0 := cell_low (uq HFk) e0 (by rw [add_block]; exact hadp)
          have x1 := cell_low (uq HFk) e1 (by show (ad.add (k * 6)).block < p; rw [add_block]; exact hadp)
          have x2 := cell_low (uq HFk) e2 (by show (ad.add (k * 6)).block < p; rw [add_block]; exact hadp)
          have x3 := cell_low (uq HFk) e3 (by show (ad.add (k * 6)).block < p; rw [add_block]; exact hadp)
          have x4 := cell_low (uq HFk) e4 (by show (ad.add (k * 6)).block < p; rw [add_block]; exact hadp)
          have x5 := cell_low (uq HFk) e5 (by show (ad.add (k * 6)).block < p; rw [add_block]; exact hadp)
          clear e0 e1 e2 e3 e4 e5 hadp
          have R2 := hide ((uq RR) k hlt).1
          have R3 := hide ((uq RR) k hlt).2.1
          have R4 := hide ((uq RR) k hlt).2.2
          obtain ⟨Y0, HY0⟩ : ∃ Y, Hid (sv (S2_0 k) = Y) := ⟨_, rfl⟩
          rw [uq HY0] at x0
          obtain ⟨Y1, HY1⟩ : ∃ Y, Hid (sv (S2_1 k) = Y) := ⟨_, rfl⟩
          rw [uq HY1] at x1
          have HPa := hide ((uq HPk).keep ((Keep.refl wr).alloc (.cells #[.string Y0, .string Y1, .int .i64 (V2_2 k), .int .i64 (V2_3 k), .int .i64 (V2_4 k), .int .i64 (V2_5 k)] 86)))
          have HGa := hide (hN.keep _ _ (uq HGk) ((Keep.refl wr).alloc (.cells #[.string Y0, .string Y1, .int .i64 (V2_2 k), .int .i64 (V2_3 k), .int .i64 (V2_4 k), .int .i64 (V2_5 k)] 86)))
          have HFa : Hid (Fb p w (wr.alloc (.cells #[.string Y0, .string Y1, .int .i64 (V2_2 k), .int .i64 (V2_3 k), .int .i64 (V2_4 k), .int .i64 (V2_5 k)] 86))) := hide ((uq HFk).trans (Fb.keep ((Keep.refl wr).alloc _)))
          have HBa : Hid ((wr.alloc (.cells #[.string Y0, .string Y1, .int .i64 (V2_2 k), .int .i64 (V2_3 k), .int .i64 (V2_4 k), .int .i64 (V2_5 k)] 86)).heap[gb]? = some (.cells #[.string (S), .slice a1 n1 c1, .slice (some ad) n2 c2, .slice a3 n3 c3, .slice a4 n4 c4, .slice a5 n5 c5, .int .i64 ps0] 46 (0, 0))) := hide (by rw [heap_alloc_old _ _ (Array.getElem?_eq_some_iff.1 (uq HBk)).1]; exact uq HBk)
          have HXa := hide (heap_alloc_new wr (.cells #[.string Y0, .string Y1, .int .i64 (V2_2 k), .int .i64 (V2_3 k), .int .i64 (V2_4 k), .int .i64 (V2_5 k)] 86))
          have HNp : Hid (wr.heap.size ≠ p) := hide (by have := Pr.lt (uq HPk); omega)
          go_upto_region 10 with fail
          generalize wr.alloc (.cells #[.string Y0, .string Y1, .int .i64 (V2_2 k), .int .i64 (V2_3 k), .int .i64 (V2_4 k), .int .i64 (V2_5 k)] 86) = wa at HPa HGa HFa HBa HXa ⊢
          generalize wr.heap.size = qb at HXa HNp ⊢
          clear x0 x1 x2 x3 x4 x5
          have y0 : wa.cell? ⟨qb, 0, none⟩ = some (.string Y0) := by simp [World.cell?, uq HXa]
          have y1 : wa.cell? ⟨qb, 1, none⟩ = some (.string Y1) := by simp [World.cell?, uq HXa]
          have y2 : wa.cell? ⟨qb, 2, none⟩ = some (.int .i64 (V2_2 k)) := by simp [World.cell?, uq HXa]
          have y3 : wa.cell? ⟨qb, 3, none⟩ = some (.int .i64 (V2_3 k)) := by simp [World.cell?, uq HXa]
          have y4 : wa.cell? ⟨qb, 4, none⟩ = some (.int .i64 (V2_4 k)) := by simp [World.cell?, uq HXa]
          have y5 : wa.cell? ⟨qb, 5, none⟩ = some (.int .i64 (V2_5 k)) := by simp [World.cell?, uq HXa]
          clear y0 y1 y2 y3 y4 y5
          have HBX : Hid (∀ w' : World, w'.heap[qb]? = some (.cells #[.string Y0, .string Y1, .int .i64 (V2_2 k), .int .i64 (V2_3 k), .int .i64 (V2_4 k), .int .i64 (V2_5 k)] 86 (0, 0)) → w'.cell? ⟨qb, 0, none⟩ = some (.string Y0) ∧ w'.cell? ⟨qb, 1, none⟩ = some (.string Y1) ∧ w'.cell? ⟨qb, 2, none⟩ = some (.int .i64 (V2_2 k)) ∧ w'.cell? ⟨qb, 3, none⟩ = some (.int .i64 (V2_3 k)) ∧ w'.cell? ⟨qb, 4, none⟩ = some (.int .i64 (V2_4 k)) ∧ w'.cell? ⟨qb, 5, none⟩ = some (.int .i64 (V2_5 k))) := hide (fun w' h => ⟨by simp [World.cell?, h], by simp [World.cell?, h], by simp [World.cell?, h], by simp [World.cell?, h], by simp [World.cell?, h], by simp [World.cell?, h]⟩)
          refine wp_region_held_drew (S := fun w' => w'.cell? ⟨qb, 0, none⟩ = some (.string Y0) ∧ w'.cell? ⟨qb, 1, none⟩ = some (.string Y1) ∧ w'.cell? ⟨qb, 2, none⟩ = some (.int .i64 (V2_2 k)) ∧ w'.cell? ⟨qb, 3, none⟩ = some (.int .i64 (V2_3 k)) ∧ w'.cell? ⟨qb, 4, none⟩ = some (.int .i64 (V2_4 k)) ∧ w'.cell? ⟨qb, 5, none⟩ = some (.int .i64 (V2_5 k))) (by kernel_rfl) (by exact (uq HBX) _ (uq HXa)) (fun hHeld => ?_)
          refine tkk 0 37 hHeld ?_; try simp only [Act.put, Ya, Yb, Yc]
          refine tkk 1 38 hHeld ?_; try simp only [Act.put, Ya, Yb, Yc]
          refine tkk 2 39 hHeld ?_; try simp only [Act.put, Ya, Yb, Yc]
          refine tkk 3 40 hHeld ?_; try simp only [Act.put, Ya, Yb, Yc]
          refine tkk 4 41 hHeld ?_; try simp only [Act.put, Ya, Yb, Yc]
          refine tkk 5 42 hHeld ?_; try simp only [Act.put, Ya, Yb, Yc]
          refine tkk 6 43 hHeld ?_; try simp only [Act.put, Ya, Yb, Yc]
          refine tkk 8 45 hHeld ?_; try simp only [Act.put, Ya, Yb, Yc]
          refine tkk 9 46 hHeld ?_; try simp only [Act.put, Ya, Yb, Yc]
          refine tkk 11 48 hHeld ?_; try simp only [Act.put, Ya, Yb, Yc]
          refine tkk 12 49 hHeld ?_; try simp only [Act.put, Ya, Yb, Yc]
          have HP_0 := hide ((uq HPa).keep (Keep.refl wa).drew)
          have HF_0 := hide ((uq HFa).trans (Fb.keep (Keep.refl wa).drew))
          have HG_0 := hide (hN.keep _ _ (uq HGa) (Keep.refl wa).drew)
          have HX_0 : Hid (wa.drew.heap[qb]? = some (.cells #[.string Y0, .string Y1, .int .i64 (V2_2 k), .int .i64 (V2_3 k), .int .i64 (V2_4 k), .int .i64 (V2_5 k)] 86 (0, 0))) := HXa
          have HB_0 : Hid (wa.drew.heap[gb]? = some (.cells #[.string (S), .slice a1 n1 c1, .slice (some ad) n2 c2, .slice a3 n3 c3, .slice a4 n4 c4, .slice a5 n5 c5, .int .i64 ps0] 46 (0, 0))) := HBa
          generalize wa.drew = u0 at HP_0 HF_0 HG_0 HX_0 HB_0 ⊢
          refine rdyy 7 (fun K hK => ?_)
          go_simp
          clear hHeld
          (refine (hN.num (V2_2 k) _ (uq R2).1 (uq R2).2 (uq HG_0)).mono ?_; rintro e u1 ⟨rfl, hk9⟩; have HP_1 := hide ((uq HP_0).keep hk9); have HF_1 := hide ((uq HF_0).trans (Fb.keep hk9)); have HG_1 := hide (hN.keep _ _ (uq HG_0) hk9); have HX_1 : Hid (u1.heap[qb]? = some (.cells #[.string Y0, .string Y1, .int .i64 (V2_2 k), .int .i64 (V2_3 k), .int .i64 (V2_4 k), .int .i64 (V2_5 k)] 86 (0, 0))) := hide (by rw [hk9.block _ (Array.getElem?_eq_some_iff.1 (uq HX_0)).1]; exact uq HX_0); have HB_1 : Hid (u1.heap[gb]? = some (.cells #[.string (S), .slice a1 n1 c1, .slice (some ad) n2 c2, .slice a3 n3 c3, .slice a4 n4 c4, .slice a5 n5 c5, .int .i64 ps0] 46 (0, 0))) := hide (by rw [hk9.block _ (Array.getElem?_eq_some_iff.1 (uq HB_0)).1]; exact uq HB_0); clear hk9)
          try go_wp2_with fail
          refine hK.out _ _ ?_ (fun hHeld => ?_)
          · exact (uq HBX) _ (uq HX_1)
          clear hK K
          try simp only [Act.put, Ya, Yb, Yc]
          refine rdyy 10 (fun K hK => ?_)
          go_simp
          clear hHeld
          (refine (hN.num (V2_3 k) _ (uq R3).1 (uq R3).2 (uq HG_1)).mono ?_; rintro e u2 ⟨rfl, hk9⟩; have HP_2 := hide ((uq HP_1).keep hk9); have HF_2 := hide ((uq HF_1).trans (Fb.keep hk9)); have HG_2 := hide (hN.keep _ _ (uq HG_1) hk9); have HX_2 : Hid (u2.heap[qb]? = some (.cells #[.string Y0, .string Y1, .int .i64 (V2_2 k), .int .i64 (V2_3 k), .int .i64 (V2_4 k), .int .i64 (V2_5 k)] 86 (0, 0))) := hide (by rw [hk9.block _ (Array.getElem?_eq_some_iff.1 (uq HX_1)).1]; exact uq HX_1); have HB_2 : Hid (u2.heap[gb]? = some (.cells #[.string (S), .slice a1 n1 c1, .slice (some ad) n2 c2, .slice a3 n3 c3, .slice a4 n4 c4, .slice a5 n5 c5, .int .i64 ps0] 46 (0, 0))) := hide (by rw [hk9.block _ (Array.getElem?_eq_some_iff.1 (uq HB_1)).1]; exact uq HB_1); clear hk9)
          try go_wp2_with fail
          refine hK.out _ _ ?_ (fun hHeld => ?_)
          · exact (uq HBX) _ (uq HX_2)
          clear hK K
          try simp only [Act.put, Ya, Yb, Yc]
          refine rdyy 13 (fun K hK => ?_)
          go_simp
          clear hHeld
          (refine (hN.num (V2_4 k) _ (uq R4).1 (uq R4).2 (uq HG_2)).mono ?_; rintro e u3 ⟨rfl, hk9⟩; have HP_3 := hide ((uq HP_2).keep hk9); have HF_3 := hide ((uq HF_2).trans (Fb.keep hk9)); have HG_3 := hide (hN.keep _ _ (uq HG_2) hk9); have HX_3 : Hid (u3.heap[qb]? = some (.cells #[.string Y0, .string Y1, .int .i64 (V2_2 k), .int .i64 (V2_3 k), .int .i64 (V2_4 k), .int .i64 (V2_5 k)] 86 (0, 0))) := hide (by rw [hk9.block _ (Array.getElem?_eq_some_iff.1 (uq HX_2)).1]; exact uq HX_2); have HB_3 : Hid (u3.heap[gb]? = some (.cells #[.string (S), .slice a1 n1 c1, .slice (some ad) n2 c2, .slice a3 n3 c3, .slice a4 n4 c4, .slice a5 n5 c5, .int .i64 ps0] 46 (0, 0))) := hide (by rw [hk9.block _ (Array.getElem?_eq_some_iff.1 (uq HB_2)).1]; exact uq HB_2); clear hk9)
          try go_wp2_with fail
          refine hK.out _ _ ?_ (fun hHeld => ?_)
          · exact (uq HBX) _ (uq HX_3)
          clear hK K
          try simp only [Act.put, Ya, Yb, Yc]
          refine rdyy 14 (fun K hK => ?_)
          go_simp
          clear hHeld
          refine hK.out _ _ ?_ (fun hHeld => ?_)
          · exact (uq HBX) _ (by rw [heap_alloc_old _ _ (Array.getElem?_eq_some_iff.1 (uq HX_3)).1]; exact uq HX_3)
          clear hK K
          try simp only [Act.put, Ya, Yb, Yc]
          refine rdyy 15 (fun K hK => ?_)
          go_simp
          clear hHeld
          (have T9 := put_new (W := u3) [[119, 97, 108, 107], S2_0 k, [119, 105, 116, 104], S2_1 k, [108, 111, 110, 103], dg (V2_2 k), [112, 97, 99, 101], dg (V2_3 k), [108, 101, 97, 115, 116], dg (V2_4 k), [59]] rfl (uq HP_3) (by simp) (uq HOk).1 (by have := uq HLk; omega); simp only [wc, List.map_cons, List.map_nil] at T9; rw [uq HY0, uq HY1] at T9; refine T9.mono ?_; clear T9; rintro e wz ⟨rfl, hp, hf⟩; have HPz := hide hp; have HFz := hide ((uq HF_3).trans hf); have HGz := hide (hN.fb _ _ (uq HG_3) hf); have HBz := hide (hf.words (uq HB_3) (by decide) (uq HGP)); have HXz := hide (hf.words (uq HX_3) (by decide) (uq HNp)); clear hp hf)
          try go_wp2_with fail
          refine hK.out _ _ ?_ (fun hHeld => ?_)
          · exact (uq HBX) _ (uq HXz)
          clear hK K
          try simp only [Act.put, Ya, Yb, Yc]
          refine wpAnyH_done (by kernel_rfl) ?_ _
          clear hHeld
          go_wp2_with fail
          go_roundw
          case rel =>
            refine ⟨k + 1, _, hlt, by go_num, HPz, HGz, hide ?_, hide ?_, hide ?_, HFz, HBz⟩
            · rw [uq HRst]; exact (uq HOk).2
            · rw [uq HRst]; exact uq HEk
            · rw [uq HRst]
              have := uq HLk
              have := uq HLA
              omega
          case measure => simp [intOf]; omega
        · rw [drop_end n2 k hlt, List.nil_append] at HOk HEk HLk
          have HP3 := HPk
          have HG3 := HGk
          have HO3 := HOk
          have HE3 := HEk
          have HL3 := HLk
          have HF3 := HFk
          have HB3 := HBk
          obtain ⟨s3, hs9⟩ : ∃ s9, s9 = s := ⟨_, rfl⟩
          rw [← hs9] at HP3 HO3 HE3 HL3
          obtain ⟨w3, hw9⟩ : ∃ w9, w9 = wr := ⟨_, rfl⟩
          rw [← hw9] at HP3 HG3 HF3 HB3
          rw [← hw9]
          clear HPk HGk HOk HEk HLk HFk HBk hs9 hw9
          have cg : w3.cell? ⟨gb, 3, none⟩ = some (.slice a3 n3 c3) := by simp [World.cell?, uq HB3]
          go_wp2_with fail
          clear cg
          rw [← uq HT2] at HO3 HE3 HL3
          go_loopw [57] (fun vi wr => ∃ (k : Nat) (s : St), k ≤ n3 ∧ vi = .int .i64 (k : Int) ∧ Hid (Ps wr p s) ∧ Hid (G wr) ∧ Hid (oks s (((List.range n3).drop k).flatMap (fun k => [[112, 104, 97, 115, 101], S3_0 k, [58]] ++ lw (NW k)) ++ t3)) ∧ Hid (pss s (((List.range n3).drop k).flatMap (fun k => [[112, 104, 97, 115, 101], S3_0 k, [58]] ++ lw (NW k)) ++ t3) = fin) ∧ Hid (s.out.length + cost (((List.range n3).drop k).flatMap (fun k => [[112, 104, 97, 115, 101], S3_0 k, [58]] ++ lw (NW k)) ++ t3) ≤ 1000000000) ∧ Hid (Fb p w wr) ∧ Hid (wr.heap[gb]? = some (.cells #[.string (S), .slice a1 n1 c1, .slice a2 n2 c2, .slice a3 n3 c3, .slice a4 n4 c4, .slice a5 n5 c5, .int .i64 ps0] 46 (0, 0)))) (fun vi wr => n3 - (intOf vi).toNat)
          case atStart => exact ⟨0, s3, Nat.zero_le _, rfl, HP3, HG3, hide (by rw [List.drop_zero]; exact uq HO3), hide (by rw [List.drop_zero]; exact uq HE3), hide (by rw [List.drop_zero]; exact uq HL3), HF3, HB3⟩
          case round =>
            obtain ⟨k, s, hk, rfl, HPk, HGk, HOk, HEk, HLk, HFk, HBk⟩ := hrel
            by_cases hlt : k < n3
            · have li : (k : Int) < (n3 : Int) := by omega
              rw [drop_range n3 k hlt, List.append_assoc] at HOk HEk HLk
              obtain ⟨rst, HRst⟩ : ∃ rst, Hid (((List.range n3).drop (k + 1)).flatMap (fun k => [[112, 104, 97, 115, 101], S3_0 k, [58]] ++ lw (NW k)) ++ t3 = rst) := ⟨_, hide rfl⟩
              rw [uq HRst] at HOk HEk HLk
              rw [oks_append] at HOk
              rw [cost_append] at HLk
              rw [← pss_append] at HEk
              have HLA := hide (pss_len _ _ (uq HOk).1)
              obtain ⟨ad, ea, hadp, e0, e1, e2⟩ := (uq HC3) k hlt
              subst ea
              have x0 := cell_low (uq HFk) e0 (by rw [add_block]; exact hadp)
              have x1 := cell_low (uq HFk) e1 (by show (ad.add (k * 3)).block < p; rw [add_block]; exact hadp)
              have x2 := cell_low (uq HFk) e2 (by show (ad.add (k * 3)).block < p; rw [add_block]; exact hadp)
              clear e0 e1 e2 hadp
              have HTk := hide ((uq T3) k hlt)
              obtain ⟨Y0, HY0⟩ : ∃ Y, Hid (sv (S3_0 k) = Y) := ⟨_, rfl⟩
              rw [uq HY0] at x0
              have HPa := hide ((uq HPk).keep ((Keep.refl wr).alloc (.cells #[.string Y0, .slice (A3_1 k) (N3_1 k) (C3_1 k), .int .i64 (V3_2 k)] 88)))
              have HGa := hide (hN.keep _ _ (uq HGk) ((Keep.refl wr).alloc (.cells #[.string Y0, .slice (A3_1 k) (N3_1 k) (C3_1 k), .int .i64 (V3_2 k)] 88)))
              have HFa : Hid (Fb p w (wr.alloc (.cells #[.string Y0, .slice (A3_1 k) (N3_1 k) (C3_1 k), .int .i64 (V3_2 k)] 88))) := hide ((uq HFk).trans (Fb.keep ((Keep.refl wr).alloc _)))
              have HBa : Hid ((wr.alloc (.cells #[.string Y0, .slice (A3_1 k) (N3_1 k) (C3_1 k), .int .i64 (V3_2 k)] 88)).heap[gb]? = some (.cells #[.string (S), .slice a1 n1 c1, .slice a2 n2 c2, .slice (some ad) n3 c3, .slice a4 n4 c4, .slice a5 n5 c5, .int .i64 ps0] 46 (0, 0))) := hide (by rw [heap_alloc_old _ _ (Array.getElem?_eq_some_iff.1 (uq HBk)).1]; exact uq HBk)
              have HXa := hide (heap_alloc_new wr (.cells #[.string Y0, .slice (A3_1 k) (N3_1 k) (C3_1 k), .int .i64 (V3_2 k)] 88))
              have HNp : Hid (wr.heap.size ≠ p) := hide (by have := Pr.lt (uq HPk); omega)
              go_upto_region 15 with fail
              generalize wr.alloc (.cells #[.string Y0, .slice (A3_1 k) (N3_1 k) (C3_1 k), .int .i64 (V3_2 k)] 88) = wa at HPa HGa HFa HBa HXa ⊢
              generalize wr.heap.size = qb at HXa HNp ⊢
              clear x0 x1 x2
              have y0 : wa.cell? ⟨qb, 0, none⟩ = some (.string Y0) := by simp [World.cell?, uq HXa]
              have y1 : wa.cell? ⟨qb, 1, none⟩ = some (.slice (A3_1 k) (N3_1 k) (C3_1 k)) := by simp [World.cell?, uq HXa]
              have y2 : wa.cell? ⟨qb, 2, none⟩ = some (.int .i64 (V3_2 k)) := by simp [World.cell?, uq HXa]
              have HO3a := hide ((oks_append [[112, 104, 97, 115, 101], S3_0 k, [58]] (lw (NW k)) s).1 (uq HOk).1)
              have l1 := hide (pss_len _ _ (uq HO3a).1)
              have HC3a : Hid (cost ([[112, 104, 97, 115, 101], S3_0 k, [58]] ++ lw (NW k)) = cost [[112, 104, 97, 115, 101], S3_0 k, [58]] + cost (lw (NW k))) := hide (cost_append _ _)
              have HE3a : Hid (pss (pss s [[112, 104, 97, 115, 101], S3_0 k, [58]]) (lw (NW k)) = pss s ([[112, 104, 97, 115, 101], S3_0 k, [58]] ++ lw (NW k))) := hide (pss_append _ _ _)
              go_wp2_with fail
              (have T9 := put_new (W := wa) [[112, 104, 97, 115, 101], S3_0 k, [58]] rfl (uq HPa) (by simp) (uq HO3a).1 (by have := uq HLk; have := uq HC3a; omega); simp only [wc, List.map_cons, List.map_nil] at T9; rw [uq HY0] at T9; refine T9.mono ?_; clear T9; rintro e wb ⟨rfl, hp, hf⟩; have HPb := hide hp; have HFb := hide ((uq HFa).trans hf); have HGb2 := hide (hN.fb _ _ (uq HGa) hf); have HBb := hide (hf.words (uq HBa) (by decide) (uq HGP)); have HXb := hide (hf.words (uq HXa) (by decide) (uq HNp)); clear hp hf)
              clear y0 y1 y2
              have z1 : wb.cell? ⟨qb, 1, none⟩ = some (.slice (A3_1 k) (N3_1 k) (C3_1 k)) := by simp [World.cell?, uq HXb]
              go_wp2_with fail
              (refine ((uq HTk) wb _ (uq HFb) (uq HPb) (uq HO3a).2 (by have := uq HLk; have := uq HC3a; have := uq l1; omega)).mono ?_; rintro e wz ⟨rfl, hp, hf⟩; have HPz := hide hp; have HFz := hide ((uq HFb).trans hf); have HGz := hide (hN.fb _ _ (uq HGb2) hf); have HBz := hide (hf.words (uq HBb) (by decide) (uq HGP)); clear hp hf)
              clear z1
              replace HPz : Hid (Ps wz p (pss s ([[112, 104, 97, 115, 101], S3_0 k, [58]] ++ lw (NW k)))) := hide (by rw [← uq HE3a]; exact uq HPz)
              go_wp2_with fail
              go_roundw
              case rel =>
                refine ⟨k + 1, _, hlt, by go_num, HPz, HGz, hide ?_, hide ?_, hide ?_, HFz, HBz⟩
                · rw [uq HRst]; exact (uq HOk).2
                · rw [uq HRst]; exact uq HEk
                · rw [uq HRst]
                  have := uq HLk
                  have := uq HLA
                  omega
              case measure => simp [intOf]; omega
            · rw [drop_end n3 k hlt, List.nil_append] at HOk HEk HLk
              have HP4 := HPk
              have HG4 := HGk
              have HO4 := HOk
              have HE4 := HEk
              have HL4 := HLk
              have HF4 := HFk
              have HB4 := HBk
              obtain ⟨s4, hs9⟩ : ∃ s9, s9 = s := ⟨_, rfl⟩
              rw [← hs9] at HP4 HO4 HE4 HL4
              obtain ⟨w4, hw9⟩ : ∃ w9, w9 = wr := ⟨_, rfl⟩
              rw [← hw9] at HP4 HG4 HF4 HB4
              rw [← hw9]
              clear HPk HGk HOk HEk HLk HFk HBk hs9 hw9
              have cg : w4.cell? ⟨gb, 4, none⟩ = some (.slice a4 n4 c4) := by simp [World.cell?, uq HB4]
              go_wp2_with fail
              clear cg
              rw [← uq HT3] at HO4 HE4 HL4
              go_loopw [74] (fun vi wr => ∃ (k : Nat) (s : St), k ≤ n4 ∧ vi = .int .i64 (k : Int) ∧ Hid (Ps wr p s) ∧ Hid (G wr) ∧ Hid (oks s (((List.range n4).drop k).flatMap W4 ++ t4)) ∧ Hid (pss s (((List.range n4).drop k).flatMap W4 ++ t4) = fin) ∧ Hid (s.out.length + cost (((List.range n4).drop k).flatMap W4 ++ t4) ≤ 1000000000) ∧ Hid (Fb p w wr) ∧ Hid (wr.heap[gb]? = some (.cells #[.string (S), .slice a1 n1 c1, .slice a2 n2 c2, .slice a3 n3 c3, .slice a4 n4 c4, .slice a5 n5 c5, .int .i64 ps0] 46 (0, 0)))) (fun vi wr => n4 - (intOf vi).toNat)
              case atStart => exact ⟨0, s4, Nat.zero_le _, rfl, HP4, HG4, hide (by rw [List.drop_zero]; exact uq HO4), hide (by rw [List.drop_zero]; exact uq HE4), hide (by rw [List.drop_zero]; exact uq HL4), HF4, HB4⟩
              case round =>
                obtain ⟨k, s, hk, rfl, HPk, HGk, HOk, HEk, HLk, HFk, HBk⟩ := hrel
                by_cases hlt : k < n4
                · have li : (k : Int) < (n4 : Int) := by omega
                  rw [drop_range n4 k hlt, List.append_assoc] at HOk HEk HLk
                  obtain ⟨rst, HRst⟩ : ∃ rst, Hid (((List.range n4).drop (k + 1)).flatMap W4 ++ t4 = rst) := ⟨_, hide rfl⟩
                  rw [uq HRst] at HOk HEk HLk
                  rw [oks_append] at HOk
                  rw [cost_append] at HLk
                  rw [← pss_append] at HEk
                  have HLA := hide (pss_len _ _ (uq HOk).1)
                  obtain ⟨ad, ea, hadp, e0⟩ := (uq HC4) k hlt
                  subst ea
                  have x0 := cell_low (uq HFk) e0 (by rw [add_block]; exact hadp)
                  clear e0 hadp
                  have HTk := hide ((uq T4) k hlt)
                  have HPa := hide ((uq HPk).keep ((Keep.refl wr).alloc (.cells #[.slice (A4_0 k) (N4_0 k) (C4_0 k)] 91)))
                  have HGa := hide (hN.keep _ _ (uq HGk) ((Keep.refl wr).alloc (.cells #[.slice (A4_0 k) (N4_0 k) (C4_0 k)] 91)))
                  have HFa : Hid (Fb p w (wr.alloc (.cells #[.slice (A4_0 k) (N4_0 k) (C4_0 k)] 91))) := hide ((uq HFk).trans (Fb.keep ((Keep.refl wr).alloc _)))
                  have HBa : Hid ((wr.alloc (.cells #[.slice (A4_0 k) (N4_0 k) (C4_0 k)] 91)).heap[gb]? = some (.cells #[.string (S), .slice a1 n1 c1, .slice a2 n2 c2, .slice a3 n3 c3, .slice (some ad) n4 c4, .slice a5 n5 c5, .int .i64 ps0] 46 (0, 0))) := hide (by rw [heap_alloc_old _ _ (Array.getElem?_eq_some_iff.1 (uq HBk)).1]; exact uq HBk)
                  have HXa := hide (heap_alloc_new wr (.cells #[.slice (A4_0 k) (N4_0 k) (C4_0 k)] 91))
                  have HNp : Hid (wr.heap.size ≠ p) := hide (by have := Pr.lt (uq HPk); omega)
                  go_upto_region 21 with fail
                  generalize wr.alloc (.cells #[.slice (A4_0 k) (N4_0 k) (C4_0 k)] 91) = wa at HPa HGa HFa HBa HXa ⊢
                  generalize wr.heap.size = qb at HXa HNp ⊢
                  clear x0
                  have y0 : wa.cell? ⟨qb, 0, none⟩ = some (.slice (A4_0 k) (N4_0 k) (C4_0 k)) := by simp [World.cell?, uq HXa]
                  go_wp2_with fail
                  (refine ((uq HTk) wa s (uq HFa) (uq HPa) (uq HOk).1 (by have := uq HLk; omega)).mono ?_; rintro e wz ⟨rfl, hp, hf⟩; have HPz := hide hp; have HFz := hide ((uq HFa).trans hf); have HGz := hide (hN.fb _ _ (uq HGa) hf); have HBz := hide (hf.words (uq HBa) (by decide) (uq HGP)); clear hp hf)
                  clear y0
                  go_wp2_with fail
                  go_roundw
                  case rel =>
                    refine ⟨k + 1, _, hlt, by go_num, HPz, HGz, hide ?_, hide ?_, hide ?_, HFz, HBz⟩
                    · rw [uq HRst]; exact (uq HOk).2
                    · rw [uq HRst]; exact uq HEk
                    · rw [uq HRst]
                      have := uq HLk
                      have := uq HLA
                      omega
                  case measure => simp [intOf]; omega
                · rw [drop_end n4 k hlt, List.nil_append] at HOk HEk HLk
                  have HP5 := HPk
                  have HG5 := HGk
                  have HO5 := HOk
                  have HE5 := HEk
                  have HL5 := HLk
                  have HF5 := HFk
                  have HB5 := HBk
                  obtain ⟨s5, hs9⟩ : ∃ s9, s9 = s := ⟨_, rfl⟩
                  rw [← hs9] at HP5 HO5 HE5 HL5
                  obtain ⟨w5, hw9⟩ : ∃ w9, w9 = wr := ⟨_, rfl⟩
                  rw [← hw9] at HP5 HG5 HF5 HB5
                  rw [← hw9]
                  clear HPk HGk HOk HEk HLk HFk HBk hs9 hw9
                  have cg : w5.cell? ⟨gb, 5, none⟩ = some (.slice a5 n5 c5) := by simp [World.cell?, uq HB5]
                  go_wp2_with fail
                  clear cg
                  rw [← uq HT4] at HO5 HE5 HL5
                  go_loopw [85] (fun vi wr => ∃ (k : Nat) (s : St), k ≤ n5 ∧ vi = .int .i64 (k : Int) ∧ Hid (Ps wr p s) ∧ Hid (G wr) ∧ Hid (oks s (((List.range n5).drop k).flatMap (fun k => [[102, 111, 101], S5_0 k, S5_1 k, [59]]) ++ t5)) ∧ Hid (pss s (((List.range n5).drop k).flatMap (fun k => [[102, 111, 101], S5_0 k, S5_1 k, [59]]) ++ t5) = fin) ∧ Hid (s.out.length + cost (((List.range n5).drop k).flatMap (fun k => [[102, 111, 101], S5_0 k, S5_1 k, [59]]) ++ t5) ≤ 1000000000) ∧ Hid (Fb p w wr) ∧ Hid (wr.heap[gb]? = some (.cells #[.string (S), .slice a1 n1 c1, .slice a2 n2 c2, .slice a3 n3 c3, .slice a4 n4 c4, .slice a5 n5 c5, .int .i64 ps0] 46 (0, 0)))) (fun vi wr => n5 - (intOf vi).toNat)
                  case atStart => exact ⟨0, s5, Nat.zero_le _, rfl, HP5, HG5, hide (by rw [List.drop_zero]; exact uq HO5), hide (by rw [List.drop_zero]; exact uq HE5), hide (by rw [List.drop_zero]; exact uq HL5), HF5, HB5⟩
                  case round =>
                    obtain ⟨k, s, hk, rfl, HPk, HGk, HOk, HEk, HLk, HFk, HBk⟩ := hrel
                    by_cases hlt : k < n5
                    · have li : (k : Int) < (n5 : Int) := by omega
                      rw [drop_range n5 k hlt, List.append_assoc] at HOk HEk HLk
                      obtain ⟨rst, HRst⟩ : ∃ rst, Hid (((List.range n5).drop (k + 1)).flatMap (fun k => [[102, 111, 101], S5_0 k, S5_1 k, [59]]) ++ t5 = rst) := ⟨_, hide rfl⟩
                      rw [uq HRst] at HOk HEk HLk
                      rw [oks_append] at HOk
                      rw [cost_append] at HLk
                      rw [← pss_append] at HEk
                      have HLA := hide (pss_len _ _ (uq HOk).1)
                      obtain ⟨ad, ea, hadp, e0, e1, e2⟩ := (uq HC5) k hlt
                      subst ea
                      have x0 := cell_low (uq HFk) e0 (by rw [add_block]; exact hadp)
                      have x1 := cell_low (uq HFk) e1 (by show (ad.add (k * 3)).block < p; rw [add_block]; exact hadp)
                      have x2 := cell_low (uq HFk) e2 (by show (ad.add (k * 3)).block < p; rw [add_block]; exact hadp)
                      clear e0 e1 e2 hadp
                      obtain ⟨Y0, HY0⟩ : ∃ Y, Hid (sv (S5_0 k) = Y) := ⟨_, rfl⟩
                      rw [uq HY0] at x0
                      obtain ⟨Y1, HY1⟩ : ∃ Y, Hid (sv (S5_1 k) = Y) := ⟨_, rfl⟩
                      rw [uq HY1] at x1
                      have HPa := hide ((uq HPk).keep ((Keep.refl wr).alloc (.cells #[.string Y0, .string Y1, .int .i64 (V5_2 k)] 95)))
                      have HGa := hide (hN.keep _ _ (uq HGk) ((Keep.refl wr).alloc (.cells #[.string Y0, .string Y1, .int .i64 (V5_2 k)] 95)))
                      have HFa : Hid (Fb p w (wr.alloc (.cells #[.string Y0, .string Y1, .int .i64 (V5_2 k)] 95))) := hide ((uq HFk).trans (Fb.keep ((Keep.refl wr).alloc _)))
                      have HBa : Hid ((wr.alloc (.cells #[.string Y0, .string Y1, .int .i64 (V5_2 k)] 95)).heap[gb]? = some (.cells #[.string (S), .slice a1 n1 c1, .slice a2 n2 c2, .slice a3 n3 c3, .slice a4 n4 c4, .slice (some ad) n5 c5, .int .i64 ps0] 46 (0, 0))) := hide (by rw [heap_alloc_old _ _ (Array.getElem?_eq_some_iff.1 (uq HBk)).1]; exact uq HBk)
                      have HXa := hide (heap_alloc_new wr (.cells #[.string Y0, .string Y1, .int .i64 (V5_2 k)] 95))
                      have HNp : Hid (wr.heap.size ≠ p) := hide (by have := Pr.lt (uq HPk); omega)
                      go_upto_region 26 with fail
                      generalize wr.alloc (.cells #[.string Y0, .string Y1, .int .i64 (V5_2 k)] 95) = wa at HPa HGa HFa HBa HXa ⊢
                      generalize wr.heap.size = qb at HXa HNp ⊢
                      clear x0 x1 x2
                      have y0 : wa.cell? ⟨qb, 0, none⟩ = some (.string Y0) := by simp [World.cell?, uq HXa]
                      have y1 : wa.cell? ⟨qb, 1, none⟩ = some (.string Y1) := by simp [World.cell?, uq HXa]
                      have y2 : wa.cell? ⟨qb, 2, none⟩ = some (.int .i64 (V5_2 k)) := by simp [World.cell?, uq HXa]
                      go_wp2_with fail
                      (have T9 := put_new (W := wa) [[102, 111, 101], S5_0 k, S5_1 k, [59]] rfl (uq HPa) (by simp) (uq HOk).1 (by have := uq HLk; omega); simp only [wc, List.map_cons, List.map_nil] at T9; rw [uq HY0, uq HY1] at T9; refine T9.mono ?_; clear T9; rintro e wz ⟨rfl, hp, hf⟩; have HPz := hide hp; have HFz := hide ((uq HFa).trans hf); have HGz := hide (hN.fb _ _ (uq HGa) hf); have HBz := hide (hf.words (uq HBa) (by decide) (uq HGP)); clear hp hf)
                      clear y0 y1 y2
                      go_wp2_with fail
                      go_roundw
                      case rel =>
                        refine ⟨k + 1, _, hlt, by go_num, HPz, HGz, hide ?_, hide ?_, hide ?_, HFz, HBz⟩
                        · rw [uq HRst]; exact (uq HOk).2
                        · rw [uq HRst]; exact uq HEk
                        · rw [uq HRst]
                          have := uq HLk
                          have := uq HLA
                          omega
                      case measure => simp [intOf]; omega
                    · rw [drop_end n5 k hlt, List.nil_append] at HOk HEk HLk
                      rw [← uq HT5] at HOk HEk HLk
                      go_wp2_with fail
                      (have T9 := put_new (W := wr) [[125]] rfl (uq HPk) (by simp) (uq HOk) (uq HLk); simp only [wc, List.map_cons, List.map_nil] at T9; refine T9.mono ?_; clear T9; rintro e wz ⟨rfl, hp, hf⟩; have HPz := hide hp; have HFz := hide ((uq HFk).trans hf); clear hp hf)
                      go_wp2_with fail
                      go_end0
                      have h9 := uq HPz
                      rw [uq HEk] at h9
                      exact ⟨rfl, h9, uq HFz⟩
end S
end Go.Proofs.YtcdnbdajnagfiaaGreatDoor
