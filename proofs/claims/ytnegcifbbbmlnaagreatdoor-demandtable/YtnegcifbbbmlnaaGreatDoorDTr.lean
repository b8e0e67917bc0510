/- The document's answer for all flow ratios, over letters. -/
import Derived.Test.YtnegcifbbbmlnaaGreatDoorDTt
import Derived.Test.YtnegcifbbbmlnaaGreatDoorLMath
import Derived.Deep.DrawnRows
import Derived.Deep.RegionHeld
namespace Go.Proofs.YtnegcifbbbmlnaaGreatDoor
open Go.RowKit
attribute [local go_sem ↓] Go.wp_at_zero Go.wp_at_succ
set_option linter.unusedVariables false
set_option linter.unusedSimpArgs false
set_option maxRecDepth 10000
namespace W
theorem own_sl {w : World} {B : Nat} {T : TypeId} {z n : Nat} {v : Value} {xs : List Value} (h : w.ownsRow B T z v n xs) : ∃ a n c, v = .slice a n c := by
  rcases h.2 with ⟨h, _⟩ | ⟨g, cap, cur, h, _⟩ <;> exact ⟨_, _, _, h⟩
set_option maxHeartbeats 16000000 in
theorem rtable_core (a0 a1 a2 a3 a4 : Int) (aN : Option Addr) (nN cN : Nat) (aS : Option Addr) (nS cS : Nat) (a5 a6 : Int) (X1 : Nat → Option Addr) (N1 C1 : Nat → Nat) (HN : Nat → Nat → ByteArray) (V1 V2 V3 V4 V5 V6 V7 V8 V9 V10 : Nat → Nat → Int) (X Y Z : Nat → Nat → Int) (w : World) (hn : nN ≤ 1000) (hn1 : Hid (∀ i, i < nN → N1 i ≤ 1000))
    (HC : Hid (∀ i, i < nN → ∃ an, aN = some an ∧ an.block < w.heap.size ∧ w.cell? ⟨(an.add (i * 7)).block, (an.add (i * 7)).off + 1, none⟩ = some (.slice (X1 i) (N1 i) (C1 i))))
    (HH : Hid (∀ i, i < nN → ∀ k, k < N1 i → ∃ ad, X1 i = some ad ∧ ad.block < w.heap.size ∧ w.cell? (ad.add (k * 11)) = some (.string (HN i k)) ∧ w.cell? ⟨(ad.add (k * 11)).block, (ad.add (k * 11)).off + 1, none⟩ = some (.int .i64 (V1 i k)) ∧ w.cell? ⟨(ad.add (k * 11)).block, (ad.add (k * 11)).off + 2, none⟩ = some (.int .i64 (V2 i k)) ∧ w.cell? ⟨(ad.add (k * 11)).block, (ad.add (k * 11)).off + 3, none⟩ = some (.int .i64 (V3 i k)) ∧ w.cell? ⟨(ad.add (k * 11)).block, (ad.add (k * 11)).off + 4, none⟩ = some (.int .i64 (V4 i k)) ∧ w.cell? ⟨(ad.add (k * 11)).block, (ad.add (k * 11)).off + 5, none⟩ = some (.int .i64 (V5 i k)) ∧ w.cell? ⟨(ad.add (k * 11)).block, (ad.add (k * 11)).off + 6, none⟩ = some (.int .i64 (V6 i k)) ∧ w.cell? ⟨(ad.add (k * 11)).block, (ad.add (k * 11)).off + 7, none⟩ = some (.int .i64 (V7 i k)) ∧ w.cell? ⟨(ad.add (k * 11)).block, (ad.add (k * 11)).off + 8, none⟩ = some (.int .i64 (V8 i k)) ∧ w.cell? ⟨(ad.add (k * 11)).block, (ad.add (k * 11)).off + 9, none⟩ = some (.int .i64 (V9 i k)) ∧ w.cell? ⟨(ad.add (k * 11)).block, (ad.add (k * 11)).off + 10, none⟩ = some (.int .i64 (V10 i k))))
    (TR : Hid (∀ i, i < nN → ∀ k, k < N1 i → ∀ w', Calls Tryz.prog 11 #[.agg #[.string (HN i k), .int .i64 (V1 i k), .int .i64 (V2 i k), .int .i64 (V3 i k), .int .i64 (V4 i k), .int .i64 (V5 i k), .int .i64 (V6 i k), .int .i64 (V7 i k), .int .i64 (V8 i k), .int .i64 (V9 i k), .int .i64 (V10 i k)], .agg #[.int .i64 a3, .int .i64 a4]] w' fun e w'' => e = .returned (.tuple #[.agg #[.int .i64 (X i k), .int .i64 (Y i k)], .int .i64 (Z i k)]) ∧ Keep w' w'')) :
    Calls Tryz.prog 6 #[.agg #[.int .i64 a0, .int .i64 a1, .int .i64 a2, .int .i64 a3, .int .i64 a4, .slice aN nN cN, .slice aS nS cS, .int .i64 a5, .int .i64 a6]] w (Tq nN N1 X Y Z w) := by
  obtain ⟨i0, hi, hz0, hz1, hz2⟩ := info_f infoR
  obtain ⟨j0, hj, hj0, hj1, hj2⟩ := info_f infoF
  obtain ⟨ZS, hZS⟩ : ∃ ZS : Nat → Int, ZS = fun i => fz (Z i) 0 (N1 i) := ⟨_, rfl⟩
  have HZS : Hid (∀ i, fz (Z i) 0 (N1 i - 0) = ZS i) := hide (fun i => by rw [hZS]; rfl)
  obtain ⟨r, hr⟩ : ∃ r, tz N1 Z nN = r := ⟨_, rfl⟩
  have HRR : Hid (fz ZS 0 (nN - 0) = r) := hide (by rw [hZS, ← hr]; rfl)
  have HR := hide hr
  clear hr hZS
  have hnw := heap_alloc_new w (.cells #[.int .i64 a0, .int .i64 a1, .int .i64 a2, .int .i64 a3, .int .i64 a4, .slice aN nN cN, .slice aS nS cS, .int .i64 a5, .int .i64 a6] 27)
  have K1 := hide ((Keep.refl w).alloc (.cells #[.int .i64 a0, .int .i64 a1, .int .i64 a2, .int .i64 a3, .int .i64 a4, .slice aN nN cN, .slice aS nS cS, .int .i64 a5, .int .i64 a6] 27))
  go_enter Tryz.func6, Tryz.ntmps6
  go_upto_region 1 with fail
  generalize w.alloc (.cells #[.int .i64 a0, .int .i64 a1, .int .i64 a2, .int .i64 a3, .int .i64 a4, .slice aN nN cN, .slice aS nS cS, .int .i64 a5, .int .i64 a6] 27) = wb at hnw K1 ⊢
  obtain ⟨q, HQ⟩ : ∃ q, Hid (w.heap.size = q) := ⟨_, hide rfl⟩
  rw [uq HQ] at hnw ⊢
  have HX : Hid (∀ w' : World, Keep wb w' → w'.cell? ⟨q, 5, none⟩ = some (.slice aN nN cN) ∧ w'.cell? ⟨q, 3, none⟩ = some (.int .i64 a3) ∧ w'.cell? ⟨q, 4, none⟩ = some (.int .i64 a4)) := hide (fun w' k9 => by
    have h1 := k9.block q (Array.getElem?_eq_some_iff.1 hnw).1
    rw [hnw] at h1
    refine ⟨?_, ?_, ?_⟩ <;> simp [World.cell?, h1])
  clear hnw
  go_wp2_with fail
  go_loopw [4, 5] (fun vs vi wr => ∃ (i : Nat) (rows : List Value), i ≤ nN ∧ vi = .int .i64 (i : Int) ∧ Hid (wr.ownsRow wb.heap.size 33 1 vs i rows) ∧ Hid (Tr wr rows i N1 X Y) ∧ Hid (fz ZS i (nN - i) = r) ∧ Hid (Keep wb wr)) (fun vs vi _ => nN - (intOf vi).toNat)
  case atStart => exact ⟨0, [], Nat.zero_le _, rfl, hide (World.ownsRow_nil _ _ _ _), hide (Tr.nil _ _ _ _), HRR, hide (Keep.refl wb)⟩
  case round =>
    obtain ⟨i, rows, hik, rfl, HROW, HTR, HFZ, HK⟩ := hrel
    obtain ⟨f1, f2, f3⟩ := (uq HX) wr (uq HK)
    have lq : q < wr.heap.size := World.block_lt_of_cell? wr _ f2
    by_cases hlt : i < nN
    · have li : (i : Int) < (nN : Int) := by omega
      obtain ⟨an, rfl, hnb, en⟩ := (uq HC) i hlt
      have HNB : Hid (∀ w', Keep w w' → w'.cell? ⟨(an.add (i * 7)).block, (an.add (i * 7)).off + 1, none⟩ = some (.slice (X1 i) (N1 i) (C1 i))) := hide (fun w' k9 => far9 k9 (by show (an.add (i * 7)).block < _; rw [ab9]; exact hnb) en)
      have HHi := hide ((uq HH) i hlt)
      have TRi := hide ((uq TR) i hlt)
      have hni := (uq hn1) i hlt
      have HZi := hide ((uq HZS) i)
      have HIK := hide hik
      clear f2 f3 en hnb
      generalize X1 i = hx at *
      generalize hnn : N1 i = n1 at *
      have HNN := hide hnn
      generalize C1 i = c1 at *
      obtain ⟨wo, hwo⟩ : ∃ wo, wo = wr := ⟨_, rfl⟩
      subst hwo
      go_wp2_with fail
      clear f1 lq
      go_loopw [6, 7] (fun vr vk wr => ∃ (k : Nat) (ra : Option Addr) (rn rc : Nat), k ≤ n1 ∧ vk = .int .i64 (k : Int) ∧ vr = .slice ra rn rc ∧ Hid (wr.ownsRow wo.heap.size 23 2 (.slice ra rn rc) k (cp (X i) (Y i) k)) ∧ Hid (fz (Z i) k (n1 - k) = ZS i) ∧ Hid (Keep wo wr)) (fun vr vk _ => n1 - (intOf vk).toNat)
      case atStart => exact ⟨0, none, 0, 0, Nat.zero_le _, rfl, rfl, hide (World.ownsRow_nil _ _ _ _), HZi, hide (Keep.refl wo)⟩
      case round =>
        obtain ⟨k, ra, rn, rc, hkk, rfl, rfl, HRW, HF, HKI⟩ := hrel
        have KWI := hide ((uq HK).trans (uq HKI))
        have hsz := Below.size (uq HKI)
        by_cases hkl : k < n1
        · have lk : (k : Int) < (n1 : Int) := by omega
          obtain ⟨ad, rfl, hb, e0, e1, e2, e3, e4, e5, e6, e7, e8, e9, e10⟩ := (uq HHi) k hkl
          have TTk := hide ((uq TRi) k hkl)
          have HZK : Hid (Z i k = Z i k) := hide rfl
          obtain ⟨xk, hxk⟩ : ∃ x, X i k = x := ⟨_, rfl⟩
          obtain ⟨yk, hyk⟩ : ∃ x, Y i k = x := ⟨_, rfl⟩
          obtain ⟨zk, hzk⟩ : ∃ x, Z i k = x := ⟨_, rfl⟩
          have HCP : Hid (cp (X i) (Y i) (k + 1) = cp (X i) (Y i) k ++ [.int .i64 xk, .int .i64 yk]) := hide (by rw [← hxk, ← hyk]; rfl)
          rw [hxk, hyk, hzk] at TTk
          have HZ := hide hzk
          clear hxk hyk hzk
          generalize HN i k = hs at *
          generalize V1 i k = v1 at *
          generalize V2 i k = v2 at *
          generalize V3 i k = v3 at *
          generalize V4 i k = v4 at *
          generalize V5 i k = v5 at *
          generalize V6 i k = v6 at *
          generalize V7 i k = v7 at *
          generalize V8 i k = v8 at *
          generalize V9 i k = v9 at *
          generalize V10 i k = v10 at *
          have CK : ∀ w', Keep wr w' → (w'.cell? ⟨q, 5, none⟩ = some (.slice (some an) nN cN) ∧ w'.cell? ⟨q, 3, none⟩ = some (.int .i64 a3) ∧ w'.cell? ⟨q, 4, none⟩ = some (.int .i64 a4) ∧ w'.cell? ⟨(an.add (i * 7)).block, (an.add (i * 7)).off + 1, none⟩ = some (.slice (some ad) n1 c1) ∧ w'.cell? (ad.add (k * 11)) = some (.string hs) ∧ w'.cell? ⟨(ad.add (k * 11)).block, (ad.add (k * 11)).off + 1, none⟩ = some (.int .i64 v1) ∧ w'.cell? ⟨(ad.add (k * 11)).block, (ad.add (k * 11)).off + 2, none⟩ = some (.int .i64 v2) ∧ w'.cell? ⟨(ad.add (k * 11)).block, (ad.add (k * 11)).off + 3, none⟩ = some (.int .i64 v3) ∧ w'.cell? ⟨(ad.add (k * 11)).block, (ad.add (k * 11)).off + 4, none⟩ = some (.int .i64 v4) ∧ w'.cell? ⟨(ad.add (k * 11)).block, (ad.add (k * 11)).off + 5, none⟩ = some (.int .i64 v5) ∧ w'.cell? ⟨(ad.add (k * 11)).block, (ad.add (k * 11)).off + 6, none⟩ = some (.int .i64 v6) ∧ w'.cell? ⟨(ad.add (k * 11)).block, (ad.add (k * 11)).off + 7, none⟩ = some (.int .i64 v7) ∧ w'.cell? ⟨(ad.add (k * 11)).block, (ad.add (k * 11)).off + 8, none⟩ = some (.int .i64 v8) ∧ w'.cell? ⟨(ad.add (k * 11)).block, (ad.add (k * 11)).off + 9, none⟩ = some (.int .i64 v9) ∧ w'.cell? ⟨(ad.add (k * 11)).block, (ad.add (k * 11)).off + 10, none⟩ = some (.int .i64 v10)) := by
            intro w' k9
            have k8 := (uq K1).trans ((uq KWI).trans k9)
            have hB : (ad.add (k * 11)).block < w.heap.size := by rw [ab9]; exact hb
            obtain ⟨f1, f2, f3⟩ := (uq HX) w' ((uq KWI).trans k9)
            exact ⟨f1, f2, f3, (uq HNB) w' k8, far9 k8 hB e0, far9 k8 hB e1, far9 k8 hB e2, far9 k8 hB e3, far9 k8 hB e4, far9 k8 hB e5, far9 k8 hB e6, far9 k8 hB e7, far9 k8 hB e8, far9 k8 hB e9, far9 k8 hB e10⟩
          have CKH := hide CK
          obtain ⟨f1, f2, f3, f4, g0, g1, g2, g3, g4, g5, g6, g7, g8, g9, g10⟩ := CK wr (Keep.refl _)
          have lq : q < wr.heap.size := World.block_lt_of_cell? wr _ f1
          clear CK e0 e1 e2 e3 e4 e5 e6 e7 e8 e9 e10 hb
          go_upto_region 9 with fail
          clear f1 f2 f3 f4 g0 g1 g2 g3 g4 g5 g6 g7 g8 g9 g10
          go_cut [8, 9] (fun s8 s9 wc => ∃ T, s8 = .pointer (some ⟨T, 0, none⟩) ∧ s9 = .int .i64 zk ∧ T < wc.heap.size ∧ wr.heap.size ≤ T ∧ wc.cell? ⟨T, 0, none⟩ = some (.int .i64 xk) ∧ wc.cell? ⟨T, 1, none⟩ = some (.int .i64 yk) ∧ Keep wr wc)
          case first =>
            refine wp_region_held_drew (S := (fun w' => w'.cell? ⟨q, 5, none⟩ = some (.slice (some an) nN cN) ∧ w'.cell? ⟨q, 3, none⟩ = some (.int .i64 a3) ∧ w'.cell? ⟨q, 4, none⟩ = some (.int .i64 a4) ∧ w'.cell? ⟨(an.add (i * 7)).block, (an.add (i * 7)).off + 1, none⟩ = some (.slice (some ad) n1 c1) ∧ w'.cell? (ad.add (k * 11)) = some (.string hs) ∧ w'.cell? ⟨(ad.add (k * 11)).block, (ad.add (k * 11)).off + 1, none⟩ = some (.int .i64 v1) ∧ w'.cell? ⟨(ad.add (k * 11)).block, (ad.add (k * 11)).off + 2, none⟩ = some (.int .i64 v2) ∧ w'.cell? ⟨(ad.add (k * 11)).block, (ad.add (k * 11)).off + 3, none⟩ = some (.int .i64 v3) ∧ w'.cell? ⟨(ad.add (k * 11)).block, (ad.add (k * 11)).off + 4, none⟩ = some (.int .i64 v4) ∧ w'.cell? ⟨(ad.add (k * 11)).block, (ad.add (k * 11)).off + 5, none⟩ = some (.int .i64 v5) ∧ w'.cell? ⟨(ad.add (k * 11)).block, (ad.add (k * 11)).off + 6, none⟩ = some (.int .i64 v6) ∧ w'.cell? ⟨(ad.add (k * 11)).block, (ad.add (k * 11)).off + 7, none⟩ = some (.int .i64 v7) ∧ w'.cell? ⟨(ad.add (k * 11)).block, (ad.add (k * 11)).off + 8, none⟩ = some (.int .i64 v8) ∧ w'.cell? ⟨(ad.add (k * 11)).block, (ad.add (k * 11)).off + 9, none⟩ = some (.int .i64 v9) ∧ w'.cell? ⟨(ad.add (k * 11)).block, (ad.add (k * 11)).off + 10, none⟩ = some (.int .i64 v10))) (by kernel_rfl) (by exact uq CKH _ ((Keep.refl _).drew)) (fun hHeld => ?_)
            refine tkk 0 29 hHeld ?_; try simp only [Act.put, Ya, Yb, Yc]
            refine tkk 1 30 hHeld ?_; try simp only [Act.put, Ya, Yb, Yc]
            refine tkk 2 31 hHeld ?_; try simp only [Act.put, Ya, Yb, Yc]
            refine tkk 3 32 hHeld ?_; try simp only [Act.put, Ya, Yb, Yc]
            refine tkk 4 33 hHeld ?_; try simp only [Act.put, Ya, Yb, Yc]
            refine tkk 5 34 hHeld ?_; try simp only [Act.put, Ya, Yb, Yc]
            refine tkk 6 35 hHeld ?_; try simp only [Act.put, Ya, Yb, Yc]
            refine tkk 7 36 hHeld ?_; try simp only [Act.put, Ya, Yb, Yc]
            refine tkk 8 37 hHeld ?_; try simp only [Act.put, Ya, Yb, Yc]
            refine tkk 9 38 hHeld ?_; try simp only [Act.put, Ya, Yb, Yc]
            refine tkk 10 39 hHeld ?_; try simp only [Act.put, Ya, Yb, Yc]
            refine wpAnyH_ready (rs := [11, 15]) (by kernel_rfl) (by simp) ?_
            refine AllReadyH.cons rfl (fun K hK => ?_) (AllReadyH.cons rfl (fun K hK => ?_) AllReadyH.nil)
            · skip
              go_simp
              clear hHeld
              (refine ((uq TTk) _).mono ?_; rintro e w2 ⟨rfl, hk2⟩; obtain ⟨o2, k2, rfl⟩ := hk2.ext; clear hk2)
              try go_wp2_with fail
              refine hK.out _ _ ?_ (fun hHeld => ?_)
              · exact uq CKH _ (by repeat (first | (with_reducible exact Keep.refl _) | apply keep_ext | apply Keep.alloc | apply Keep.drew))
              clear hK K
              try simp only [Act.put, Ya, Yb, Yc]
              refine tkk 12 28 hHeld ?_; try simp only [Act.put, Ya, Yb, Yc]
              refine tkk 13 41 hHeld ?_; try simp only [Act.put, Ya, Yb, Yc]
              refine tkk 14 42 hHeld ?_; try simp only [Act.put, Ya, Yb, Yc]
              refine rdyy 15 (fun K hK => ?_)
              go_simp
              clear hHeld
              refine hK.out _ _ ?_ (fun hHeld => ?_)
              · exact uq CKH _ (by repeat (first | (with_reducible exact Keep.refl _) | apply keep_ext | apply Keep.alloc | apply Keep.drew))
              clear hK K
              try simp only [Act.put, Ya, Yb, Yc]
              refine rdyy 16 (fun K hK => ?_)
              go_simp
              clear hHeld
              refine hK.out _ _ ?_ (fun hHeld => ?_)
              · exact uq CKH _ (by repeat (first | (with_reducible exact Keep.refl _) | apply keep_ext | apply Keep.alloc | apply Keep.drew))
              clear hK K
              try simp only [Act.put, Ya, Yb, Yc]
              refine tkk 17 9 hHeld ?_; try simp only [Act.put, Ya, Yb, Yc]
              refine wpAnyH_done (by kernel_rfl) ?_ _
              clear hHeld
              go_wp2_with fail
              go_meet
              exact ⟨_, rfl, rfl, by simp <;> omega, by simp <;> omega, by simp [go_sem], by simp [go_sem], (by repeat (first | (with_reducible exact Keep.refl _) | apply keep_ext | apply Keep.alloc | apply Keep.drew))⟩
            · skip
              go_simp
              clear hHeld
              refine hK.out _ _ ?_ (fun hHeld => ?_)
              · exact uq CKH _ (by repeat (first | (with_reducible exact Keep.refl _) | apply keep_ext | apply Keep.alloc | apply Keep.drew))
              clear hK K
              try simp only [Act.put, Ya, Yb, Yc]
              refine rdyy 11 (fun K hK => ?_)
              go_simp
              clear hHeld
              (refine ((uq TTk) _).mono ?_; rintro e w2 ⟨rfl, hk2⟩; obtain ⟨o2, k2, rfl⟩ := hk2.ext; clear hk2)
              try go_wp2_with fail
              refine hK.out _ _ ?_ (fun hHeld => ?_)
              · exact uq CKH _ (by repeat (first | (with_reducible exact Keep.refl _) | apply keep_ext | apply Keep.alloc | apply Keep.drew))
              clear hK K
              try simp only [Act.put, Ya, Yb, Yc]
              refine tkk 12 28 hHeld ?_; try simp only [Act.put, Ya, Yb, Yc]
              refine tkk 13 41 hHeld ?_; try simp only [Act.put, Ya, Yb, Yc]
              refine tkk 14 42 hHeld ?_; try simp only [Act.put, Ya, Yb, Yc]
              refine rdyy 16 (fun K hK => ?_)
              go_simp
              clear hHeld
              refine hK.out _ _ ?_ (fun hHeld => ?_)
              · exact uq CKH _ (by repeat (first | (with_reducible exact Keep.refl _) | apply keep_ext | apply Keep.alloc | apply Keep.drew))
              clear hK K
              try simp only [Act.put, Ya, Yb, Yc]
              refine tkk 17 9 hHeld ?_; try simp only [Act.put, Ya, Yb, Yc]
              refine wpAnyH_done (by kernel_rfl) ?_ _
              clear hHeld
              go_wp2_with fail
              go_meet
              exact ⟨_, rfl, rfl, by simp <;> omega, by simp <;> omega, by simp [go_sem], by simp [go_sem], (by repeat (first | (with_reducible exact Keep.refl _) | apply keep_ext | apply Keep.alloc | apply Keep.drew))⟩
          case rest =>
            obtain ⟨T, hs8, hs9, hT1, hT2, m0, m1, hkc⟩ := hcut
            subst hs8 hs9
            have HKC := hide ((uq HKI).trans hkc)
            have HRW2 := hide (own_k (uq HRW) hkc)
            have hsc := Below.size hkc
            clear hkc CKH
            by_cases hz : zk = 0
            · subst hz
              have HF2 := hide (fz_no (uq HF) hkl (uq HZ))
              clear HZ
              have hk1 : k ≤ 1000 := by omega
              go_wp2_with (at_builtin; refine wpList_append_own _ rfl _ _ 33 rfl wo.heap.size 23 j0 _ 2 16 Tryz.underlying33 hj hj0 hj1 hj2 rfl (by decide) _ _ _ rfl ((uq HRW2).alloc _) ⟨wc.heap.size, 0, none⟩ 1 1 [.int .i64 xk, .int .i64 yk] rfl rfl (new_two wc _ _ _) (by simp [Value.oneCell']) (by unfold maxLen; omega) (by omega) (by simp; omega) ?_; intro v' w4 hown' hgrow hnil; have HOWN := hide hown'; have HK4 : Hid (Keep wo w4) := hide (Below.grown ((uq HKC).alloc _) hgrow (by simp; omega) (fun j ej => ((uq HRW2).lt j ej).1)); clear hown' hgrow hnil)
              go_roundw
              case rel =>
                obtain ⟨ra', rn', rc', e'⟩ := own_sl (uq HOWN)
                subst e'
                exact ⟨k + 1, ra', rn', rc', hkl, by go_num, rfl, by rw [uq HCP]; exact HOWN, HF2, HK4⟩
              case measure => simp [intOf]; omega
            · have hr1 : ZS i = zk := by
                have h := fz_yes (uq HF) hkl (by rw [uq HZ]; exact hz)
                rw [h, uq HZ]
              have hr0 : r = zk := by
                have h := fz_yes (uq HFZ) hlt (by rw [hr1]; exact hz)
                rw [h, hr1]
              have hzb : (zk != 0) = true := by simp [hz]
              have HR0 := hide hr0
              have HZ0 := hide hz
              clear hr0 hr1 hz HZ
              go_wp2_with fail
              go_ret2
              refine ⟨_, _, rfl, (uq K1).trans ((uq HK).trans (uq HKC)), ?_, .inl ⟨uq HZ0, rfl⟩⟩
              rw [uq HR, uq HR0]
        · have lk : ¬ (k : Int) < (n1 : Int) := by omega
          have e : k = n1 := by omega
          subst e
          have hzi := fz_end (uq HF) (Nat.le_refl _)
          have HF2 := hide (fz_no (uq HFZ) hlt hzi)
          have fn := (uq HNB) wr ((uq K1).trans (uq KWI))
          obtain ⟨f1, f2, f3⟩ := (uq HX) wr (uq KWI)
          have lq : q < wr.heap.size := World.block_lt_of_cell? wr _ f2
          have HRV : Hid (wr.ownsRow 0 23 2 (.slice ra rn rc) k (cp (X i) (Y i) k)) := hide (own_mono (uq HRW) (Nat.zero_le _))
          have HROW2 := hide (own_k (uq HROW) (uq HKI))
          have HTR2 := hide ((uq HTR).keep (uq HKI))
          have hsb := Below.size (uq HK)
          have hik' : i ≤ 1000 := by omega
          rw [← uq HNN] at HRV
          clear hzi HRW HF f2 f3
          go_wp2_with (at_builtin; refine wpList_append_own _ rfl _ _ 29 rfl wb.heap.size 33 i0 _ 1 24 Tryz.underlying29 hi hz0 hz1 hz2 rfl (by decide) _ _ _ rfl ((uq HROW2).alloc _) ⟨wr.heap.size, 0, none⟩ 1 1 [.slice ra rn rc] rfl rfl (new_one wr _ _) (by simp [Value.oneCell']) (by unfold maxLen; omega) (by omega) (by simp; omega) ?_; intro v' w4 hown' hgrow hnil; have HOWN := hide hown'; have HK4 : Hid (Keep wb w4) := hide (Below.grown ((uq KWI).alloc _) hgrow (by simp; omega) (fun j ej => ((uq HROW2).lt j ej).1)); have HTR4 : Hid (Tr w4 (rows ++ [.slice ra rn rc]) (i + 1) N1 X Y) := hide (Tr.grown (((uq HTR2).snoc (uq HRV)).keep ((Keep.refl wr).alloc _)) hgrow (own_blk ((uq HROW2).alloc _))); clear hown' hgrow hnil)
          go_roundw
          case rel => exact ⟨i + 1, rows ++ [.slice ra rn rc], hlt, by go_num, HOWN, HTR4, HF2, HK4⟩
          case measure => simp [intOf]; omega
    · have li : ¬ (i : Int) < (nN : Int) := by omega
      have e : i = nN := by omega
      subst e
      have hr0 := fz_end (uq HFZ) (Nat.le_refl _)
      have HR0 := hide hr0
      clear hr0
      go_wp2_with fail
      go_ret2
      exact ⟨_, _, rfl, (uq K1).trans (uq HK), by rw [uq HR, uq HR0], .inr ⟨rfl, rows, own_mono (uq HROW) (Nat.zero_le _), uq HTR⟩⟩
end W
end Go.Proofs.YtnegcifbbbmlnaaGreatDoor
