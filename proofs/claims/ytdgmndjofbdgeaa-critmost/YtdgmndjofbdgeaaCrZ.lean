/- CritMost over letters. -/
import Derived.Test.YtdgmndjofbdgeaaCrJ
import Derived.Test.YtdgmndjofbdgeaaLMath
import Derived.Test.YtdgmndjofbdgeaaCrT
import Derived.Test.YtdgmndjofbdgeaaCrR
import Derived.Deep.DrawnRows
import Derived.Deep.RegionHeld3
import Derived.Laws.AppendOwn
import Derived.Laws.OwnMore
import Derived.Laws.MakeOwn
import Derived.OwnWalk
namespace Go.Proofs.Ytdgmndjofbdgeaa
open Go.RowKit
attribute [local go_sem ↓] Go.wp_at_zero Go.wp_at_succ
set_option linter.unusedVariables false
set_option linter.unusedSimpArgs false
set_option maxRecDepth 10000
namespace Cr
open S
theorem rts_at (R : List (Int × Int)) (L : List Int) (k : Nat) (hk : k < L.length) : rts R (L.take (k + 1)) = rts R (L.take k) ++ [R.getD (L.getD k 0).toNat (0, 0)] := rts_more R L k hk
/-- what a way is met by -/
def Met (R : List (Int × Int)) (X Y : Int) (P : List Int) : Prop := ¬ sZ (rts R P) = 0 ∨ sS (rts R P) = (X, Y)
set_option maxHeartbeats 16000000 in
theorem cmost_core (s : ByteArray) (x1 : Option Addr) (n1 c1 : Nat) (x2 : Option Addr) (n2 c2 : Nat) (x3 : Option Addr) (n3 c3 : Nat) (x4 : Option Addr) (n4 c4 : Nat) (x5 : Option Addr) (n5 c5 : Nat) (p : Int) (xf : Option Addr) (nf cf : Nat) (P : Prop) (R : List (Int × Int)) (XG : Nat → Option Addr) (NG CG : Nat → Nat) (LL : List (List Int)) (PL : Nat → List Int) (X Y z : Int) (w : World) (hXY : Hid (In X ∧ In Y)) (hnL : n4 ≤ 9223372036854775807) (hLL : LL.length ≤ 1000)
    (HC : Hid (∀ k, k < n4 → ∃ ad, x4 = some ad ∧ ad.block < w.heap.size ∧ w.cell? (ad.add k) = some (.slice (XG k) (NG k) (CG k))))
    (TF : Hid (∀ w', Keep w w' → Calls Try.prog 6 #[.agg #[.string s, .slice x1 n1 c1, .slice x2 n2 c2, .slice x3 n3 c3, .slice x4 n4 c4, .slice x5 n5 c5, .int .i64 p], .slice xf nf cf] w' (Ak3 P w')))
    (TA : Hid (∀ w', Calls Try.prog 12 #[] w' fun e w'' => e = .returned (.bool true) ∧ Keep w' w''))
    (T1 : Hid (P → ∀ w', Keep w w' → Calls Try.prog 7 #[.agg #[.string s, .slice x1 n1 c1, .slice x2 n2 c2, .slice x3 n3 c3, .slice x4 n4 c4, .slice x5 n5 c5, .int .i64 p], .slice xf nf cf] w' fun e w'' => ∃ va vn vc, e = .returned (.tuple #[.agg #[.int .i64 X, .int .i64 Y, .slice va vn vc], .int .i64 z]) ∧ Keep w' w''))
    (HRN : Hid (P → Rin w xf R ∧ R.length = nf))
    (TW : Hid (P → n4 ≤ 5 → (∀ k, k < n4 → NG k ≤ 2) → z = 0 → ∀ w', Keep w w' → Calls Try.prog 13 #[.agg #[.string s, .slice x1 n1 c1, .slice x2 n2 c2, .slice x3 n3 c3, .slice x4 n4 c4, .slice x5 n5 c5, .int .i64 p], .int .i64 0] w' (Wq LL w')))
    (TY : Hid (P → n4 ≤ 5 → (∀ k, k < n4 → NG k ≤ 2) → z = 0 → ∀ k, k < LL.length → ∀ u w', Keep w w' → w'.ownsRow 0 3 1 u (LL.getD k []).length (ics (LL.getD k [])) → Calls Try.prog 14 #[.agg #[.string s, .slice x1 n1 c1, .slice x2 n2 c2, .slice x3 n3 c3, .slice x4 n4 c4, .slice x5 n5 c5, .int .i64 p], u] w' (Iq (PL k) w')))
    (HPL : Hid (P → n4 ≤ 5 → (∀ k, k < n4 → NG k ≤ 2) → z = 0 → ∀ k, k < LL.length → (PL k).length ≤ 1000 ∧ (∀ j, j < (PL k).length → ∃ m : Nat, (PL k).getD j 0 = (m : Int) ∧ m < nf) ∧ (sZ (rts R (PL k)) = 0 → ¬ 0 < gtF (sS (rts R (PL k))) (X, Y))))
    (HMT : Hid (P → n4 ≤ 5 → (∀ k, k < n4 → NG k ≤ 2) → z = 0 → ∃ k, k < LL.length ∧ Met R X Y (PL k)))
    (TS : Hid (SumK 15))
    (TC : Hid (CmpC 16)) :
    Calls Try.prog 4 #[.agg #[.string s, .slice x1 n1 c1, .slice x2 n2 c2, .slice x3 n3 c3, .slice x4 n4 c4, .slice x5 n5 c5, .int .i64 p], .slice xf nf cf] w fun e w' => e = .returned (.bool true) ∧ Keep w w' := by
  obtain ⟨i0, hi0, hz00, hz01, hz02⟩ := info_f infoF
  have hnw0 := heap_alloc_new w (.cells #[.string s, .slice x1 n1 c1, .slice x2 n2 c2, .slice x3 n3 c3, .slice x4 n4 c4, .slice x5 n5 c5, .int .i64 p] 28)
  have K0 := hide ((Keep.refl w).alloc (.cells #[.string s, .slice x1 n1 c1, .slice x2 n2 c2, .slice x3 n3 c3, .slice x4 n4 c4, .slice x5 n5 c5, .int .i64 p] 28))
  go_enter Try.func4, Try.ntmps4
  go_upto_region 1 with fail
  generalize w.alloc (.cells #[.string s, .slice x1 n1 c1, .slice x2 n2 c2, .slice x3 n3 c3, .slice x4 n4 c4, .slice x5 n5 c5, .int .i64 p] 28) = w0 at hnw0 K0 ⊢
  obtain ⟨q0, HQ0⟩ : ∃ q, Hid (w.heap.size = q) := ⟨_, hide rfl⟩
  rw [uq HQ0] at hnw0 ⊢
  have HX0 : Hid (∀ w' : World, Keep w0 w' → w'.cell? ⟨q0, 0, none⟩ = some (.string s) ∧ w'.cell? ⟨q0, 1, none⟩ = some (.slice x1 n1 c1) ∧ w'.cell? ⟨q0, 2, none⟩ = some (.slice x2 n2 c2) ∧ w'.cell? ⟨q0, 3, none⟩ = some (.slice x3 n3 c3) ∧ w'.cell? ⟨q0, 4, none⟩ = some (.slice x4 n4 c4) ∧ w'.cell? ⟨q0, 5, none⟩ = some (.slice x5 n5 c5) ∧ w'.cell? ⟨q0, 6, none⟩ = some (.int .i64 p)) := hide (fun w' k9 => by
    have h1 := k9.block q0 (Array.getElem?_eq_some_iff.1 hnw0).1
    rw [hnw0] at h1
    refine ⟨?_, ?_, ?_, ?_, ?_, ?_, ?_⟩ <;> simp [World.cell?, h1])
  clear hnw0
  obtain ⟨z0, z1, z2, z3, z4, z5, z6⟩ := (uq HX0) w0 (Keep.refl _)
  go_wp2_with fail
  (refine ((uq TF) _ (uq K0)).mono ?_; rintro e w2 ⟨b, rfl, hk9, hp9⟩; have K2 := hide hk9; have HP := hide hp9; clear hk9 hp9)
  clear z0 z1 z2 z3 z4 z5 z6
  obtain ⟨z0, z1, z2, z3, z4, z5, z6⟩ := (uq HX0) w2 (uq K2)
  cases b
  · go_wp2_with fail
    go_ret
    exact ⟨rfl, (uq K0).trans (uq K2)⟩
  · have hp := (uq HP) rfl
    replace T1 := hide ((uq T1) hp)
    replace TW := hide ((uq TW) hp)
    replace TY := hide ((uq TY) hp)
    replace HPL := hide ((uq HPL) hp)
    replace HMT := hide ((uq HMT) hp)
    obtain ⟨hrn, hnf⟩ := (uq HRN) hp
    replace HRN := hide hrn
    have HNF := hide hnf
    clear HP hp TF hrn hnf
    by_cases h5 : n4 ≤ 5
    · have l5 : ¬ (5 : Int) < (n4 : Int) := by omega
      replace TW := hide ((uq TW) h5)
      replace TY := hide ((uq TY) h5)
      replace HPL := hide ((uq HPL) h5)
      replace HMT := hide ((uq HMT) h5)
      go_wp2_with fail
      clear z0 z1 z2 z3 z4 z5 z6
      go_loopw [5] (fun vi wr => ∃ k : Nat, k ≤ n4 ∧ vi = .int .i64 (k : Int) ∧ Hid (∀ j, j < k → NG j ≤ 2) ∧ Hid (Keep w2 wr)) (fun vi _ => n4 - (intOf vi).toNat)
      case atStart => exact ⟨0, Nat.zero_le _, rfl, hide (fun j h => absurd h (Nat.not_lt_zero _)), hide (Keep.refl _)⟩
      case round =>
        obtain ⟨k, hk, rfl, HA, KW⟩ := hrel
        have K2W := hide ((uq K2).trans (uq KW))
        obtain ⟨z0, z1, z2, z3, z4, z5, z6⟩ := (uq HX0) wr (uq K2W)
        by_cases hlt : k < n4
        · have li : (k : Int) < (n4 : Int) := by omega
          obtain ⟨ad, rfl, hb, e0⟩ := (uq HC) k hlt
          have x0 := kcl ((uq K0).trans (uq K2W)) e0
          clear e0
          have HB : Hid (NG k ≤ 2 → ∀ j, j < k + 1 → NG j ≤ 2) := hide (fun h j hj => by
            rcases Nat.lt_or_ge j k with h2 | h2
            · exact (uq HA) j h2
            · obtain rfl : j = k := by omega
              exact h)
          generalize NG k = m at x0 HB
          by_cases h2 : m ≤ 2
          · have l2 : ¬ (2 : Int) < (m : Int) := by omega
            have HB2 := hide ((uq HB) h2)
            clear HB
            go_wp2_with fail
            go_roundw
            case rel => exact ⟨k + 1, hlt, by go_num, HB2, KW⟩
            case measure => simp [intOf]; omega
          · have l2 : (2 : Int) < (m : Int) := by omega
            clear HB
            go_wp2_with fail
            (refine ((uq TA) _).mono ?_; rintro e w99 ⟨rfl, hk99⟩)
            go_wp2_with fail
            go_ret
            exact ⟨rfl, (uq K0).trans ((uq K2W).trans hk99)⟩
        · have li : ¬ (k : Int) < (n4 : Int) := by omega
          have hall : ∀ j, j < n4 → NG j ≤ 2 := fun j hj => (uq HA) j (by omega)
          replace TW := hide ((uq TW) hall)
          replace TY := hide ((uq TY) hall)
          replace HPL := hide ((uq HPL) hall)
          replace HMT := hide ((uq HMT) hall)
          clear hall HA
          go_wp2_with fail
          (refine ((uq T1) _ ((uq K0).trans (uq K2W))).mono ?_; rintro e w3 ⟨va, vn, vc, rfl, hk9⟩; have K3 := hide ((uq K2W).trans hk9); clear hk9)
          clear z0 z1 z2 z3 z4 z5 z6
          have hb3 := heap_alloc_new w3 (.cells #[.int .i64 X, .int .i64 Y, .slice va vn vc] 35)
          have K4 := hide ((uq K3).alloc (.cells #[.int .i64 X, .int .i64 Y, .slice va vn vc] 35))
          go_upto_region 9 with fail
          generalize w3.alloc (.cells #[.int .i64 X, .int .i64 Y, .slice va vn vc] 35) = w4 at hb3 K4 ⊢
          generalize w3.heap.size = qa at hb3 ⊢
          have B4 := hide hb3
          clear hb3
          by_cases hz : z = 0
          · subst hz
            replace TW := hide ((uq TW) (by first | rfl | trivial))
            replace TY := hide ((uq TY) (by first | rfl | trivial))
            replace HPL := hide ((uq HPL) (by first | rfl | trivial))
            replace HMT := hide ((uq HMT) (by first | rfl | trivial))
            obtain ⟨z0, z1, z2, z3, z4, z5, z6⟩ := (uq HX0) w4 (uq K4)
            go_wp2_with fail
            (refine ((uq TW) _ ((uq K0).trans (uq K4))).mono ?_; rintro e w5 ⟨la, lc, rfl, hk9, hw9⟩; have M5 := hide hk9; have WR := hide hw9; clear hk9 hw9)
            clear z0 z1 z2 z3 z4 z5 z6
            have K5 := hide ((uq K4).trans (uq M5))
            obtain ⟨nl, hnl⟩ : ∃ n, LL.length = n := ⟨_, rfl⟩
            have HNL := hide hnl
            rw [hnl] at hLL ⊢
            clear hnl
            go_wp2_with fail
            go_loopw [9, 10] (fun vb vi wr => ∃ (k : Nat) (b : Bool), k ≤ nl ∧ vi = .int .i64 (k : Int) ∧ vb = .bool b ∧ Hid (b = true ∨ ∀ j, j < k → ¬ Met R X Y (PL j)) ∧ Hid (Keep w5 wr)) (fun vb vi _ => nl - (intOf vi).toNat)
            case atStart => exact ⟨0, false, Nat.zero_le _, rfl, rfl, hide (.inr fun j h => absurd h (Nat.not_lt_zero _)), hide (Keep.refl _)⟩
            case round =>
              obtain ⟨k, b, hk, rfl, rfl, HB, KW⟩ := hrel
              have K5W := hide ((uq K5).trans (uq KW))
              by_cases hlt : k < nl
              · skip
                have lk : (k : Int) < (nl : Int) := by omega
                have hkl : k < LL.length := by have := uq HNL; omega
                obtain ⟨ad, u, rfl, hb, c0, hu⟩ := (uq WR) k hkl
                obtain ⟨ua, uc, rfl⟩ := own_l hu
                have TYk := hide (fun w' (k' : Keep wr w') => (uq TY) k hkl (.slice ua (LL.getD k []).length uc) w' ((uq K0).trans ((uq K5W).trans k')) (own_k hu ((uq KW).trans k')))
                obtain ⟨hp1, hp2, hp3⟩ := (uq HPL) k hkl
                have HP2 := hide hp2
                have HP3 := hide hp3
                clear hp2 hp3
                have HMK : Hid (∀ b2 : Bool, (b2 = true ∨ (b = b2 ∧ ¬ Met R X Y (PL k))) → (b2 = true ∨ ∀ j, j < k + 1 → ¬ Met R X Y (PL j))) := hide (fun b2 h => by
                  rcases h with h | ⟨rfl, h⟩
                  · exact .inl h
                  · rcases uq HB with h2 | h2
                    · exact .inl h2
                    · refine .inr fun j hj => ?_
                      rcases Nat.lt_or_ge j k with h3 | h3
                      · exact h2 j h3
                      · obtain rfl : j = k := by omega
                        exact h)
                clear hu
                generalize (LL.getD k []).length = un at c0 TYk
                generalize PL k = pk at hp1 HP2 HP3 HMK TYk
                have HS : Hid (∀ w' : World, Keep wr w' → w'.cell? ⟨q0, 0, none⟩ = some (.string s) ∧ w'.cell? ⟨q0, 1, none⟩ = some (.slice x1 n1 c1) ∧ w'.cell? ⟨q0, 2, none⟩ = some (.slice x2 n2 c2) ∧ w'.cell? ⟨q0, 3, none⟩ = some (.slice x3 n3 c3) ∧ w'.cell? ⟨q0, 4, none⟩ = some (.slice x4 n4 c4) ∧ w'.cell? ⟨q0, 5, none⟩ = some (.slice x5 n5 c5) ∧ w'.cell? ⟨q0, 6, none⟩ = some (.int .i64 p) ∧ w'.cell? (ad.add k) = some (.slice ua un uc)) := hide (fun w' k9 => by
                  obtain ⟨a0, a1, a2, a3, a4, a5, a6⟩ := (uq HX0) w' ((uq K5W).trans k9)
                  exact ⟨a0, a1, a2, a3, a4, a5, a6, kcl ((uq KW).trans k9) c0⟩)
                clear c0
                go_upto_region 16 with fail
                refine wp_region_held_drew (S := fun w' => w'.cell? ⟨q0, 0, none⟩ = some (.string s) ∧ w'.cell? ⟨q0, 1, none⟩ = some (.slice x1 n1 c1) ∧ w'.cell? ⟨q0, 2, none⟩ = some (.slice x2 n2 c2) ∧ w'.cell? ⟨q0, 3, none⟩ = some (.slice x3 n3 c3) ∧ w'.cell? ⟨q0, 4, none⟩ = some (.slice x4 n4 c4) ∧ w'.cell? ⟨q0, 5, none⟩ = some (.slice x5 n5 c5) ∧ w'.cell? ⟨q0, 6, none⟩ = some (.int .i64 p) ∧ w'.cell? (ad.add k) = some (.slice ua un uc)) (by kernel_rfl) (by exact (uq HS) _ ((Keep.refl wr).drew)) (fun hHeld => ?_)
                refine tkk 0 59 hHeld ?_; try simp only [Act.put, Ya, Yb, Yc]
                refine tkk 1 60 hHeld ?_; try simp only [Act.put, Ya, Yb, Yc]
                refine tkk 2 61 hHeld ?_; try simp only [Act.put, Ya, Yb, Yc]
                refine tkk 3 62 hHeld ?_; try simp only [Act.put, Ya, Yb, Yc]
                refine tkk 4 63 hHeld ?_; try simp only [Act.put, Ya, Yb, Yc]
                refine rdyy 5 (fun K hK => ?_)
                go_simp
                clear hHeld
                (refine ((uq TYk) _ ((Keep.refl wr).drew)).mono ?_; rintro e w7 ⟨v7, rfl, hk9, ho9⟩; have M7 := hide ((Keep.refl wr).drew.trans hk9); obtain ⟨pa, pc, rfl⟩ := own_l ho9; have HI7 := hide (is_own ho9); clear hk9 ho9)
                try go_wp2_with fail
                refine hK.out _ _ ?_ (fun hHeld => ?_)
                · exact (uq HS) _ (uq M7)
                clear hK K
                try simp only [Act.put, Ya, Yb, Yc]
                refine tkk 6 11 hHeld ?_; try simp only [Act.put, Ya, Yb, Yc]
                refine wpAnyH_done (by kernel_rfl) ?_ _
                clear hHeld
                clear HS
                have K7 := hide ((uq KW).trans (uq M7))
                obtain ⟨wo, hwo⟩ : ∃ wo, wo = wr := ⟨_, rfl⟩
                subst hwo
                have HPC : Hid (∀ j, j < pk.length → ∃ bd m, pa = some bd ∧ w7.cell? (bd.add j) = some (.int .i64 ((m : Nat) : Int)) ∧ m < nf ∧ (pk.getD j 0).toNat = m) := hide (fun j hj => by
                  obtain ⟨a1, c1, e1, h1⟩ := uq HI7
                  injection e1 with e1
                  subst e1
                  obtain ⟨bd, f1, _, f2⟩ := h1 j hj
                  obtain ⟨m, e2, e3⟩ := (uq HP2) j hj
                  rw [e2] at f2
                  exact ⟨bd, m, f1, f2, e3, by rw [e2]; simp⟩)
                obtain ⟨np, hnp⟩ : ∃ n, pk.length = n := ⟨_, rfl⟩
                have HNP := hide hnp
                rw [hnp] at HPC hp1 ⊢
                clear hnp HI7 HP2
                go_wp2_with fail
                go_loopw [12, 13] (fun vr vj wr => ∃ j : Nat, j ≤ np ∧ vj = .int .i64 (j : Int) ∧ Hid (wr.ownsRow w7.heap.size 32 2 vr j (fcs (rts R (pk.take j)))) ∧ Hid (Keep w7 wr)) (fun vr vj _ => np - (intOf vj).toNat)
                case atStart => exact ⟨0, Nat.zero_le _, rfl, hide (World.ownsRow_nil _ _ _ _), hide (Keep.refl _)⟩
                case round =>
                  obtain ⟨j, hj, rfl, HO, KR⟩ := hrel
                  by_cases hjl : j < np
                  · have lj : (j : Int) < (np : Int) := by omega
                    obtain ⟨bd, m, rfl, f1, f2, f3⟩ := (uq HPC) j hjl
                    have y0 := kcl (uq KR) f1
                    obtain ⟨rd, rfl, _, g1, g2⟩ := (uq HRN).HF m (by have := uq HNF; omega)
                    have K9 := hide ((uq K0).trans ((uq K5).trans ((uq K7).trans (uq KR))))
                    have y1 := kcl (uq K9) g1
                    have y2 := kcl (uq K9) g2
                    have HFS : Hid (fcs (rts R (pk.take (j + 1))) = fcs (rts R (pk.take j)) ++ [.int .i64 (R.getD m (0, 0)).1, .int .i64 (R.getD m (0, 0)).2]) := hide (by rw [rts_at R pk j (by have := uq HNP; omega), fcs_app, f3]; rfl)
                    clear f1 f3 g1 g2
                    generalize (R.getD m (0, 0)).1 = r1 at y1 HFS
                    generalize (R.getD m (0, 0)).2 = r2 at y2 HFS
                    have lm : (m : Int) < (nf : Int) := by omega
                    go_wp2_with (at_builtin; refine wpList_append_own _ rfl _ _ 29 rfl w7.heap.size 32 i0 _ 2 16 Try.underlying29 hi0 hz00 hz01 hz02 rfl (by decide) _ _ _ rfl ((uq HO).alloc _) ⟨wr.heap.size, 0, none⟩ 1 1 [.int .i64 r1, .int .i64 r2] rfl rfl (new_v wr [.int .i64 r1, .int .i64 r2] _) (by simp [Value.oneCell']) (by unfold maxLen; omega) (by omega) (by have := Below.size (uq KR); first | (simp; done) | (simp; omega)) ?_; intro v' w8 hown' hgrow hnil; have HO8 := hide hown'; have HG8 := hide hgrow; clear hown' hgrow hnil)
                    have K8 : Hid (Keep w7 w8) := hide (Below.grown ((uq KR).alloc (.cells #[.int .i64 r1, .int .i64 r2] 32)) (uq HG8) (by have := Below.size (uq KR); first | (simp; done) | (simp; omega)) (fun j ej => ((uq HO).lt j ej).1))
                    go_roundw
                    case rel => exact ⟨j + 1, hjl, by go_num, hide (by rw [uq HFS]; exact uq HO8), K8⟩
                    case measure => simp [intOf]; omega
                  · have lj : ¬ (j : Int) < (np : Int) := by omega
                    obtain rfl : j = np := by omega
                    have hta : pk.take j = pk := List.take_of_length_le (by have := uq HNP; omega)
                    rw [hta] at HO
                    have hrl : (rts R pk).length = j := by rw [rts_len]; exact uq HNP
                    have TK := hide ((uq TS) _ (rts R pk) wr (frs_own (by rw [hrl]; exact uq HO) (fun x hx => by
                      unfold rts at hx
                      obtain ⟨a, _, rfl⟩ := List.mem_map.1 hx
                      rcases Nat.lt_or_ge a.toNat R.length with h | h
                      · exact (uq HRN).HI _ (getD_mem h)
                      · rw [List.getD_eq_getElem?_getD, List.getElem?_eq_none h]; exact ⟨by show In 0; unfold In; omega, by show In 0; unfold In; omega⟩)) (by omega))
                    have HSI := hide (sS_in (rts R pk))
                    have HM1 : Hid (Met R X Y pk ↔ ¬ sZ (rts R pk) = 0 ∨ sS (rts R pk) = (X, Y)) := hide Iff.rfl
                    obtain ⟨ra, rc, rfl⟩ := own_l (uq HO)
                    clear hta hrl
                    generalize sZ (rts R pk) = sz at TK HP3 HM1
                    generalize sS (rts R pk) = sq at TK HP3 HSI HM1
                    obtain ⟨sx, sy⟩ := sq
                    simp only at TK HSI
                    have TCk := hide (fun w9 => (uq TC) (sx, sy) (X, Y) w9 (uq HSI).1 (uq HSI).2 (uq hXY).1 (uq hXY).2)
                    simp only at TCk
                    generalize gtF (sx, sy) (X, Y) = gv at TCk HP3
                    go_wp2_with fail
                    (refine (uq TK).mono ?_; rintro e w9 ⟨rfl, hk9⟩; have K9 := hide ((uq K7).trans ((uq KR).trans hk9)); clear hk9)
                    have hb9 := heap_alloc_new w9 (.cells #[.int .i64 sx, .int .i64 sy] 32)
                    have K10 := hide ((uq K9).alloc (.cells #[.int .i64 sx, .int .i64 sy] 32))
                    go_upto_region 23 with fail
                    generalize w9.alloc (.cells #[.int .i64 sx, .int .i64 sy] 32) = w10 at hb9 K10 ⊢
                    generalize w9.heap.size = qs at hb9 ⊢
                    have m0 : w10.cell? ⟨qs, 0, none⟩ = some (.int .i64 sx) := by simp [World.cell?, hb9]
                    have m1 : w10.cell? ⟨qs, 1, none⟩ = some (.int .i64 sy) := by simp [World.cell?, hb9]
                    clear hb9
                    have Ba := ((uq M5).trans (uq K10)).block qa (Array.getElem?_eq_some_iff.1 (uq B4)).1
                    rw [uq B4] at Ba
                    have a0 : w10.cell? ⟨qa, 0, none⟩ = some (.int .i64 X) := by simp [World.cell?, Ba]
                    have a1 : w10.cell? ⟨qa, 1, none⟩ = some (.int .i64 Y) := by simp [World.cell?, Ba]
                    clear Ba
                    by_cases hsz : sz = 0
                    · have HGV := hide ((uq HP3) hsz)
                      subst hsz
                      go_wp2_with fail
                      (refine ((uq TCk) _).mono ?_; rintro e w11 ⟨rfl, hk9⟩)
                      have n0 := kcl hk9 m0
                      have n1 := kcl hk9 m1
                      have c0 := kcl hk9 a0
                      have c1 := kcl hk9 a1
                      have K11 := hide ((uq K10).trans hk9)
                      clear hk9 m0 m1 a0 a1
                      have hgv : ¬ 0 < gv := by have := uq HGV; omega
                      have hgd : decide (0 < gv) = false := decide_eq_false hgv
                      cases b
                      · by_cases e1 : sx = X
                        · by_cases e2 : sy = Y
                          · subst e1 e2
                            go_wp2_with fail
                            go_roundw
                            case rel => exact ⟨k + 1, true, hlt, by go_num, rfl, hide (.inl rfl), K11⟩
                            case measure => simp [intOf]; omega
                          · have HNM : Hid (¬ Met R X Y pk) := hide (fun h => by rcases (uq HM1).1 h with h | h; (first | exact absurd rfl h | exact absurd trivial h); (injection h with h1 h2; exact e2 h2))
                            subst e1
                            go_wp2_with fail
                            go_roundw
                            case rel => exact ⟨k + 1, false, hlt, by go_num, rfl, hide ((uq HMK) false (.inr ⟨rfl, uq HNM⟩)), K11⟩
                            case measure => simp [intOf]; omega
                        · have HNM : Hid (¬ Met R X Y pk) := hide (fun h => by rcases (uq HM1).1 h with h | h; (first | exact absurd rfl h | exact absurd trivial h); (injection h with h1 h2; exact e1 h1))
                          go_wp2_with fail
                          go_roundw
                          case rel => exact ⟨k + 1, false, hlt, by go_num, rfl, hide ((uq HMK) false (.inr ⟨rfl, uq HNM⟩)), K11⟩
                          case measure => simp [intOf]; omega
                      · go_wp2_with fail
                        go_roundw
                        case rel => exact ⟨k + 1, true, hlt, by go_num, rfl, hide (.inl rfl), K11⟩
                        case measure => simp [intOf]; omega
                    · have hzb : (sz != 0) = true := by simpa using hsz
                      go_wp2_with fail
                      go_roundw
                      case rel => exact ⟨k + 1, true, hlt, by go_num, rfl, hide (.inl rfl), K10⟩
                      case measure => simp [intOf]; omega
              · have lk : ¬ (k : Int) < (nl : Int) := by omega
                obtain rfl : b = true := by
                  rcases uq HB with h | h
                  · exact h
                  · obtain ⟨j, h1, h2⟩ := uq HMT
                    exact absurd h2 (h j (by have := uq HNL; omega))
                go_wp2_with fail
                (refine ((uq TA) _).mono ?_; rintro e w99 ⟨rfl, hk99⟩)
                go_wp2_with fail
                go_ret
                exact ⟨rfl, (uq K0).trans ((uq K5W).trans hk99)⟩
          · have hzb : (z != 0) = true := by simpa using hz
            go_wp2_with fail
            (refine ((uq TA) _).mono ?_; rintro e w99 ⟨rfl, hk99⟩)
            go_wp2_with fail
            go_ret
            exact ⟨rfl, (uq K0).trans ((uq K4).trans hk99)⟩
    · have l5 : (5 : Int) < (n4 : Int) := by omega
      go_wp2_with fail
      go_ret
      exact ⟨rfl, (uq K0).trans (uq K2)⟩
end Cr
end Go.Proofs.Ytdgmndjofbdgeaa
