/- Few of one node, over trees. -/
import Derived.Test.YtdgmndjofbdgeaaCrN
import Derived.Test.YtdgmndjofbdgeaaLMath
import Derived.Deep.DrawnRows
import Derived.Deep.RegionHeld
import Derived.Test.YtdgmndjofbdgeaaProg
import Derived.Test.YtdgmndjofbdgeaaLSkip
import Derived.Test.YtdgmndjofbdgeaaNVal
import Derived.Maps.OwnSet
import Derived.WalkKit
import Derived.ProofKit
import Derived.Deep.RegionHeld3
import Derived.Test.YtdgmndjofbdgeaaVFew
import Derived.Maps.OwnOps
import Derived.Maps.AppendAt
namespace Go.Proofs.Ytdgmndjofbdgeaa
open Go.RowKit
attribute [local go_sem ↓] Go.wp_at_zero Go.wp_at_succ
set_option linter.unusedVariables false
set_option linter.unusedSimpArgs false
set_option maxRecDepth 10000
namespace S
/-- few phases, groups, rings, names -/
def FewN (ds : List D) : Prop := (fL (gt ds 3)).length ≤ 50 ∧ (fL (gt ds 4)).length ≤ 50 ∧ ∀ k, k < (fL (gt ds 4)).length → (fL (gt ((fL (gt ds 4)).getD k []) 0)).length ≤ 5 ∧ ∀ j, j < (fL (gt ((fL (gt ds 4)).getD k []) 0)).length → (fL (gt ((fL (gt ((fL (gt ds 4)).getD k []) 0)).getD j []) 1)).length ≤ 50
theorem fnode3_any {w : World} {ds : List D} {us : List Value} (hs : ShL nodeT ds) (hr : Rvs w ds us) : Calls Try.prog 42 #[.agg us.toArray] w (Ak3 (FewN ds) w) := by
  simp only [ShL, Sh1, nodeT] at hs
  obtain ⟨_, _, rfl, ⟨s0, rfl, _⟩, ⟨_, _, rfl, ⟨L1, rfl, _, q1⟩, ⟨_, _, rfl, ⟨L2, rfl, _, q2⟩, ⟨_, _, rfl, ⟨L3, rfl, _, q3⟩, ⟨_, _, rfl, ⟨L4, rfl, _, q4⟩, ⟨_, _, rfl, ⟨L5, rfl, _, q5⟩, ⟨_, _, rfl, ⟨v6, rfl, _, _⟩, rfl⟩⟩⟩⟩⟩⟩⟩ := hs
  simp only [Rvs, Rv, dS, dI, dB] at hr
  obtain ⟨_, _, rfl, rfl, ⟨_, _, rfl, ⟨x1, z1, rfl, y1, m1⟩, ⟨_, _, rfl, ⟨x2, z2, rfl, y2, m2⟩, ⟨_, _, rfl, ⟨x3, z3, rfl, y3, m3⟩, ⟨_, _, rfl, ⟨x4, z4, rfl, y4, m4⟩, ⟨_, _, rfl, ⟨x5, z5, rfl, y5, m5⟩, ⟨_, _, rfl, rfl, rfl⟩⟩⟩⟩⟩⟩⟩ := hr
  have hp : w.heap.size ≤ w.heap.size := Nat.le_refl _
  have hF := Keep.refl w
  refine fnode3_core (sv s0) x1 L1.length z1 x2 L2.length z2 x3 L3.length z3 x4 L4.length z4 x5 L5.length z5 v6 (fun k => sv (tS (gt (L1.getD k []) 0))) (fun k => sv (tS (gt (L2.getD k []) 0))) (fun k => sv (tS (gt (L2.getD k []) 1))) (fun k => sv (tS (gt (L3.getD k []) 0))) (fun k => sv (tS (gt (L5.getD k []) 0))) (fun k => sv (tS (gt (L5.getD k []) 1))) (sA w x3 3 1) (sN w x3 3 1) (sC w x3 3 1) (sA w x4 1 0) (sN w x4 1 0) (sC w x4 1 0) (fun k j => sA w (sA w x4 1 0 k) 2 1 j) (fun k j => sN w (sA w x4 1 0 k) 2 1 j) (fun k j => sC w (sA w x4 1 0 k) 2 1 j) _ w (hide fun h3 h4 h5 => ?_) (hide strs3_any) (hide fun k hk => ?_) (hide fun k hk => ?_) (hide fun k hk => ?_) (hide fun k hk => ?_) (hide fun k hk => ?_) (hide fun k hk j hj => ?_) (hide fun k hk => ?_)
  · refine ⟨h3, h4, fun k hk => ?_⟩
    obtain ⟨r1, r2, r3, r4⟩ := rsGroup q4 m4 k hk
    obtain ⟨g1, g2⟩ := h5 k hk
    rw [r1] at g1 g2
    refine ⟨g1, fun j hj => ?_⟩
    obtain ⟨t1, t2, t3, t4⟩ := rsRow r4 r3 j hj
    have := g2 j hj
    rw [t1] at this
    exact this
  · obtain ⟨ad, e, _, h0, _⟩ := clHead hF q1 m1 k hk
    exact ⟨ad, e, h0⟩
  · obtain ⟨ad, e, _, h0, h1, _⟩ := clPed hF q2 m2 k hk
    exact ⟨ad, e, h0, h1⟩
  · obtain ⟨ad, e, _, h0, h1, _⟩ := clPhase hF q3 m3 k hk
    exact ⟨ad, e, h0, h1⟩
  · obtain ⟨r1, r2, r3, r4⟩ := rsPhase q3 m3 k hk
    rw [r1]
    exact rw_tree r4 r3 r2
  · obtain ⟨ad, e, _, h0⟩ := clGroup hF q4 m4 k hk
    exact ⟨ad, e, h0⟩
  · obtain ⟨r1, r2, r3, r4⟩ := rsGroup q4 m4 k hk
    rw [r1] at hj
    obtain ⟨ad, e, _, _, h1⟩ := clRow hF r4 r3 j hj
    obtain ⟨t1, t2, t3, t4⟩ := rsRow r4 r3 j hj
    refine ⟨ad, e, h1, ?_⟩
    show Rw w (.slice _ (sN w (sA w x4 1 0 k) 2 1 j) _)
    rw [t1]
    exact rw_tree t4 t3 t2
  · obtain ⟨ad, e, _, h0, h1, _⟩ := clFoe hF q5 m5 k hk
    exact ⟨ad, e, h0, h1⟩
set_option maxHeartbeats 16000000 in
theorem few3_core (v0 v1 v2 v3 v4 : Int) (a5 : Option Addr) (n5 c5 : Nat) (a6 : Option Addr) (n6 c6 : Nat) (v7 v8 : Int) (S0 : Nat → ByteArray) (A1 : Nat → Option Addr) (N1 C1 : Nat → Nat) (A2 : Nat → Option Addr) (N2 C2 : Nat → Nat) (A3 : Nat → Option Addr) (N3 C3 : Nat → Nat) (A4 : Nat → Option Addr) (N4 C4 : Nat → Nat) (A5 : Nat → Option Addr) (N5 C5 : Nat → Nat) (V6 : Nat → Int) (X6 Y6 Z6 : Nat → ByteArray) (PN : Nat → Prop) (w : World)
    (TS : Hid (∀ v w', Rw w' v → Calls Try.prog 43 #[v] w' (Ab w')))
    (TN : Hid (∀ k, k < n5 → ∀ w', Keep w w' → Calls Try.prog 42 #[.agg #[.string (S0 k), .slice (A1 k) (N1 k) (C1 k), .slice (A2 k) (N2 k) (C2 k), .slice (A3 k) (N3 k) (C3 k), .slice (A4 k) (N4 k) (C4 k), .slice (A5 k) (N5 k) (C5 k), .int .i64 (V6 k)]] w' (Ak3 (PN k) w')))
    (HC5 : Hid (∀ k, k < n5 → ∃ ad, a5 = some ad ∧ w.cell? (ad.add (k * 7)) = some (.string (S0 k)) ∧ w.cell? ⟨(ad.add (k * 7)).block, (ad.add (k * 7)).off + 1, none⟩ = some (.slice (A1 k) (N1 k) (C1 k)) ∧ w.cell? ⟨(ad.add (k * 7)).block, (ad.add (k * 7)).off + 2, none⟩ = some (.slice (A2 k) (N2 k) (C2 k)) ∧ w.cell? ⟨(ad.add (k * 7)).block, (ad.add (k * 7)).off + 3, none⟩ = some (.slice (A3 k) (N3 k) (C3 k)) ∧ w.cell? ⟨(ad.add (k * 7)).block, (ad.add (k * 7)).off + 4, none⟩ = some (.slice (A4 k) (N4 k) (C4 k)) ∧ w.cell? ⟨(ad.add (k * 7)).block, (ad.add (k * 7)).off + 5, none⟩ = some (.slice (A5 k) (N5 k) (C5 k)) ∧ w.cell? ⟨(ad.add (k * 7)).block, (ad.add (k * 7)).off + 6, none⟩ = some (.int .i64 (V6 k))))
    (HC6 : Hid (∀ k, k < n6 → ∃ ad, a6 = some ad ∧ w.cell? (ad.add (k * 6)) = some (.string (X6 k)) ∧ w.cell? ⟨(ad.add (k * 6)).block, (ad.add (k * 6)).off + 1, none⟩ = some (.string (Y6 k)) ∧ w.cell? ⟨(ad.add (k * 6)).block, (ad.add (k * 6)).off + 2, none⟩ = some (.string (Z6 k)))) :
    Calls Try.prog 21 #[.agg #[.int .i64 v0, .int .i64 v1, .int .i64 v2, .int .i64 v3, .int .i64 v4, .slice a5 n5 c5, .slice a6 n6 c6, .int .i64 v7, .int .i64 v8]] w (Ak3 (∀ k, k < n5 → PN k) w) := by
  have HK0 := hide ((Keep.refl w).alloc (.cells #[.int .i64 v0, .int .i64 v1, .int .i64 v2, .int .i64 v3, .int .i64 v4, .slice a5 n5 c5, .slice a6 n6 c6, .int .i64 v7, .int .i64 v8] 60))
  have HB0 : Hid ((w.alloc (.cells #[.int .i64 v0, .int .i64 v1, .int .i64 v2, .int .i64 v3, .int .i64 v4, .slice a5 n5 c5, .slice a6 n6 c6, .int .i64 v7, .int .i64 v8] 60)).heap[w.heap.size]? = some (.cells #[.int .i64 v0, .int .i64 v1, .int .i64 v2, .int .i64 v3, .int .i64 v4, .slice a5 n5 c5, .slice a6 n6 c6, .int .i64 v7, .int .i64 v8] 60 (0, 0))) := hide (heap_alloc_new w _)
  go_enter Try.func21, Try.ntmps21
  go_upto_region 1 with fail
  generalize w.alloc (.cells #[.int .i64 v0, .int .i64 v1, .int .i64 v2, .int .i64 v3, .int .i64 v4, .slice a5 n5 c5, .slice a6 n6 c6, .int .i64 v7, .int .i64 v8] 60) = w0 at HK0 HB0 ⊢
  obtain ⟨gb, HGB⟩ : ∃ gb, Hid (w.heap.size = gb) := ⟨_, rfl⟩
  rw [uq HGB] at HB0 ⊢
  have z5 : w0.cell? ⟨gb, 5, none⟩ = some (.slice a5 n5 c5) := by simp [World.cell?, uq HB0]
  have z6 : w0.cell? ⟨gb, 6, none⟩ = some (.slice a6 n6 c6) := by simp [World.cell?, uq HB0]
  by_cases g1 : (15 : Int) < (n5 : Int)
  · go_wp2_with fail
    go_ret
    exact ⟨_, rfl, uq HK0, fun h => by cases h⟩
  by_cases g2 : (15 : Int) < (n6 : Int)
  · go_wp2_with fail
    go_ret
    exact ⟨_, rfl, uq HK0, fun h => by cases h⟩
  have HNN : Hid (n5 ≤ 15 ∧ n6 ≤ 15) := hide (by omega)
  go_wp2_with fail
  clear g1 g2 z5 z6
  go_loopw [3] (fun vi wr => ∃ k : Nat, k ≤ n5 ∧ vi = .int .i64 (k : Int) ∧ Hid (∀ j, j < k → PN j) ∧ Hid (Keep w wr) ∧ Hid (wr.heap[gb]? = some (.cells #[.int .i64 v0, .int .i64 v1, .int .i64 v2, .int .i64 v3, .int .i64 v4, .slice a5 n5 c5, .slice a6 n6 c6, .int .i64 v7, .int .i64 v8] 60 (0, 0)))) (fun vi _ => n5 - (intOf vi).toNat)
  case atStart => exact ⟨0, Nat.zero_le _, rfl, hide (fun j hj => by omega), HK0, HB0⟩
  case round =>
    obtain ⟨k, hk, rfl, HA, HK, HB⟩ := hrel
    have z5 : wr.cell? ⟨gb, 5, none⟩ = some (.slice a5 n5 c5) := by simp [World.cell?, uq HB]
    by_cases hlt : k < n5
    · have li : (k : Int) < (n5 : Int) := by omega
      have hk9 : k ≤ 100 := by have := uq HNN; omega
      have HT := hide ((uq TN) k hlt wr (uq HK))
      obtain ⟨ad, rfl, e0, e1, e2, e3, e4, e5, e6⟩ := (uq HC5) k hlt
      have x0 := Q.kcell (uq HK) e0
      have x1 := Q.kcell (uq HK) e1
      have x2 := Q.kcell (uq HK) e2
      have x3 := Q.kcell (uq HK) e3
      have x4 := Q.kcell (uq HK) e4
      have x5 := Q.kcell (uq HK) e5
      have x6 := Q.kcell (uq HK) e6
      clear e0 e1 e2 e3 e4 e5 e6
      go_wp2_with fail
      (refine (uq HT).mono ?_; rintro e w5 ⟨b, rfl, hk5, hp5⟩; have HK5 := hide hk5; have HP5 := hide hp5; clear hk5 hp5)
      cases b
      · go_wp2_with fail
        go_ret
        exact ⟨_, rfl, (uq HK).trans (uq HK5), fun h => by cases h⟩
      · go_wp2_with fail
        go_roundw
        case rel => exact ⟨k + 1, hlt, by go_num, hide (fun j hj => by
          rcases Nat.lt_or_ge j k with h | h
          · exact (uq HA) j h
          · have : j = k := by omega
            subst this
            first | exact (uq HP5) trivial | exact (uq HP5) rfl), hide ((uq HK).trans (uq HK5)), hide (((uq HK5).block gb (Array.getElem?_eq_some_iff.1 (uq HB)).1).trans (uq HB))⟩
        case measure => simp [intOf]; omega
    · have li : ¬ (k : Int) < (n5 : Int) := by omega
      have HALL : Hid (∀ j, j < n5 → PN j) := hide (fun j hj => (uq HA) j (by omega))
      clear hlt hk HA
      go_wp2_with fail
      go_loopw [4] (fun vi wr => ∃ k : Nat, k ≤ n6 ∧ vi = .int .i64 (k : Int) ∧ Hid (Keep w wr) ∧ Hid (wr.heap[gb]? = some (.cells #[.int .i64 v0, .int .i64 v1, .int .i64 v2, .int .i64 v3, .int .i64 v4, .slice a5 n5 c5, .slice a6 n6 c6, .int .i64 v7, .int .i64 v8] 60 (0, 0)))) (fun vi _ => n6 - (intOf vi).toNat)
      case atStart => exact ⟨0, Nat.zero_le _, rfl, HK, HB⟩
      case round =>
        obtain ⟨k, hk, rfl, HK, HB⟩ := hrel
        have z6 : wr.cell? ⟨gb, 6, none⟩ = some (.slice a6 n6 c6) := by simp [World.cell?, uq HB]
        by_cases hlt : k < n6
        · have li : (k : Int) < (n6 : Int) := by omega
          have hk9 : k ≤ 100 := by have := uq HNN; omega
          obtain ⟨ad, rfl, e0, e1, e2⟩ := (uq HC6) k hlt
          have x0 := Q.kcell (uq HK) e0
          have x1 := Q.kcell (uq HK) e1
          have x2 := Q.kcell (uq HK) e2
          clear e0 e1 e2
          generalize X6 k = X at x0
          generalize Y6 k = Y at x1
          generalize Z6 k = Z at x2
          have HSX : Hid (∀ w', Keep wr w' → w'.cell? ⟨gb, 6, none⟩ = some (.slice (some ad) n6 c6) ∧ w'.cell? (ad.add (k * 6)) = some (.string X) ∧ w'.cell? ⟨(ad.add (k * 6)).block, (ad.add (k * 6)).off + 1, none⟩ = some (.string Y) ∧ w'.cell? ⟨(ad.add (k * 6)).block, (ad.add (k * 6)).off + 2, none⟩ = some (.string Z)) := hide (fun w' k9 => ⟨Q.kcell k9 z6, Q.kcell k9 x0, Q.kcell k9 x1, Q.kcell k9 x2⟩)
          go_upto_region 11 with fail
          refine wp_region_held_drew (S := fun w' => w'.cell? ⟨gb, 6, none⟩ = some (.slice (some ad) n6 c6) ∧ w'.cell? (ad.add (k * 6)) = some (.string X) ∧ w'.cell? ⟨(ad.add (k * 6)).block, (ad.add (k * 6)).off + 1, none⟩ = some (.string Y) ∧ w'.cell? ⟨(ad.add (k * 6)).block, (ad.add (k * 6)).off + 2, none⟩ = some (.string Z)) (by kernel_rfl) (by exact (uq HSX) _ (by repeat (first | apply Keep.alloc | apply Keep.drew | exact Keep.refl _))) (fun hHeld => ?_)
          refine tkk 0 36 hHeld ?_; try simp only [Act.put, Ya, Yb, Yc]
          refine tkk 1 37 hHeld ?_; try simp only [Act.put, Ya, Yb, Yc]
          refine tkk 2 38 hHeld ?_; try simp only [Act.put, Ya, Yb, Yc]
          refine tkk 3 39 hHeld ?_; try simp only [Act.put, Ya, Yb, Yc]
          refine tkk 4 40 hHeld ?_; try simp only [Act.put, Ya, Yb, Yc]
          refine tkk 5 41 hHeld ?_; try simp only [Act.put, Ya, Yb, Yc]
          refine tkk 6 42 hHeld ?_; try simp only [Act.put, Ya, Yb, Yc]
          refine tkk 7 43 hHeld ?_; try simp only [Act.put, Ya, Yb, Yc]
          refine tkk 8 44 hHeld ?_; try simp only [Act.put, Ya, Yb, Yc]
          refine tkk 9 45 hHeld ?_; try simp only [Act.put, Ya, Yb, Yc]
          refine tkk 10 46 hHeld ?_; try simp only [Act.put, Ya, Yb, Yc]
          refine tkk 11 47 hHeld ?_; try simp only [Act.put, Ya, Yb, Yc]
          refine tkk 12 48 hHeld ?_; try simp only [Act.put, Ya, Yb, Yc]
          refine tkk 13 49 hHeld ?_; try simp only [Act.put, Ya, Yb, Yc]
          refine tkk 14 50 hHeld ?_; try simp only [Act.put, Ya, Yb, Yc]
          refine tkk 15 51 hHeld ?_; try simp only [Act.put, Ya, Yb, Yc]
          refine tkk 16 52 hHeld ?_; try simp only [Act.put, Ya, Yb, Yc]
          refine tkk 17 53 hHeld ?_; try simp only [Act.put, Ya, Yb, Yc]
          refine rdyy 18 (fun K hK => ?_)
          go_simp
          clear hHeld
          refine hK.out _ _ ?_ (fun hHeld => ?_)
          · exact (uq HSX) _ (by repeat (first | apply Keep.alloc | apply Keep.drew | exact Keep.refl _))
          clear hK K
          try simp only [Act.put, Ya, Yb, Yc]
          refine rdyy 19 (fun K hK => ?_)
          go_simp
          clear hHeld
          (refine ((uq TS) _ _ (rw_new3 wr.drew X Y Z 9)).mono ?_; rintro e w5 ⟨b, rfl, rfl⟩)
          try go_wp2_with fail
          refine hK.out _ _ ?_ (fun hHeld => ?_)
          · exact (uq HSX) _ (by repeat (first | apply Keep.alloc | apply Keep.drew | exact Keep.refl _))
          clear hK K
          try simp only [Act.put, Ya, Yb, Yc]
          refine tkk 20 56 hHeld ?_; try simp only [Act.put, Ya, Yb, Yc]
          refine wpAnyH_done (by kernel_rfl) ?_ _
          clear hHeld
          cases b
          · go_wp2_with fail
            go_ret
            exact ⟨_, rfl, (by have := uq HK; repeat (first | exact this | apply Keep.alloc | apply Keep.drew)), fun h => by cases h⟩
          · go_wp2_with fail
            go_roundw
            case rel => exact ⟨k + 1, hlt, by go_num, hide (by have := uq HK; repeat (first | exact this | apply Keep.alloc | apply Keep.drew)), hide ((heap_alloc_old wr (.cells #[.string X, .string Y, .string Z] 9) (Array.getElem?_eq_some_iff.1 (uq HB)).1).trans (uq HB))⟩
            case measure => simp [intOf]; omega
        · have li : ¬ (k : Int) < (n6 : Int) := by omega
          go_wp2_with fail
          go_ret
          exact ⟨_, rfl, uq HK, fun _ => uq HALL⟩
theorem few3_any {w : World} (v0 v1 v2 v3 v4 : Int) (x5 : Option Addr) (z5 : Nat) (x6 : Option Addr) (z6 : Nat) (v7 v8 : Int) (L5 L6 : List (List D)) (q5 : ∀ ds ∈ L5, ShL nodeT ds) (q6 : ∀ ds ∈ L6, ShL stopT ds) (m5 : Rvss w x5 7 L5 0) (m6 : Rvss w x6 6 L6 0) :
    Calls Try.prog 21 #[.agg #[.int .i64 v0, .int .i64 v1, .int .i64 v2, .int .i64 v3, .int .i64 v4, .slice x5 L5.length z5, .slice x6 L6.length z6, .int .i64 v7, .int .i64 v8]] w (Ak3 (∀ k, k < L5.length → FewN (L5.getD k [])) w) := by
  have hp : w.heap.size ≤ w.heap.size := Nat.le_refl _
  have hF := Keep.refl w
  refine few3_core v0 v1 v2 v3 v4 x5 L5.length z5 x6 L6.length z6 v7 v8 (fun k => sv (tS (gt (L5.getD k []) 0))) (sA w x5 7 1) (sN w x5 7 1) (sC w x5 7 1) (sA w x5 7 2) (sN w x5 7 2) (sC w x5 7 2) (sA w x5 7 3) (sN w x5 7 3) (sC w x5 7 3) (sA w x5 7 4) (sN w x5 7 4) (sC w x5 7 4) (sA w x5 7 5) (sN w x5 7 5) (sC w x5 7 5) (fun k => fI (gt (L5.getD k []) 6)) (fun k => sv (tS (gt (L6.getD k []) 0))) (fun k => sv (tS (gt (L6.getD k []) 1))) (fun k => sv (tS (gt (L6.getD k []) 2))) (fun k => FewN (L5.getD k [])) w (hide strs_any) (hide fun k hk w' hw => ?_) (hide fun k hk => ?_) (hide fun k hk => ?_)
  · exact fnode3_any (q5 _ (at_mem hk)) (Rvs.keep hw _ _ (node_rv q5 m5 k hk))
  · obtain ⟨ad, e, _, h⟩ := clNode hF q5 m5 k hk
    exact ⟨ad, e, h⟩
  · obtain ⟨ad, e, _, h0, h1, h2, _⟩ := clStop hF q6 m6 k hk
    exact ⟨ad, e, h0, h1, h2⟩
end S
end Go.Proofs.Ytdgmndjofbdgeaa

namespace Go.Proofs.Ytdgmndjofbdgeaa
open Go.RowKit Go.Maps
set_option linter.unusedVariables false
set_option linter.unusedSimpArgs false
set_option maxRecDepth 10000
namespace V
/-- the number that stands with a name; 0 if none does -/
def lk (M : List (List UInt8 × Int)) (s : List UInt8) : Int := match M.find? (fun p => p.1 == s) with | some p => p.2 | none => 0
def hs (M : List (List UInt8 × Int)) (s : List UInt8) : Bool := M.any (fun p => p.1 == s)
theorem hs_add (M : List (List UInt8 × Int)) (s : List UInt8) (n : Int) (t : List UInt8) : hs (M ++ [(s, n)]) t = (hs M t || s == t) := by simp [hs]
end V
end Go.Proofs.Ytdgmndjofbdgeaa

namespace Go.Proofs.Ytdgmndjofbdgeaa
open Go.RowKit
set_option linter.unusedVariables false
set_option linter.unusedSimpArgs false
set_option maxRecDepth 10000
namespace V
/-- the first that is refused -/
def fst : List (Bool × Int) → Option Int
  | [] => none
  | (b, c) :: r => if b then some c else fst r
end V
end Go.Proofs.Ytdgmndjofbdgeaa

namespace Go.Proofs.Ytdgmndjofbdgeaa
open Go.RowKit
set_option linter.unusedVariables false
set_option linter.unusedSimpArgs false
namespace V
/-- the names of the first k things, each with its number -/
def mk (T : Nat → List UInt8) (k : Nat) : List (List UInt8 × Int) := (List.range k).map (fun j => (T j, (j : Int)))
/-- names that are all of MH's, none twice -/
def Gd (MH M : List (List UInt8 × Int)) : Prop := (∀ s, hs M s = true → hs MH s = true) ∧ (M.map Prod.fst).Nodup
theorem hs_mem {M : List (List UInt8 × Int)} {s : List UInt8} : hs M s = true ↔ s ∈ M.map Prod.fst := by
  unfold hs
  rw [List.any_eq_true]
  constructor
  · rintro ⟨p, hp, h⟩
    have : p.1 = s := by simpa using h
    exact List.mem_map.2 ⟨p, hp, this⟩
  · intro h
    obtain ⟨p, hp, rfl⟩ := List.mem_map.1 h
    exact ⟨p, hp, by simp⟩
theorem sub_len {α : Type} [DecidableEq α] : ∀ (a b : List α), a.Nodup → (∀ x ∈ a, x ∈ b) → a.length ≤ b.length
  | [], b, _, _ => Nat.zero_le _
  | x :: a, b, hn, hs => by
    have hx : x ∈ b := hs x (by simp)
    have h1 := sub_len a (b.erase x) (List.nodup_cons.1 hn).2 (fun y hy => by
      have hne : y ≠ x := fun e => (List.nodup_cons.1 hn).1 (e ▸ hy)
      exact (List.mem_erase_of_ne hne).2 (hs y (by simp [hy])))
    have h2 := List.length_erase_of_mem hx
    have h3 : 0 < b.length := List.length_pos_of_mem hx
    simp only [List.length_cons]
    omega
theorem Gd.len {MH M : List (List UInt8 × Int)} (h : Gd MH M) : M.length ≤ MH.length := by
  have := sub_len (M.map Prod.fst) (MH.map Prod.fst) h.2 (fun x hx => hs_mem.1 (h.1 x (hs_mem.2 hx)))
  simpa using this
theorem Gd.nil (MH : List (List UInt8 × Int)) : Gd MH [] := ⟨fun s h => by simp [hs] at h, by simp⟩
theorem Gd.add {MH M : List (List UInt8 × Int)} {s : List UInt8} (n : Int) (h : Gd MH M) (h1 : hs MH s = true) (h2 : hs M s = false) : Gd MH (M ++ [(s, n)]) := by
  refine ⟨fun t ht => ?_, ?_⟩
  · rw [hs_add] at ht
    rcases Bool.or_eq_true_iff.1 ht with h' | h'
    · exact h.1 t h'
    · have : s = t := by simpa using h'
      exact this ▸ h1
  · rw [List.map_append, List.map_cons, List.map_nil]
    refine List.nodup_append.2 ⟨h.2, by simp, fun a ha b hb => ?_⟩
    have : b = s := by simpa using hb
    subst this
    rintro rfl
    rw [hs_mem.2 ha] at h2
    cases h2
end V
end Go.Proofs.Ytdgmndjofbdgeaa

namespace Go.Proofs.Ytdgmndjofbdgeaa
open Go.RowKit
attribute [local go_sem ↓] Go.wp_at_zero Go.wp_at_succ
set_option linter.unusedVariables false
set_option linter.unusedSimpArgs false
set_option maxRecDepth 10000
namespace V
theorem add_block9 (ad : Addr) (n : Nat) : (ad.add n).block = ad.block := by unfold Addr.add; split <;> rfl
theorem far_cell {w W : World} {a : Addr} {v : Value} (h : Keep w W) (hb : a.block < w.heap.size) (hc : w.cell? a = some v) : W.cell? a = some v := by rw [Below.cell h hb]; exact hc
end V
end Go.Proofs.Ytdgmndjofbdgeaa

namespace Go.Proofs.Ytdgmndjofbdgeaa
open Go.RowKit
set_option linter.unusedVariables false
set_option linter.unusedSimpArgs false
set_option maxRecDepth 10000
namespace V
open S
/-- of a row's things: the name; the j-th number; how long the j-th row is; the names of the j-th row -/
def tn (L : List (List D)) (k : Nat) : List UInt8 := tS (S.gt (L.getD k []) 0)
def un (L : List (List D)) (k : Nat) : List UInt8 := tS (S.gt (L.getD k []) 1)
def iv (L : List (List D)) (j k : Nat) : Int := fI (S.gt (L.getD k []) j)
def sub (L : List (List D)) (j k : Nat) : List (List D) := fL (S.gt (L.getD k []) j)
def ln (L : List (List D)) (j k : Nat) : Nat := (sub L j k).length
theorem mem_at {L : List (List D)} {k : Nat} (hk : k < L.length) : L.getD k [] ∈ L := by rw [List.getD_eq_getElem?_getD, List.getElem?_eq_getElem hk]; exact List.getElem_mem hk
theorem clName {w : World} {a : Option Addr} {L : List (List D)} (hL : ∀ ds ∈ L, ShL nameT ds) (HA : Rvss w a 1 L 0) (k : Nat) (hk : k < L.length) : ∃ ad, a = some ad ∧ ad.block < w.heap.size ∧ w.cell? (ad.add k) = some (.string (sv (tn L k))) ∧ (tn L k).length ≤ maxLen := by
  obtain ⟨ad, us, rfl, hb, h1, h2, h3⟩ := rvss_at L 0 HA k hk
  have hs := hL _ (mem_at hk)
  unfold tn
  generalize L.getD k [] = ds at h1 hs ⊢
  simp only [ShL, Sh1, nameT] at hs
  obtain ⟨_, _, rfl, ⟨s0, rfl, hl⟩, rfl⟩ := hs
  simp only [Rvs, Rv, dS] at h1
  obtain ⟨_, _, rfl, rfl, rfl⟩ := h1
  have := h3 0 _ rfl
  rw [Nat.zero_add, Nat.mul_one] at this
  exact ⟨ad, rfl, hb, this, hl⟩
end V
end Go.Proofs.Ytdgmndjofbdgeaa

namespace Go.Proofs.Ytdgmndjofbdgeaa
open Go.RowKit
set_option linter.unusedVariables false
set_option linter.unusedSimpArgs false
set_option maxRecDepth 10000
namespace V
open S
theorem row_len {L : List (List D)} (hL : ∀ ds ∈ L, ShL rowT ds) (k : Nat) (hk : k < L.length) : ln L 1 k ≤ maxLen := by
  have hs := hL _ (mem_at hk)
  unfold ln sub
  generalize L.getD k [] = ds at hs ⊢
  simp only [ShL, Sh1, rowT] at hs
  obtain ⟨_, _, rfl, _, ⟨_, _, rfl, ⟨L1, rfl, hl, _⟩, _⟩⟩ := hs
  exact hl
end V
end Go.Proofs.Ytdgmndjofbdgeaa

namespace Go.Proofs.Ytdgmndjofbdgeaa
open Go.RowKit
attribute [local go_sem ↓] Go.wp_at_zero Go.wp_at_succ
set_option linter.unusedVariables false
set_option linter.unusedSimpArgs false
set_option maxRecDepth 10000
theorem sv_list (l : List UInt8) : (sv l).toList = l := ByteArray.toList_mk l
end Go.Proofs.Ytdgmndjofbdgeaa
