/- Few says more than a truth value: where it answers true, there are 15 nodes and 50 heads at most. -/
import Derived.Test.YtnegcifbbbmlnaaGreatDoorVFwT
import Derived.Test.YtnegcifbbbmlnaaGreatDoorLMath
import Derived.Deep.DrawnRows
import Derived.Deep.RegionHeld
namespace Go.Proofs.YtnegcifbbbmlnaaGreatDoor
open Go.RowKit
attribute [local go_sem ↓] Go.wp_at_zero Go.wp_at_succ
set_option linter.unusedVariables false
set_option linter.unusedSimpArgs false
set_option maxRecDepth 10000
namespace S
def Ak2 (P : Prop) (w : World) (e : Ending) (w' : World) : Prop := ∃ b, e = .returned (.bool b) ∧ Keep w w' ∧ (b = true → P)
set_option maxHeartbeats 4000000 in
theorem fnode_false (S0 : ByteArray) (a1 : Option Addr) (n1 c1 : Nat) (a2 : Option Addr) (n2 c2 : Nat) (a3 : Option Addr) (n3 c3 : Nat) (a4 : Option Addr) (n4 c4 : Nat) (a5 : Option Addr) (n5 c5 : Nat) (v6 : Int) (w : World) (g1 : (50 : Int) < (n1 : Int)) : Calls Tryz.prog 8 #[.agg #[.string S0, .slice a1 n1 c1, .slice a2 n2 c2, .slice a3 n3 c3, .slice a4 n4 c4, .slice a5 n5 c5, .int .i64 v6]] w fun e w' => e = .returned (.bool false) ∧ Keep w w' := by
  have HK0 := hide ((Keep.refl w).alloc (.cells #[.string S0, .slice a1 n1 c1, .slice a2 n2 c2, .slice a3 n3 c3, .slice a4 n4 c4, .slice a5 n5 c5, .int .i64 v6] 42))
  have HB0 : Hid ((w.alloc (.cells #[.string S0, .slice a1 n1 c1, .slice a2 n2 c2, .slice a3 n3 c3, .slice a4 n4 c4, .slice a5 n5 c5, .int .i64 v6] 42)).heap[w.heap.size]? = some (.cells #[.string S0, .slice a1 n1 c1, .slice a2 n2 c2, .slice a3 n3 c3, .slice a4 n4 c4, .slice a5 n5 c5, .int .i64 v6] 42 (0, 0))) := hide (heap_alloc_new _ _)
  go_enter Tryz.func8, Tryz.ntmps8
  go_upto_region 1 with fail
  generalize w.alloc (.cells #[.string S0, .slice a1 n1 c1, .slice a2 n2 c2, .slice a3 n3 c3, .slice a4 n4 c4, .slice a5 n5 c5, .int .i64 v6] 42) = w0 at HK0 HB0 ⊢
  obtain ⟨gb, HGB⟩ : ∃ gb, Hid (w.heap.size = gb) := ⟨_, rfl⟩
  rw [uq HGB] at HB0 ⊢
  have z1 : w0.cell? ⟨gb, 1, none⟩ = some (.slice a1 n1 c1) := by simp [World.cell?, uq HB0]
  have z2 : w0.cell? ⟨gb, 2, none⟩ = some (.slice a2 n2 c2) := by simp [World.cell?, uq HB0]
  have z3 : w0.cell? ⟨gb, 3, none⟩ = some (.slice a3 n3 c3) := by simp [World.cell?, uq HB0]
  have z4 : w0.cell? ⟨gb, 4, none⟩ = some (.slice a4 n4 c4) := by simp [World.cell?, uq HB0]
  have z5 : w0.cell? ⟨gb, 5, none⟩ = some (.slice a5 n5 c5) := by simp [World.cell?, uq HB0]
  go_wp2_with fail
  go_ret
  exact ⟨rfl, uq HK0⟩
theorem fnode_two (S0 : ByteArray) (a1 : Option Addr) (n1 c1 : Nat) (a2 : Option Addr) (n2 c2 : Nat) (a3 : Option Addr) (n3 c3 : Nat) (a4 : Option Addr) (n4 c4 : Nat) (a5 : Option Addr) (n5 c5 : Nat) (v6 : Int) {w : World} {ds : List D} (hs : ShL nodeT ds) (hr : Rvs w ds [.string S0, .slice a1 n1 c1, .slice a2 n2 c2, .slice a3 n3 c3, .slice a4 n4 c4, .slice a5 n5 c5, .int .i64 v6]) : Calls Tryz.prog 8 #[.agg #[.string S0, .slice a1 n1 c1, .slice a2 n2 c2, .slice a3 n3 c3, .slice a4 n4 c4, .slice a5 n5 c5, .int .i64 v6]] w (Ak2 (n1 ≤ 50) w) := by
  by_cases h : n1 ≤ 50
  · refine (fnode_any hs hr).mono ?_
    rintro e w' ⟨b, rfl, hk⟩
    exact ⟨b, rfl, hk, fun _ => h⟩
  · refine (fnode_false S0 a1 n1 c1 a2 n2 c2 a3 n3 c3 a4 n4 c4 a5 n5 c5 v6 w (by omega)).mono ?_
    rintro e w' ⟨rfl, hk⟩
    exact ⟨false, rfl, hk, fun h => by cases h⟩
set_option maxHeartbeats 16000000 in
theorem few_core2 (v0 v1 v2 v3 v4 : Int) (a5 : Option Addr) (n5 c5 : Nat) (a6 : Option Addr) (n6 c6 : Nat) (v7 v8 : Int) (S0 : Nat → ByteArray) (A1 : Nat → Option Addr) (N1 C1 : Nat → Nat) (A2 : Nat → Option Addr) (N2 C2 : Nat → Nat) (A3 : Nat → Option Addr) (N3 C3 : Nat → Nat) (A4 : Nat → Option Addr) (N4 C4 : Nat → Nat) (A5 : Nat → Option Addr) (N5 C5 : Nat → Nat) (V6 : Nat → Int) (X6 Y6 Z6 : Nat → ByteArray) (w : World)
    (TS : Hid (∀ v w', Rw w' v → Calls Tryz.prog 9 #[v] w' (Ab w')))
    (TN : Hid (∀ k, k < n5 → ∀ w', Keep w w' → Calls Tryz.prog 8 #[.agg #[.string (S0 k), .slice (A1 k) (N1 k) (C1 k), .slice (A2 k) (N2 k) (C2 k), .slice (A3 k) (N3 k) (C3 k), .slice (A4 k) (N4 k) (C4 k), .slice (A5 k) (N5 k) (C5 k), .int .i64 (V6 k)]] w' (Ak2 (N1 k ≤ 50) w')))
    (HC5 : Hid (∀ k, k < n5 → ∃ ad, a5 = some ad ∧ w.cell? (ad.add (k * 7)) = some (.string (S0 k)) ∧ w.cell? ⟨(ad.add (k * 7)).block, (ad.add (k * 7)).off + 1, none⟩ = some (.slice (A1 k) (N1 k) (C1 k)) ∧ w.cell? ⟨(ad.add (k * 7)).block, (ad.add (k * 7)).off + 2, none⟩ = some (.slice (A2 k) (N2 k) (C2 k)) ∧ w.cell? ⟨(ad.add (k * 7)).block, (ad.add (k * 7)).off + 3, none⟩ = some (.slice (A3 k) (N3 k) (C3 k)) ∧ w.cell? ⟨(ad.add (k * 7)).block, (ad.add (k * 7)).off + 4, none⟩ = some (.slice (A4 k) (N4 k) (C4 k)) ∧ w.cell? ⟨(ad.add (k * 7)).block, (ad.add (k * 7)).off + 5, none⟩ = some (.slice (A5 k) (N5 k) (C5 k)) ∧ w.cell? ⟨(ad.add (k * 7)).block, (ad.add (k * 7)).off + 6, none⟩ = some (.int .i64 (V6 k))))
    (HC6 : Hid (∀ k, k < n6 → ∃ ad, a6 = some ad ∧ w.cell? (ad.add (k * 6)) = some (.string (X6 k)) ∧ w.cell? ⟨(ad.add (k * 6)).block, (ad.add (k * 6)).off + 1, none⟩ = some (.string (Y6 k)) ∧ w.cell? ⟨(ad.add (k * 6)).block, (ad.add (k * 6)).off + 2, none⟩ = some (.string (Z6 k)))) :
    Calls Tryz.prog 4 #[.agg #[.int .i64 v0, .int .i64 v1, .int .i64 v2, .int .i64 v3, .int .i64 v4, .slice a5 n5 c5, .slice a6 n6 c6, .int .i64 v7, .int .i64 v8]] w (Ak2 (n5 ≤ 15 ∧ ∀ k, k < n5 → N1 k ≤ 50) w) := by
  have HK0 := hide ((Keep.refl w).alloc (.cells #[.int .i64 v0, .int .i64 v1, .int .i64 v2, .int .i64 v3, .int .i64 v4, .slice a5 n5 c5, .slice a6 n6 c6, .int .i64 v7, .int .i64 v8] 27))
  have HB0 : Hid ((w.alloc (.cells #[.int .i64 v0, .int .i64 v1, .int .i64 v2, .int .i64 v3, .int .i64 v4, .slice a5 n5 c5, .slice a6 n6 c6, .int .i64 v7, .int .i64 v8] 27)).heap[w.heap.size]? = some (.cells #[.int .i64 v0, .int .i64 v1, .int .i64 v2, .int .i64 v3, .int .i64 v4, .slice a5 n5 c5, .slice a6 n6 c6, .int .i64 v7, .int .i64 v8] 27 (0, 0))) := hide (heap_alloc_new w _)
  go_enter Tryz.func4, Tryz.ntmps4
  go_upto_region 1 with fail
  generalize w.alloc (.cells #[.int .i64 v0, .int .i64 v1, .int .i64 v2, .int .i64 v3, .int .i64 v4, .slice a5 n5 c5, .slice a6 n6 c6, .int .i64 v7, .int .i64 v8] 27) = w0 at HK0 HB0 ⊢
  obtain ⟨gb, HGB⟩ : ∃ gb, Hid (w.heap.size = gb) := ⟨_, rfl⟩
  rw [uq HGB] at HB0 ⊢
  have z5 : w0.cell? ⟨gb, 5, none⟩ = some (.slice a5 n5 c5) := by simp [World.cell?, uq HB0]
  have z6 : w0.cell? ⟨gb, 6, none⟩ = some (.slice a6 n6 c6) := by simp [World.cell?, uq HB0]
  by_cases g1 : (15 : Int) < (n5 : Int)
  · go_wp2_with fail
    go_ret
    exact ⟨_, rfl, uq HK0, fun h => by cases h⟩
  by_cases g2 : (15 : Int) < (n6 : Int)
  · go_wp2_with fail
    go_ret
    exact ⟨_, rfl, uq HK0, fun h => by cases h⟩
  have HNN : Hid (n5 ≤ 15 ∧ n6 ≤ 15) := hide (by omega)
  go_wp2_with fail
  clear g1 g2 z5 z6
  go_loopw [3] (fun vi wr => ∃ k : Nat, k ≤ n5 ∧ vi = .int .i64 (k : Int) ∧ Hid (∀ j, j < k → N1 j ≤ 50) ∧ Hid (Keep w wr) ∧ Hid (wr.heap[gb]? = some (.cells #[.int .i64 v0, .int .i64 v1, .int .i64 v2, .int .i64 v3, .int .i64 v4, .slice a5 n5 c5, .slice a6 n6 c6, .int .i64 v7, .int .i64 v8] 27 (0, 0)))) (fun vi _ => n5 - (intOf vi).toNat)
  case atStart => exact ⟨0, Nat.zero_le _, rfl, hide (fun j hj => by omega), HK0, HB0⟩
  case round =>
    obtain ⟨k, hk, rfl, HA, HK, HB⟩ := hrel
    have z5 : wr.cell? ⟨gb, 5, none⟩ = some (.slice a5 n5 c5) := by simp [World.cell?, uq HB]
    by_cases hlt : k < n5
    · have li : (k : Int) < (n5 : Int) := by omega
      have hk9 : k ≤ 100 := by have := uq HNN; omega
      have HT := hide ((uq TN) k hlt wr (uq HK))
      obtain ⟨ad, rfl, e0, e1, e2, e3, e4, e5, e6⟩ := (uq HC5) k hlt
      have x0 := Q.kcell (uq HK) e0
      have x1 := Q.kcell (uq HK) e1
      have x2 := Q.kcell (uq HK) e2
      have x3 := Q.kcell (uq HK) e3
      have x4 := Q.kcell (uq HK) e4
      have x5 := Q.kcell (uq HK) e5
      have x6 := Q.kcell (uq HK) e6
      clear e0 e1 e2 e3 e4 e5 e6
      go_wp2_with fail
      (refine (uq HT).mono ?_; rintro e w5 ⟨b, rfl, hk5, hp5⟩; have HK5 := hide hk5; have HP5 := hide hp5; clear hk5 hp5)
      cases b
      · go_wp2_with fail
        go_ret
        exact ⟨_, rfl, (uq HK).trans (uq HK5), fun h => by cases h⟩
      · go_wp2_with fail
        go_roundw
        case rel => exact ⟨k + 1, hlt, by go_num, hide (fun j hj => by
          rcases Nat.lt_or_ge j k with h | h
          · exact (uq HA) j h
          · have : j = k := by omega
            subst this
            first | exact (uq HP5) trivial | exact (uq HP5) rfl), hide ((uq HK).trans (uq HK5)), hide (((uq HK5).block gb (Array.getElem?_eq_some_iff.1 (uq HB)).1).trans (uq HB))⟩
        case measure => simp [intOf]; omega
    · have li : ¬ (k : Int) < (n5 : Int) := by omega
      have HALL : Hid (∀ j, j < n5 → N1 j ≤ 50) := hide (fun j hj => (uq HA) j (by omega))
      clear hlt hk HA
      go_wp2_with fail
      go_loopw [4] (fun vi wr => ∃ k : Nat, k ≤ n6 ∧ vi = .int .i64 (k : Int) ∧ Hid (Keep w wr) ∧ Hid (wr.heap[gb]? = some (.cells #[.int .i64 v0, .int .i64 v1, .int .i64 v2, .int .i64 v3, .int .i64 v4, .slice a5 n5 c5, .slice a6 n6 c6, .int .i64 v7, .int .i64 v8] 27 (0, 0)))) (fun vi _ => n6 - (intOf vi).toNat)
      case atStart => exact ⟨0, Nat.zero_le _, rfl, HK, HB⟩
      case round =>
        obtain ⟨k, hk, rfl, HK, HB⟩ := hrel
        have z6 : wr.cell? ⟨gb, 6, none⟩ = some (.slice a6 n6 c6) := by simp [World.cell?, uq HB]
        by_cases hlt : k < n6
        · have li : (k : Int) < (n6 : Int) := by omega
          have hk9 : k ≤ 100 := by have := uq HNN; omega
          obtain ⟨ad, rfl, e0, e1, e2⟩ := (uq HC6) k hlt
          have x0 := Q.kcell (uq HK) e0
          have x1 := Q.kcell (uq HK) e1
          have x2 := Q.kcell (uq HK) e2
          clear e0 e1 e2
          generalize X6 k = X at x0
          generalize Y6 k = Y at x1
          generalize Z6 k = Z at x2
          have HSX : Hid (∀ w', Keep wr w' → w'.cell? ⟨gb, 6, none⟩ = some (.slice (some ad) n6 c6) ∧ w'.cell? (ad.add (k * 6)) = some (.string X) ∧ w'.cell? ⟨(ad.add (k * 6)).block, (ad.add (k * 6)).off + 1, none⟩ = some (.string Y) ∧ w'.cell? ⟨(ad.add (k * 6)).block, (ad.add (k * 6)).off + 2, none⟩ = some (.string Z)) := hide (fun w' k9 => ⟨Q.kcell k9 z6, Q.kcell k9 x0, Q.kcell k9 x1, Q.kcell k9 x2⟩)
          go_upto_region 11 with fail
          refine wp_region_held_drew (S := fun w' => w'.cell? ⟨gb, 6, none⟩ = some (.slice (some ad) n6 c6) ∧ w'.cell? (ad.add (k * 6)) = some (.string X) ∧ w'.cell? ⟨(ad.add (k * 6)).block, (ad.add (k * 6)).off + 1, none⟩ = some (.string Y) ∧ w'.cell? ⟨(ad.add (k * 6)).block, (ad.add (k * 6)).off + 2, none⟩ = some (.string Z)) (by kernel_rfl) (by exact (uq HSX) _ (by repeat (first | apply Keep.alloc | apply Keep.drew | exact Keep.refl _))) (fun hHeld => ?_)
          refine tkk 0 36 hHeld ?_; try simp only [Act.put, Ya, Yb, Yc]
          refine tkk 1 37 hHeld ?_; try simp only [Act.put, Ya, Yb, Yc]
          refine tkk 2 38 hHeld ?_; try simp only [Act.put, Ya, Yb, Yc]
          refine tkk 3 39 hHeld ?_; try simp only [Act.put, Ya, Yb, Yc]
          refine tkk 4 40 hHeld ?_; try simp only [Act.put, Ya, Yb, Yc]
          refine tkk 5 41 hHeld ?_; try simp only [Act.put, Ya, Yb, Yc]
          refine tkk 6 42 hHeld ?_; try simp only [Act.put, Ya, Yb, Yc]
          refine tkk 7 43 hHeld ?_; try simp only [Act.put, Ya, Yb, Yc]
          refine tkk 8 44 hHeld ?_; try simp only [Act.put, Ya, Yb, Yc]
          refine tkk 9 45 hHeld ?_; try simp only [Act.put, Ya, Yb, Yc]
          refine tkk 10 46 hHeld ?_; try simp only [Act.put, Ya, Yb, Yc]
          refine tkk 11 47 hHeld ?_; try simp only [Act.put, Ya, Yb, Yc]
          refine tkk 12 48 hHeld ?_; try simp only [Act.put, Ya, Yb, Yc]
          refine tkk 13 49 hHeld ?_; try simp only [Act.put, Ya, Yb, Yc]
          refine tkk 14 50 hHeld ?_; try simp only [Act.put, Ya, Yb, Yc]
          refine tkk 15 51 hHeld ?_; try simp only [Act.put, Ya, Yb, Yc]
          refine tkk 16 52 hHeld ?_; try simp only [Act.put, Ya, Yb, Yc]
          refine tkk 17 53 hHeld ?_; try simp only [Act.put, Ya, Yb, Yc]
          refine rdyy 18 (fun K hK => ?_)
          go_simp
          clear hHeld
          refine hK.out _ _ ?_ (fun hHeld => ?_)
          · exact (uq HSX) _ (by repeat (first | apply Keep.alloc | apply Keep.drew | exact Keep.refl _))
          clear hK K
          try simp only [Act.put, Ya, Yb, Yc]
          refine rdyy 19 (fun K hK => ?_)
          go_simp
          clear hHeld
          (refine ((uq TS) _ _ (rw_new3 wr.drew X Y Z 9)).mono ?_; rintro e w5 ⟨b, rfl, rfl⟩)
          try go_wp2_with fail
          refine hK.out _ _ ?_ (fun hHeld => ?_)
          · exact (uq HSX) _ (by repeat (first | apply Keep.alloc | apply Keep.drew | exact Keep.refl _))
          clear hK K
          try simp only [Act.put, Ya, Yb, Yc]
          refine tkk 20 56 hHeld ?_; try simp only [Act.put, Ya, Yb, Yc]
          refine wpAnyH_done (by kernel_rfl) ?_ _
          clear hHeld
          cases b
          · go_wp2_with fail
            go_ret
            exact ⟨_, rfl, (by have := uq HK; repeat (first | exact this | apply Keep.alloc | apply Keep.drew)), fun h => by cases h⟩
          · go_wp2_with fail
            go_roundw
            case rel => exact ⟨k + 1, hlt, by go_num, hide (by have := uq HK; repeat (first | exact this | apply Keep.alloc | apply Keep.drew)), hide ((heap_alloc_old wr (.cells #[.string X, .string Y, .string Z] 9) (Array.getElem?_eq_some_iff.1 (uq HB)).1).trans (uq HB))⟩
            case measure => simp [intOf]; omega
        · have li : ¬ (k : Int) < (n6 : Int) := by omega
          go_wp2_with fail
          go_ret
          exact ⟨_, rfl, uq HK, fun _ => ⟨(uq HNN).1, uq HALL⟩⟩
theorem few_any2 {w : World} (v0 v1 v2 v3 v4 : Int) (x5 : Option Addr) (z5 : Nat) (x6 : Option Addr) (z6 : Nat) (v7 v8 : Int) (L5 L6 : List (List D)) (q5 : ∀ ds ∈ L5, ShL nodeT ds) (q6 : ∀ ds ∈ L6, ShL stopT ds) (m5 : Rvss w x5 7 L5 0) (m6 : Rvss w x6 6 L6 0) :
    Calls Tryz.prog 4 #[.agg #[.int .i64 v0, .int .i64 v1, .int .i64 v2, .int .i64 v3, .int .i64 v4, .slice x5 L5.length z5, .slice x6 L6.length z6, .int .i64 v7, .int .i64 v8]] w (Ak2 (L5.length ≤ 15 ∧ ∀ k, k < L5.length → sN w x5 7 1 k ≤ 50) w) := by
  have hp : w.heap.size ≤ w.heap.size := Nat.le_refl _
  have hF := Keep.refl w
  refine few_core2 v0 v1 v2 v3 v4 x5 L5.length z5 x6 L6.length z6 v7 v8 (fun k => sv (tS (gt (L5.getD k []) 0))) (sA w x5 7 1) (sN w x5 7 1) (sC w x5 7 1) (sA w x5 7 2) (sN w x5 7 2) (sC w x5 7 2) (sA w x5 7 3) (sN w x5 7 3) (sC w x5 7 3) (sA w x5 7 4) (sN w x5 7 4) (sC w x5 7 4) (sA w x5 7 5) (sN w x5 7 5) (sC w x5 7 5) (fun k => fI (gt (L5.getD k []) 6)) (fun k => sv (tS (gt (L6.getD k []) 0))) (fun k => sv (tS (gt (L6.getD k []) 1))) (fun k => sv (tS (gt (L6.getD k []) 2))) w (hide strs_any) (hide fun k hk w' hw => ?_) (hide fun k hk => ?_) (hide fun k hk => ?_)
  · exact fnode_two _ _ _ _ _ _ _ _ _ _ _ _ _ _ _ _ _ (q5 _ (at_mem hk)) (Rvs.keep hw _ _ (node_rv q5 m5 k hk))
  · obtain ⟨ad, e, _, h⟩ := clNode hF q5 m5 k hk
    exact ⟨ad, e, h⟩
  · obtain ⟨ad, e, _, h0, h1, h2, _⟩ := clStop hF q6 m6 k hk
    exact ⟨ad, e, h0, h1, h2⟩
end S
end Go.Proofs.YtnegcifbbbmlnaaGreatDoor
