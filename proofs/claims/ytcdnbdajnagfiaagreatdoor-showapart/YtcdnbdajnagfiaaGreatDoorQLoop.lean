/- What is read is a right network, thing by thing. -/
import Derived.Test.YtcdnbdajnagfiaaGreatDoorSRead
import Derived.Test.YtcdnbdajnagfiaaGreatDoorQNames
namespace Go.Proofs.YtcdnbdajnagfiaaGreatDoor
open Go.RowKit
set_option linter.unusedVariables false
set_option linter.unusedSimpArgs false
set_option maxRecDepth 10000
namespace S
theorem fI_dI (n : Int) : fI (dI n) = n := rfl
theorem fL_row (e z : Nat) (L : List (List D)) : fL (.row e z L) = L := rfl
theorem rd_head : RgB pHead (fun d => ShL headT d ∧ headB d = true) := fun r d r' hr h => by
  obtain ⟨c1, h1, rfl⟩ := rotd_inv h
  obtain ⟨hr2, dd, e, x0, y0, rfl, ⟨p0, rfl, hp0, hp1⟩, x1, y1, rfl, ⟨s0, rfl, n0, m0⟩, x2, y2, rfl, rfl, x3, y3, rfl, ⟨u1, rfl, v1⟩, x4, y4, rfl, rfl, x5, y5, rfl, ⟨u2, rfl, v2⟩, x6, y6, rfl, rfl, x7, y7, rfl, ⟨u3, u4, rfl, v3, v4⟩, x8, y8, rfl, rfl, x9, y9, rfl, ⟨u5, rfl, v5⟩, x10, y10, rfl, rfl, x11, y11, rfl, ⟨u6, rfl, v6⟩, x12, y12, rfl, rfl, x13, y13, rfl, ⟨u7, rfl, v7⟩, x14, y14, rfl, rfl, x15, y15, rfl, ⟨u8, rfl, v8⟩, x16, y16, rfl, rfl, x17, y17, rfl, ⟨u9, rfl, v9⟩, x18, y18, rfl, rfl, rfl⟩ := (r_cons r_pos (r_cons r_name (r_cons (r_the _) (r_cons r_num (r_cons (r_the _) (r_cons r_num (r_cons (r_the _) (r_cons r_frac (r_cons (r_the _) (r_cons r_num (r_cons (r_the _) (r_cons r_grade (r_cons (r_the _) (r_cons r_num (r_cons (r_the _) (r_cons r_num (r_cons (r_the _) (r_cons r_num (r_cons (r_the _) r_nil))))))))))))))))))) [] r _ _ hr h1
  simp only [List.nil_append, List.cons_append, List.append_nil] at e
  subst e
  refine ⟨hr2, ?_, ?_⟩
  · simp only [rot, List.cons_append, List.nil_append, ShL, Sh1, headT]
    exact ⟨_, _, rfl, ⟨_, rfl, by unfold maxLen; omega⟩, ⟨_, _, rfl, ⟨_, rfl, (nu_i v1).1, (nu_i v1).2⟩, ⟨_, _, rfl, ⟨_, rfl, (nu_i v2).1, (nu_i v2).2⟩, ⟨_, _, rfl, ⟨_, rfl, (nu_i v3).1, (nu_i v3).2⟩, ⟨_, _, rfl, ⟨_, rfl, (nu_i v4).1, (nu_i v4).2⟩, ⟨_, _, rfl, ⟨_, rfl, (nu_i v5).1, (nu_i v5).2⟩, ⟨_, _, rfl, ⟨_, rfl, (gr_i v6).1, (gr_i v6).2⟩, ⟨_, _, rfl, ⟨_, rfl, (nu_i v7).1, (nu_i v7).2⟩, ⟨_, _, rfl, ⟨_, rfl, (nu_i v8).1, (nu_i v8).2⟩, ⟨_, _, rfl, ⟨_, rfl, (nu_i v9).1, (nu_i v9).2⟩, ⟨_, _, rfl, ⟨_, rfl, ((show -9223372036854775808 ≤ p0 ∧ p0 ≤ 9223372036854775807 by omega)).1, ((show -9223372036854775808 ≤ p0 ∧ p0 ≤ 9223372036854775807 by omega)).2⟩, rfl⟩⟩⟩⟩⟩⟩⟩⟩⟩⟩⟩
  · simp [rot, headB, nusB, gt, tS_dS, fI_dI, n0, v1, v2, v3, v4, v5, v6, v7, v8, v9]
theorem rd_walk : RgB pWalk (fun d => ShL pedT d ∧ walkB d = true) := fun r d r' hr h => by
  obtain ⟨c1, h1, rfl⟩ := rotd_inv h
  obtain ⟨hr2, dd, e, x0, y0, rfl, ⟨p0, rfl, hp0, hp1⟩, x1, y1, rfl, ⟨s0, rfl, n0, m0⟩, x2, y2, rfl, rfl, x3, y3, rfl, ⟨s1, rfl, n1, m1⟩, x4, y4, rfl, rfl, x5, y5, rfl, ⟨u2, rfl, v2⟩, x6, y6, rfl, rfl, x7, y7, rfl, ⟨u3, rfl, v3⟩, x8, y8, rfl, rfl, x9, y9, rfl, ⟨u4, rfl, v4⟩, x10, y10, rfl, rfl, rfl⟩ := (r_cons r_pos (r_cons r_name (r_cons (r_the _) (r_cons r_name (r_cons (r_the _) (r_cons r_num (r_cons (r_the _) (r_cons r_num (r_cons (r_the _) (r_cons r_num (r_cons (r_the _) r_nil))))))))))) [] r _ _ hr h1
  simp only [List.nil_append, List.cons_append, List.append_nil] at e
  subst e
  refine ⟨hr2, ?_, ?_⟩
  · simp only [rot, List.cons_append, List.nil_append, ShL, Sh1, pedT]
    exact ⟨_, _, rfl, ⟨_, rfl, by unfold maxLen; omega⟩, ⟨_, _, rfl, ⟨_, rfl, by unfold maxLen; omega⟩, ⟨_, _, rfl, ⟨_, rfl, (nu_i v2).1, (nu_i v2).2⟩, ⟨_, _, rfl, ⟨_, rfl, (nu_i v3).1, (nu_i v3).2⟩, ⟨_, _, rfl, ⟨_, rfl, (nu_i v4).1, (nu_i v4).2⟩, ⟨_, _, rfl, ⟨_, rfl, ((show -9223372036854775808 ≤ p0 ∧ p0 ≤ 9223372036854775807 by omega)).1, ((show -9223372036854775808 ≤ p0 ∧ p0 ≤ 9223372036854775807 by omega)).2⟩, rfl⟩⟩⟩⟩⟩⟩
  · simp [rot, walkB, nusB, gt, tS_dS, fI_dI, n0, n1, v2, v3, v4]
theorem rd_foe : RgB pFoe (fun d => ShL foeT d ∧ foeB d = true) := fun r d r' hr h => by
  obtain ⟨c1, h1, rfl⟩ := rotd_inv h
  obtain ⟨hr2, dd, e, x0, y0, rfl, ⟨p0, rfl, hp0, hp1⟩, x1, y1, rfl, ⟨s0, rfl, n0, m0⟩, x2, y2, rfl, ⟨s1, rfl, n1, m1⟩, x3, y3, rfl, rfl, rfl⟩ := (r_cons r_pos (r_cons r_name (r_cons r_name (r_cons (r_the _) r_nil)))) [] r _ _ hr h1
  simp only [List.nil_append, List.cons_append, List.append_nil] at e
  subst e
  refine ⟨hr2, ?_, ?_⟩
  · simp only [rot, List.cons_append, List.nil_append, ShL, Sh1, foeT]
    exact ⟨_, _, rfl, ⟨_, rfl, by unfold maxLen; omega⟩, ⟨_, _, rfl, ⟨_, rfl, by unfold maxLen; omega⟩, ⟨_, _, rfl, ⟨_, rfl, ((show -9223372036854775808 ≤ p0 ∧ p0 ≤ 9223372036854775807 by omega)).1, ((show -9223372036854775808 ≤ p0 ∧ p0 ≤ 9223372036854775807 by omega)).2⟩, rfl⟩⟩⟩
  · simp [rot, foeB, nusB, gt, tS_dS, fI_dI, n0, n1]
theorem rd_stop : RgB pStop (fun d => ShL stopT d ∧ stopB d = true) := fun r d r' hr h => by
  obtain ⟨c1, h1, rfl⟩ := rotd_inv h
  obtain ⟨hr2, dd, e, x0, y0, rfl, ⟨p0, rfl, hp0, hp1⟩, x1, y1, rfl, ⟨s0, rfl, n0, m0⟩, x2, y2, rfl, rfl, x3, y3, rfl, ⟨s1, rfl, n1, m1⟩, x4, y4, rfl, rfl, x5, y5, rfl, ⟨s2, rfl, n2, m2⟩, x6, y6, rfl, rfl, x7, y7, rfl, ⟨u3, rfl, v3⟩, x8, y8, rfl, rfl, x9, y9, rfl, ⟨u4, rfl, v4⟩, x10, y10, rfl, rfl, rfl⟩ := (r_cons r_pos (r_cons r_name (r_cons (r_the _) (r_cons r_name (r_cons (r_the _) (r_cons r_name (r_cons (r_the _) (r_cons r_num (r_cons (r_the _) (r_cons r_num (r_cons (r_the _) r_nil))))))))))) [] r _ _ hr h1
  simp only [List.nil_append, List.cons_append, List.append_nil] at e
  subst e
  refine ⟨hr2, ?_, ?_⟩
  · simp only [rot, List.cons_append, List.nil_append, ShL, Sh1, stopT]
    exact ⟨_, _, rfl, ⟨_, rfl, by unfold maxLen; omega⟩, ⟨_, _, rfl, ⟨_, rfl, by unfold maxLen; omega⟩, ⟨_, _, rfl, ⟨_, rfl, by unfold maxLen; omega⟩, ⟨_, _, rfl, ⟨_, rfl, (nu_i v3).1, (nu_i v3).2⟩, ⟨_, _, rfl, ⟨_, rfl, (nu_i v4).1, (nu_i v4).2⟩, ⟨_, _, rfl, ⟨_, rfl, ((show -9223372036854775808 ≤ p0 ∧ p0 ≤ 9223372036854775807 by omega)).1, ((show -9223372036854775808 ≤ p0 ∧ p0 ≤ 9223372036854775807 by omega)).2⟩, rfl⟩⟩⟩⟩⟩⟩
  · simp [rot, stopB, nusB, gt, tS_dS, fI_dI, n0, n1, n2, v3, v4]
theorem rd_phase : RgB pPhase (fun d => ShL phaseT d ∧ phaseB d = true) := fun r d r' hr h => by
  obtain ⟨c1, h1, rfl⟩ := rotd_inv h
  obtain ⟨hr2, dd, e, x0, y0, rfl, ⟨p0, rfl, hp0, hp1⟩, x1, y1, rfl, ⟨s0, rfl, n0, m0⟩, x2, y2, rfl, rfl, x3, y3, rfl, ⟨L, rfl, hL, hl⟩, x4, y4, rfl, rfl, rfl⟩ := (r_cons r_pos (r_cons r_name (r_cons (r_the _) (r_cons (r_names _ _) (r_cons (r_the _) r_nil))))) [] r _ _ hr h1
  simp only [List.nil_append, List.cons_append, List.append_nil] at e
  subst e
  refine ⟨hr2, ?_, ?_⟩
  · simp only [rot, List.cons_append, List.nil_append, ShL, Sh1, phaseT]
    exact ⟨_, _, rfl, ⟨_, rfl, by unfold maxLen; omega⟩, ⟨_, _, rfl, ⟨_, rfl, by unfold maxLen; omega, hL.2⟩, ⟨_, _, rfl, ⟨_, rfl, by omega, by omega⟩, rfl⟩⟩⟩
  · simp [rot, phaseB, gt, tS_dS, fL_row, n0, hL.1]
theorem rd_ring : RgB pRing (fun d => ShL rowT d ∧ ringB d = true) := fun r d r' hr h => by
  obtain ⟨hr2, dd, e, x0, y0, rfl, ⟨f0, rfl⟩, x1, y1, rfl, ⟨L, rfl, hL, hl⟩, x2, y2, rfl, rfl, rfl⟩ := (r_cons (r_may _) (r_cons (r_names _ _) (r_cons (r_the _) r_nil))) [] r _ _ hr h
  simp only [List.nil_append, List.cons_append, List.append_nil] at e
  subst e
  refine ⟨hr2, ?_, ?_⟩
  · simp only [ShL, Sh1, rowT]
    exact ⟨_, _, rfl, ⟨_, rfl⟩, ⟨_, _, rfl, ⟨_, rfl, by unfold maxLen; omega, hL.2⟩, rfl⟩⟩
  · simp [ringB, gt, fL_row, hL.1]
theorem rd_group : RgB pGroup (fun d => ShL groupT d ∧ groupB d = true) := fun r d r' hr h => by
  obtain ⟨c1, r1, k1, k2⟩ := sq_inv h
  obtain ⟨c2, r2, k3, k4⟩ := sq_inv k2
  obtain ⟨c3, r3, k5, k6⟩ := sq_inv k4
  obtain ⟨c4, r4, k7, k8⟩ := sq_inv k6
  obtain ⟨g1, d1, e1, rfl⟩ := r_the _ _ _ _ _ hr k1
  obtain ⟨g2, d2, e2, L, rfl, hl, hL⟩ := r_row rd_ring _ _ _ _ g1 k3
  have g3 : (∀ t ∈ r3, Tg t) ∧ c3 = c2 ∧ ∀ e z, c2 ≠ [.row e z []] := by
    have h5 := some_inv k5
    have h6 : r3 = r2 := by
      unfold pSome at k5
      split at k5
      · exact absurd k5 bad_ne
      · simp only [Except.ok.injEq, Prod.mk.injEq] at k5; exact k5.2.symm
    rw [h6]
    exact ⟨g2, h5.1, h5.2⟩
  obtain ⟨g4, d4, e4, rfl⟩ := r_the _ _ _ _ _ g3.1 k7
  have k9 := sq_end k8
  simp only [Prod.mk.injEq] at k9
  obtain ⟨rfl, rfl⟩ := k9
  simp only [List.nil_append, List.append_nil] at e1 e2 e4
  subst e1
  simp only [List.nil_append] at e2
  rw [e4, g3.2.1, e2]
  have hne := g3.2.2
  rw [e2] at hne
  have h1 : 1 ≤ L.length := by
    cases L with
    | nil => exact absurd rfl (hne _ _)
    | cons x xs => simp
  refine ⟨g4, ?_, ?_⟩
  · simp only [ShL, Sh1, groupT]
    exact ⟨_, _, rfl, ⟨_, rfl, by unfold maxLen; omega, fun x hx => (hL x hx).1⟩, rfl⟩
  · show rowB 1 2 ringB L = true
    exact rowB_of h1 hl (fun x hx => (hL x hx).2)
theorem rd_node : RgB pNode (fun d => ShL nodeT d ∧ nodeB d = true) := fun r d r' hr h => by
  obtain ⟨c1, h1, rfl⟩ := rotd_inv h
  obtain ⟨hr2, dd, e, x0, y0, rfl, ⟨p0, rfl, hp0, hp1⟩, x1, y1, rfl, ⟨s0, rfl, n0, m0⟩, x2, y2, rfl, rfl, x3, y3, rfl, ⟨L1, rfl, l1, g1⟩, x4, y4, rfl, ⟨L2, rfl, l2, g2⟩, x5, y5, rfl, ⟨L3, rfl, l3, g3⟩, x6, y6, rfl, ⟨L4, rfl, l4, g4⟩, x7, y7, rfl, ⟨L5, rfl, l5, g5⟩, x8, y8, rfl, rfl, rfl⟩ := (r_cons r_pos (r_cons r_name (r_cons (r_the _) (r_cons (r_row rd_head) (r_cons (r_row rd_walk) (r_cons (r_row rd_phase) (r_cons (r_row rd_group) (r_cons (r_row rd_foe) (r_cons (r_the _) r_nil))))))))) [] r _ _ hr h1
  simp only [List.nil_append, List.cons_append, List.append_nil] at e
  subst e
  refine ⟨hr2, ?_, ?_⟩
  · simp only [rot, List.cons_append, List.nil_append, ShL, Sh1, nodeT]
    exact ⟨_, _, rfl, ⟨_, rfl, by unfold maxLen; omega⟩, ⟨_, _, rfl, ⟨_, rfl, by unfold maxLen; omega, fun x hx => (g1 x hx).1⟩, ⟨_, _, rfl, ⟨_, rfl, by unfold maxLen; omega, fun x hx => (g2 x hx).1⟩, ⟨_, _, rfl, ⟨_, rfl, by unfold maxLen; omega, fun x hx => (g3 x hx).1⟩, ⟨_, _, rfl, ⟨_, rfl, by unfold maxLen; omega, fun x hx => (g4 x hx).1⟩, ⟨_, _, rfl, ⟨_, rfl, by unfold maxLen; omega, fun x hx => (g5 x hx).1⟩, ⟨_, _, rfl, ⟨_, rfl, by omega, by omega⟩, rfl⟩⟩⟩⟩⟩⟩⟩
  · have b1 := rowB_of (lo := 0) (Nat.zero_le _) l1 (fun x hx => (g1 x hx).2)
    have b2 := rowB_of (lo := 0) (Nat.zero_le _) l2 (fun x hx => (g2 x hx).2)
    have b3 := rowB_of (lo := 0) (Nat.zero_le _) l3 (fun x hx => (g3 x hx).2)
    have b4 := rowB_of (lo := 0) (Nat.zero_le _) l4 (fun x hx => (g4 x hx).2)
    have b5 := rowB_of (lo := 0) (Nat.zero_le _) l5 (fun x hx => (g5 x hx).2)
    simp [rot, nodeB, gt, tS_dS, fL_row, n0, b1, b2, b3, b4, b5]
theorem r_art : RgC pArt (fun d => ∃ L x y, d = [.row 49 6 L, dI x, dI y] ∧ L.length ≤ 12 ∧ (∀ z ∈ L, ShL stopT z ∧ stopB z = true) ∧ nuB x = true ∧ nuB y = true) := fun c r c' r' hr h => by
  unfold pArt at h
  split at h
  · cases h
  · rename_i r1 h1
    have hr1 := (r_may _ _ _ _ _ hr h1).1
    obtain ⟨hr2, dd, e, x0, y0, rfl, rfl, x1, y1, rfl, ⟨L, rfl, l0, g0⟩, x2, y2, rfl, rfl, x3, y3, rfl, ⟨u7, rfl, v7⟩, x4, y4, rfl, ⟨u8, rfl, v8⟩, x5, y5, rfl, rfl, x6, y6, rfl, rfl, rfl⟩ := (r_cons (r_the _) (r_cons (r_row rd_stop) (r_cons (r_the _) (r_cons r_num (r_cons r_num (r_cons (r_the _) (r_cons (r_the _) r_nil))))))) c r1 _ _ hr1 h
    exact ⟨hr2, _, e, L, u7, u8, rfl, l0, g0, v7, v8⟩
  · rename_i r1 _ h1
    simp only [Except.ok.injEq, Prod.mk.injEq] at h
    obtain ⟨rfl, rfl⟩ := h
    exact ⟨(r_may _ _ _ _ _ hr h1).1, _, rfl, [], 0, 0, rfl, by simp, (fun z hz => by cases hz), rfl, rfl⟩
theorem read_right {l : List UInt8} {cs : List D} (h : N l = .ok cs) : ShL netT cs ∧ netB cs = true := by
  unfold N at h
  cases hT : T l with
  | error x => rw [hT] at h; cases h
  | ok L =>
    rw [hT] at h
    simp only at h
    have hl := (T_ok hT).1
    have hr := tk_tg l.length l 0 L (Nat.le_refl _) (by omega) (T_ok hT).2
    cases hp : pNet L with
    | error x => rw [hp] at h; cases h
    | ok q =>
      obtain ⟨c, s⟩ := q
      rw [hp] at h
      simp only [Except.ok.injEq] at h
      subst h
      obtain ⟨hr2, dd, e, x0, y0, rfl, rfl, x1, y1, rfl, ⟨u0, rfl, v0⟩, x2, y2, rfl, rfl, x3, y3, rfl, ⟨u1, rfl, v1⟩, x4, y4, rfl, rfl, x5, y5, rfl, ⟨u2, rfl, v2⟩, x6, y6, rfl, rfl, x7, y7, rfl, rfl, x8, y8, rfl, ⟨u3, u4, rfl, v3, v4⟩, x9, y9, rfl, rfl, x10, y10, rfl, ⟨L5, rfl, l5, g5⟩, x11, y11, rfl, ⟨L6, u7, u8, rfl, l6, g6, v7, v8⟩, x12, y12, rfl, rfl, rfl⟩ := (r_cons (r_the _) (r_cons r_num (r_cons (r_the _) (r_cons r_num (r_cons (r_the _) (r_cons r_num (r_cons (r_the _) (r_cons (r_the _) (r_cons r_frac (r_cons (r_the _) (r_cons (r_row rd_node) (r_cons r_art (r_cons r_end r_nil))))))))))))) [] L _ _ hr hp
      simp only [List.nil_append, List.cons_append, List.append_nil] at e
      subst e
      refine ⟨?_, ?_⟩
      · simp only [ShL, Sh1, netT]
        exact ⟨_, _, rfl, ⟨_, rfl, (nu_i v0).1, (nu_i v0).2⟩, ⟨_, _, rfl, ⟨_, rfl, (nu_i v1).1, (nu_i v1).2⟩, ⟨_, _, rfl, ⟨_, rfl, (nu_i v2).1, (nu_i v2).2⟩, ⟨_, _, rfl, ⟨_, rfl, (nu_i v3).1, (nu_i v3).2⟩, ⟨_, _, rfl, ⟨_, rfl, (nu_i v4).1, (nu_i v4).2⟩, ⟨_, _, rfl, ⟨_, rfl, by unfold maxLen; omega, fun x hx => (g5 x hx).1⟩, ⟨_, _, rfl, ⟨_, rfl, by unfold maxLen; omega, fun x hx => (g6 x hx).1⟩, ⟨_, _, rfl, ⟨_, rfl, (nu_i v7).1, (nu_i v7).2⟩, ⟨_, _, rfl, ⟨_, rfl, (nu_i v8).1, (nu_i v8).2⟩, rfl⟩⟩⟩⟩⟩⟩⟩⟩⟩
      · have b5 := rowB_of (lo := 0) (Nat.zero_le _) l5 (fun x hx => (g5 x hx).2)
        have b6 := rowB_of (lo := 0) (Nat.zero_le _) l6 (fun x hx => (g6 x hx).2)
        simp [netB, nusB, gt, fI_dI, fL_row, v0, v1, v2, v3, v4, v7, v8, b5, b6]
end S
end Go.Proofs.YtcdnbdajnagfiaaGreatDoor

namespace Go.Proofs.YtcdnbdajnagfiaaGreatDoor
open Go.RowKit
set_option linter.unusedVariables false
set_option linter.unusedSimpArgs false
set_option maxRecDepth 10000
namespace Q
/-- where a row of a box stands: the world when it began, and now -/
structure LS (b gb j : Nat) (w2 : World) (e z : Nat) (us : List Value) (wr : World) (L : List (List D)) (a : Option Addr) (n cap : Nat) (Y : Except Er (List Tok)) : Prop where
  ro : RO (fun i => i = b ∨ i = gb) w2 e z wr L (.slice a n cap)
  bx : Bxs wr gb (us.set j (.slice a n cap))
  sr : Sr wr b Y
  hn : L.length = n
  hb : b < gb
  hg : gb < w2.heap.size
  hj : j < us.length
theorem LS.start {b gb j : Nat} {w2 : World} {e z : Nat} {us : List Value} {Y : Except Er (List Tok)} (hs : Sr w2 b Y) (hx : Bxs w2 gb us) (hj : us[j]? = some (.slice none 0 0)) (hb : b < gb) (hg : gb < w2.heap.size) : LS b gb j w2 e z us w2 [] none 0 0 Y := by
  have hl : j < us.length := by
    rcases Nat.lt_or_ge j us.length with h | h
    · exact h
    · rw [List.getElem?_eq_none h] at hj; cases hj
  refine ⟨RO.start _ _ _ _, ?_, hs, rfl, hb, hg, hl⟩
  have : us.set j (.slice none 0 0) = us := by
    apply List.ext_getElem?
    intro i
    by_cases e : j = i
    · subst e; rw [List.getElem?_set_self hl, hj]
    · rw [List.getElem?_set_ne e]
  rw [this]
  exact hx
theorem LS.gw {b gb j : Nat} {w2 : World} {e z : Nat} {us : List Value} {wr : World} {L : List (List D)} {a : Option Addr} {n cap : Nat} {Y : Except Er (List Tok)} (h : LS b gb j w2 e z us wr L a n cap Y) : gb < wr.heap.size := Nat.lt_of_lt_of_le h.hg h.ro.fr.size
theorem LS.move {b gb j : Nat} {w2 : World} {e z : Nat} {us : List Value} {wr w3 : World} {L : List (List D)} {a : Option Addr} {n cap : Nat} {Y Y' : Except Er (List Tok)} (h : LS b gb j w2 e z us wr L a n cap Y) (k : Fr (fun i => i = b) wr w3) (hs : Sr w3 b Y') : LS b gb j w2 e z us w3 L a n cap Y' :=
  ⟨h.ro.move k (fun i x => ⟨.inl x, by have := h.hb; have := h.hg; omega⟩), h.bx.move (k.block gb h.gw (fun x => by have := h.hb; omega)), hs, h.hn, h.hb, h.hg, h.hj⟩
theorem LS.cell {b gb j : Nat} {w2 : World} {e z : Nat} {us : List Value} {wr : World} {L : List (List D)} {a : Option Addr} {n cap : Nat} {Y : Except Er (List Tok)} (h : LS b gb j w2 e z us wr L a n cap Y) : wr.cell? ⟨gb, j, none⟩ = some (.slice a n cap) ∧ wr.frozen? ⟨gb, j, none⟩ = false :=
  h.bx j _ (by rw [List.getElem?_set_self h.hj])
theorem LS.own {b gb j : Nat} {w2 : World} {e z : Nat} {us : List Value} {wr W6 : World} {L : List (List D)} {a : Option Addr} {n cap : Nat} {Y : Except Er (List Tok)} (h : LS b gb j w2 e z us wr L a n cap Y) (k : Fr (fun i => i = b) wr W6) : ∃ xs, W6.ownsRow 0 e z (.slice a n cap) n xs := by
  obtain ⟨xs, h1, _⟩ := (h.ro.move k (fun i x => ⟨.inl x, by have := h.hb; have := h.hg; omega⟩)).shape
  rw [h.hn] at h1
  exact ⟨xs, h1⟩
theorem LS.app {b gb j : Nat} {w2 : World} {e z : Nat} {us : List Value} {wr W6 wa w8 : World} {L : List (List D)} {a a' : Option Addr} {n cap cap' : Nat} {Y Y6 : Except Er (List Tok)} {ds : List D} {xs vs : List Value} (h : LS b gb j w2 e z us wr L a n cap Y) (k : Fr (fun i => i = b) wr W6) (hs : Sr W6 b Y6) (hd : Rds W6 ds (fun i => wr.heap.size ≤ i) vs) (hz : ds.length = z) (hka : Keep W6 wa) (hxs : W6.ownsRow 0 e z (.slice a n cap) n xs) (hown : w8.ownsRow 0 e z (.slice a' (n + 1) cap') (n + 1) (xs ++ vs)) (hg : wa.grownBy w8 (Value.slice a n cap).ownBlock) (hat : (Value.slice a' (n + 1) cap').ownBlock = (Value.slice a n cap).ownBlock ∨ (Value.slice a' (n + 1) cap').ownBlock = some wa.heap.size) :
    LS b gb j w2 e z us (w8.setCell ⟨gb, j, none⟩ (.slice a' (n + 1) cap')) (L ++ [ds]) a' (n + 1) cap' Y6 ∧ w8.cell? ⟨gb, j, none⟩ = some (.slice a n cap) ∧ w8.frozen? ⟨gb, j, none⟩ = false := by
  have hro := h.ro.move k (fun i x => ⟨.inl x, by have := h.hb; have := h.hg; omega⟩)
  obtain ⟨_, _, hlt⟩ := h.ro.shape
  have A := hro.app hka (fun i x => by rcases x with x | x <;> (have := h.hb; have := h.hg; omega)) (B := wr.heap.size) (fun g hg' => (hlt g hg').2) h.ro.fr.size hd hz (by rw [h.hn]; exact hxs) (by rw [h.hn]; exact hown) hg hat
  have hb6 : W6.heap[gb]? = wr.heap[gb]? := k.block gb h.gw (fun x => by have := h.hb; omega)
  have hb8 : w8.heap[gb]? = wr.heap[gb]? := (A.2 gb h.hg).trans hb6
  have hbx8 : Bxs w8 gb (us.set j (.slice a n cap)) := h.bx.move hb8
  have hc8 := hbx8 j _ (by rw [List.getElem?_set_self h.hj])
  refine ⟨⟨A.1.set _ _ rfl (.inr rfl) h.hg, ?_, ?_, by rw [List.length_append, h.hn]; rfl, h.hb, h.hg, h.hj⟩, hc8⟩
  · have := hbx8.set j (.slice a' (n + 1) cap')
    rwa [List.set_set] at this
  · refine (hs.far (fun i hi => A.2 i (by have := h.hb; have := h.hg; omega))).set _ _ ?_
    exact h.hb
/-- at its end the row reads so, in the box -/
theorem LS.fin {b gb j : Nat} {w2 : World} {e z : Nat} {us : List Value} {wr : World} {L : List (List D)} {a : Option Addr} {n cap : Nat} {Y : Except Er (List Tok)} (h : LS b gb j w2 e z us wr L a n cap Y) : Rd wr (.row e z L) (fun i => w2.heap.size ≤ i) (.slice a n cap) ∧ Fr (fun i => i = b ∨ i = gb) w2 wr := ⟨h.ro.row, h.ro.fr⟩
/-- what the round of a loop knows -/
theorem body_rem {word : List UInt8} {n most : Nat} {body : List Tok → Rs} (hm : Mon body) {Y : Except Er (List Tok)} {t : Tok} {r : List Tok} {w w' : World} {b : Nat} (hY : Y = .ok (t :: r)) (hs : Sr w b Y) (hs' : Sr w' b (toks (body r))) : rem w' b < rem w b := by
  subst hY
  rw [rem_ok hs]
  cases hx : body r with
  | error x => rw [hx] at hs'; rw [rem_err (x := x) hs']; simp
  | ok q =>
    obtain ⟨c, r'⟩ := q
    rw [hx] at hs'
    rw [rem_ok (r := r') hs']
    have := hm _ _ _ hx
    simp
    omega
end Q
end Go.Proofs.YtcdnbdajnagfiaaGreatDoor
