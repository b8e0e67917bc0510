/- Package group: a time that no layout is shorter than. -/
import Derived.Test.YtakandlehneciaaGpT
namespace Go.Proofs.Ytakandlehneciaa
open Go.RowKit
attribute [local go_sem ↓] Go.wp_at_zero Go.wp_at_succ
set_option linter.unusedVariables false
set_option linter.unusedSimpArgs false
set_option maxRecDepth 10000
namespace Gp
open Pa
theorem max_if (a b : Int) : (if a < b then b else a) = max a b := by split <;> omega
theorem wpList_max3 {ops : Array Oper} {rest : List Oper} {o : Oper} {a : Act} {Q : Exit → Act → World → Prop} (w : World) (hgd : o.guard = none) (s x y : Operand) (t : TypeId) (A B C : Int)
    (ho : o.op = .call { callee := .builtin .max, args := #[s, x, y], argTypes := #[t, t, t] }) (hs : a.eval s = .int .i64 A) (hx : a.eval x = .int .i64 B) (hy : a.eval y = .int .i64 C)
    (h : wpList Try.prog ops Q rest (a.put o.dst (.int .i64 (max (max A B) C))) w) : wpList Try.prog ops Q (o :: rest) a w :=
  wpList_plain hgd fun K hK => by
    unfold Oper.wp execOp
    simp only [ho, resolve, invoke, builtin, Sem.run_bind, Sem.run_pure, Result.andThen_ok, List.map_toArray, List.map_cons, List.map_nil, hs, hx, hy]
    simp [Builtin.max_, Builtin.max2, -gt_iff_lt]
    refine hK _ _ ?_
    have e : (if C > (if B > A then B else A) then C else (if B > A then B else A)) = max (max A B) C := by split <;> split at * <;> omega
    rw [e]
    exact h
set_option maxHeartbeats 8000000 in
theorem floor_core (vr vd : Value) (RR : List (List Int)) (D : List P2) (r0 r1 : List Int) (F G : Nat → Int) (A B : Nat → Nat → Int) (w : World) (hR : Ir w vr RR) (hD : Ps w vd D) (hl : RR.length ≤ 1000) (hm : D.length ≤ 16)
    (hrow : Hid (∀ L ∈ RR, L.length ≤ 1000 ∧ ∀ t ∈ L, 0 ≤ t ∧ t ≤ 6000))
    (h2 : Hid (0 < D.length → 2 ≤ RR.length ∧ RR.getD 0 [] = r0 ∧ RR.getD 1 [] = r1))
    (hp : Hid (∀ k, k < D.length → ∃ p q : Nat, D.getD k z2 = ((p : Int), (q : Int)) ∧ p < r0.length ∧ q < r1.length ∧ A k 0 = r0.getD p 0 ∧ B k 0 = r1.getD q 0 ∧ (∀ j, j < D.length → ∃ s t : Nat, D.getD j z2 = ((s : Int), (t : Int)) ∧ s < r0.length ∧ t < r1.length ∧ A k (j + 1) = (if s = p then A k j + r1.getD t 0 else A k j) ∧ B k (j + 1) = (if t = q then B k j + r0.getD s 0 else B k j))))
    (hF : Hid (∀ k, k < RR.length → F (k + 1) = max (F k) (sumN (RR.getD k [])))) (hF0 : Hid (F 0 = 0)) (hG0 : Hid (G 0 = F RR.length))
    (hG : Hid (∀ k, k < D.length → G (k + 1) = max (max (G k) (A k D.length)) (B k D.length)))
    (hb : Hid (∀ k j, 0 ≤ A k j ∧ A k j ≤ 1000000 ∧ 0 ≤ B k j ∧ B k j ≤ 1000000)) (hr : Hid (∀ k, 0 ≤ r0.getD k 0 ∧ r0.getD k 0 ≤ 6000 ∧ 0 ≤ r1.getD k 0 ∧ r1.getD k 0 ≤ 6000)) :
    Calls Try.prog 34 #[vr, vd] w fun e w' => e = .returned (.int .i64 (G D.length)) ∧ Keep w w' := by
  have TS := hide (fun (k : Nat) (hk : k < RR.length) (u : Value) (w' : World) (h : Is w' u (RR.getD k [])) => sum_any u (RR.getD k []) w' h ((unhide hrow) _ (getD_mem hk)).1 ((unhide hrow) _ (getD_mem hk)).2)
  have HI := hide hR
  obtain ⟨a, cap, rfl, hca, hR⟩ := hR
  have HR := hide hR
  clear hR
  obtain ⟨ad9, cap9, rfl, -, hD⟩ := hD
  have HD := hide hD
  clear hD
  generalize hnr : RR.length = nr at *
  generalize hnd : D.length = nd at *
  have HNR := hide hnr
  have KK := hide (Keep.refl w)
  clear hnr hnd
  go_enter Try.func34, Try.ntmps34
  go_wp2_with fail
  go_loopw [5, 16] (fun vs vi wr => ∃ k : Nat, k ≤ nr ∧ vi = .int .i64 (k : Int) ∧ vs = .int .i64 (F k) ∧ Hid (Keep w wr)) (fun vs vi _ => nr - (intOf vi).toNat)
  case atStart => exact ⟨0, Nat.zero_le _, rfl, by rw [unhide hF0], KK⟩
  case round =>
    obtain ⟨k, hk, rfl, rfl, KW⟩ := hrel
    by_cases hlt : k < nr
    · have li : (k : Int) < (nr : Int) := by omega
      obtain ⟨ad, u, rfl, c0, hu⟩ := (unhide HR) k hlt
      have y0 := kc (unhide KW) c0
      have TK := hide ((unhide TS) k hlt u wr (hu.keep (unhide KW)))
      have hn := unhide hF k hlt
      generalize sumN (RR.getD k []) = sk at TK hn
      have HN := hide hn
      clear c0
      obtain ⟨ua, uc, rfl, -⟩ := hu
      go_wp2_with fail
      (refine (unhide TK).mono ?_; rintro e w2 ⟨rfl, hk9⟩; have K2 := hide ((unhide KW).trans hk9); clear hk9)
      go_wp2_with fail
      go_roundw
      case rel => exact ⟨k + 1, hlt, by go_num, by rw [unhide HN, max_if], K2⟩
      case measure => simp [intOf]; omega
    · have li : ¬ (k : Int) < (nr : Int) := by omega
      obtain rfl : k = nr := by omega
      have HG0 := hide (unhide hG0)
      have K1 := KW
      clear KW KK li
      go_wp2_with fail
      go_loopw [5, 27] (fun vs vi wr => ∃ k : Nat, k ≤ nd ∧ vi = .int .i64 (k : Int) ∧ vs = .int .i64 (G k) ∧ Hid (Keep w wr)) (fun vs vi _ => nd - (intOf vi).toNat)
      case atStart => exact ⟨0, Nat.zero_le _, rfl, by rw [unhide HG0], K1⟩
      case round =>
        clear K1 HG0
        obtain ⟨i, hi, rfl, rfl, KW⟩ := hrel
        by_cases hlt : i < nd
        · have li : (i : Int) < (nd : Int) := by omega
          obtain ⟨h2a, h2b, h2c⟩ := unhide h2 (by omega)
          obtain ⟨ad, rfl, c2⟩ := (unhide HD) i hlt
          obtain ⟨p, q, ep, hp1, hq1, hA0, hB0, hst⟩ := (unhide hp) i hlt
          rw [ep] at c2
          obtain ⟨x0, x1⟩ := c2.keep (unhide KW)
          simp only at x0 x1
          obtain ⟨ar, u0, ea, c0, hu0⟩ := (unhide HR) 0 (by omega)
          obtain ⟨ar2, u1, ea2, c1, hu1⟩ := (unhide HR) 1 (by omega)
          rw [ea2] at ea
          injection ea with ea
          subst ea ea2
          generalize ar2 = ar at *
          rw [h2b] at hu0
          rw [h2c] at hu1
          obtain ⟨a0, cap0, rfl, hu0⟩ := hu0
          obtain ⟨a1, cap1, rfl, hu1⟩ := hu1
          obtain ⟨ad0, ea0, cp0⟩ := hu0 p hp1
          subst ea0
          obtain ⟨ad1, ea1, cp1⟩ := hu1 q hq1
          subst ea1
          have c0 := add_0 c0
          have c1 := add_1 c1
          obtain ⟨x9, hx9⟩ : ∃ x, r0.getD p 0 = x := ⟨_, rfl⟩
          obtain ⟨y9, hy9⟩ : ∃ x, r1.getD q 0 = x := ⟨_, rfl⟩
          rw [hx9] at cp0 hA0
          rw [hy9] at cp1 hB0
          have HA0 := hide hA0
          have HB0 := hide hB0
          clear hA0 hB0 hx9 hy9
          have U0 := hide hu0
          have U1 := hide hu1
          have HST := hide hst
          clear hu0 hu1 hst c2 ep
          have B0 := c2_new wr (p : Int) (q : Int) 55
          obtain ⟨b0, b1⟩ := B0
          simp only at b0 b1
          have K1 := (Keep.refl wr).alloc (.cells #[.int .i64 (p : Int), .int .i64 (q : Int)] 55)
          have CK := hide (fun (w' : World) (hk : Keep (wr.alloc (.cells #[.int .i64 (p : Int), .int .i64 (q : Int)] 55)) w') => (⟨kc hk b0, kc hk b1, kc ((unhide KW).trans (K1.trans hk)) c0, kc ((unhide KW).trans (K1.trans hk)) c1, kc ((unhide KW).trans (K1.trans hk)) cp0, kc ((unhide KW).trans (K1.trans hk)) cp1⟩ : w'.cell? ⟨wr.heap.size, 0, none⟩ = some (.int .i64 (p : Int)) ∧ w'.cell? ⟨wr.heap.size, 1, none⟩ = some (.int .i64 (q : Int)) ∧ w'.cell? ar = some (.slice (some ad0) r0.length cap0) ∧ w'.cell? ⟨ar.block, ar.off + 1, none⟩ = some (.slice (some ad1) r1.length cap1) ∧ w'.cell? (ad0.add p) = some (.int .i64 x9) ∧ w'.cell? (ad1.add q) = some (.int .i64 y9)))
          have EK := hide (fun (w' : World) (hk : Keep (wr.alloc (.cells #[.int .i64 (p : Int), .int .i64 (q : Int)] 55)) w') => (unhide KW).trans (K1.trans hk))
          clear b0 b1 c0 c1 cp0 cp1 K1
          have lp0 : (0 : Int) ≤ (p : Int) := by omega
          have lq0 : (0 : Int) ≤ (q : Int) := by omega
          have lp : (p : Int) < (r0.length : Int) := by omega
          have lq : (q : Int) < (r1.length : Int) := by omega
          have l0 : 0 < k := by omega
          have l1 : (1 : Int) < (k : Int) := by omega
          go_upto_region 10 with fail
          generalize wr.alloc (.cells #[.int .i64 (p : Int), .int .i64 (q : Int)] 55) = w1 at CK EK ⊢
          generalize wr.heap.size = b at CK ⊢
          refine wp_region_held_drew (S := (fun w' => w'.cell? ⟨b, 0, none⟩ = some (.int .i64 (p : Int)) ∧ w'.cell? ⟨b, 1, none⟩ = some (.int .i64 (q : Int)) ∧ w'.cell? ar = some (.slice (some ad0) r0.length cap0) ∧ w'.cell? ⟨ar.block, ar.off + 1, none⟩ = some (.slice (some ad1) r1.length cap1) ∧ w'.cell? (ad0.add p) = some (.int .i64 x9) ∧ w'.cell? (ad1.add q) = some (.int .i64 y9))) (by kernel_rfl) (by exact unhide CK _ (by repeat (first | apply Keep.drew | exact Keep.refl _))) (fun hHeld => ?_)
          refine wpAnyH_take (i := 0) (v := ?_) rfl (by kernel_rfl) (by kernel_rfl) (by kernel_rfl) (fun _ _ _ h => h) (Or.inl ⟨by rfl, ?_⟩) hHeld ?_
          rotate_left
          · intro w hSw
            try dsimp only at hSw
            go_simp
            try with_reducible rfl
          show wpAnyH _ _ _ _ _ _ _ (Act.put _ (some 31) _) _
          try simp only [Act.put, List.setIfInBounds_toArray, List.set_cons_zero, List.set_cons_succ]
          refine wpAnyH_take (i := 1) (v := ?_) rfl (by kernel_rfl) (by kernel_rfl) (by kernel_rfl) (fun _ _ _ h => h) (Or.inl ⟨by rfl, ?_⟩) hHeld ?_
          rotate_left
          · intro w hSw
            try dsimp only at hSw
            go_simp
            try with_reducible rfl
          show wpAnyH _ _ _ _ _ _ _ (Act.put _ (some 32) _) _
          try simp only [Act.put, List.setIfInBounds_toArray, List.set_cons_zero, List.set_cons_succ]
          refine wpAnyH_take (i := 2) (v := ?_) rfl (by kernel_rfl) (by kernel_rfl) (by kernel_rfl) (fun _ _ _ h => h) (Or.inl ⟨by rfl, ?_⟩) hHeld ?_
          rotate_left
          · intro w hSw
            try dsimp only at hSw
            go_simp
            try with_reducible rfl
          show wpAnyH _ _ _ _ _ _ _ (Act.put _ (some 33) _) _
          try simp only [Act.put, List.setIfInBounds_toArray, List.set_cons_zero, List.set_cons_succ]
          refine wpAnyH_take (i := 3) (v := ?_) rfl (by kernel_rfl) (by kernel_rfl) (by kernel_rfl) (fun _ _ _ h => h) (Or.inl ⟨by rfl, ?_⟩) hHeld ?_
          rotate_left
          · intro w hSw
            try dsimp only at hSw
            go_simp
            try with_reducible rfl
          show wpAnyH _ _ _ _ _ _ _ (Act.put _ (some 34) _) _
          try simp only [Act.put, List.setIfInBounds_toArray, List.set_cons_zero, List.set_cons_succ]
          refine wpAnyH_take (i := 4) (v := ?_) rfl (by kernel_rfl) (by kernel_rfl) (by kernel_rfl) (fun _ _ _ h => h) (Or.inl ⟨by rfl, ?_⟩) hHeld ?_
          rotate_left
          · intro w hSw
            try dsimp only at hSw
            go_simp
            try with_reducible rfl
          show wpAnyH _ _ _ _ _ _ _ (Act.put _ (some 35) _) _
          try simp only [Act.put, List.setIfInBounds_toArray, List.set_cons_zero, List.set_cons_succ]
          refine wpAnyH_take (i := 5) (v := ?_) rfl (by kernel_rfl) (by kernel_rfl) (by kernel_rfl) (fun _ _ _ h => h) (Or.inl ⟨by rfl, ?_⟩) hHeld ?_
          rotate_left
          · intro w hSw
            try dsimp only at hSw
            go_simp
            try with_reducible rfl
          show wpAnyH _ _ _ _ _ _ _ (Act.put _ (some 36) _) _
          try simp only [Act.put, List.setIfInBounds_toArray, List.set_cons_zero, List.set_cons_succ]
          refine wpAnyH_take (i := 6) (v := ?_) rfl (by kernel_rfl) (by kernel_rfl) (by kernel_rfl) (fun _ _ _ h => h) (Or.inl ⟨by rfl, ?_⟩) hHeld ?_
          rotate_left
          · intro w hSw
            try dsimp only at hSw
            go_simp
            try with_reducible rfl
          show wpAnyH _ _ _ _ _ _ _ (Act.put _ (some 37) _) _
          try simp only [Act.put, List.setIfInBounds_toArray, List.set_cons_zero, List.set_cons_succ]
          refine wpAnyH_take (i := 7) (v := ?_) rfl (by kernel_rfl) (by kernel_rfl) (by kernel_rfl) (fun _ _ _ h => h) (Or.inl ⟨by rfl, ?_⟩) hHeld ?_
          rotate_left
          · intro w hSw
            try dsimp only at hSw
            go_simp
            try with_reducible rfl
          show wpAnyH _ _ _ _ _ _ _ (Act.put _ (some 38) _) _
          try simp only [Act.put, List.setIfInBounds_toArray, List.set_cons_zero, List.set_cons_succ]
          refine wpAnyH_take (i := 8) (v := ?_) rfl (by kernel_rfl) (by kernel_rfl) (by kernel_rfl) (fun _ _ _ h => h) (Or.inl ⟨by rfl, ?_⟩) hHeld ?_
          rotate_left
          · intro w hSw
            try dsimp only at hSw
            go_simp
            try with_reducible rfl
          show wpAnyH _ _ _ _ _ _ _ (Act.put _ (some 39) _) _
          try simp only [Act.put, List.setIfInBounds_toArray, List.set_cons_zero, List.set_cons_succ]
          refine wpAnyH_take (i := 9) (v := ?_) rfl (by kernel_rfl) (by kernel_rfl) (by kernel_rfl) (fun _ _ _ h => h) (Or.inl ⟨by rfl, ?_⟩) hHeld ?_
          rotate_left
          · intro w hSw
            try dsimp only at hSw
            go_simp
            try with_reducible rfl
          show wpAnyH _ _ _ _ _ _ _ (Act.put _ (some 40) _) _
          try simp only [Act.put, List.setIfInBounds_toArray, List.set_cons_zero, List.set_cons_succ]
          refine wpAnyH_take (i := 10) (v := ?_) rfl (by kernel_rfl) (by kernel_rfl) (by kernel_rfl) (fun _ _ _ h => h) (Or.inl ⟨by rfl, ?_⟩) hHeld ?_
          rotate_left
          · intro w hSw
            try dsimp only at hSw
            go_simp
            try with_reducible rfl
          show wpAnyH _ _ _ _ _ _ _ (Act.put _ (some 41) _) _
          try simp only [Act.put, List.setIfInBounds_toArray, List.set_cons_zero, List.set_cons_succ]
          refine wpAnyH_take (i := 11) (v := ?_) rfl (by kernel_rfl) (by kernel_rfl) (by kernel_rfl) (fun _ _ _ h => h) (Or.inl ⟨by rfl, ?_⟩) hHeld ?_
          rotate_left
          · intro w hSw
            try dsimp only at hSw
            go_simp
            try with_reducible rfl
          show wpAnyH _ _ _ _ _ _ _ (Act.put _ (some 42) _) _
          try simp only [Act.put, List.setIfInBounds_toArray, List.set_cons_zero, List.set_cons_succ]
          refine wpAnyH_take (i := 12) (v := ?_) rfl (by kernel_rfl) (by kernel_rfl) (by kernel_rfl) (fun _ _ _ h => h) (Or.inl ⟨by rfl, ?_⟩) hHeld ?_
          rotate_left
          · intro w hSw
            try dsimp only at hSw
            go_simp
            try with_reducible rfl
          show wpAnyH _ _ _ _ _ _ _ (Act.put _ (some 43) _) _
          try simp only [Act.put, List.setIfInBounds_toArray, List.set_cons_zero, List.set_cons_succ]
          refine wpAnyH_take (i := 13) (v := ?_) rfl (by kernel_rfl) (by kernel_rfl) (by kernel_rfl) (fun _ _ _ h => h) (Or.inl ⟨by rfl, ?_⟩) hHeld ?_
          rotate_left
          · intro w hSw
            try dsimp only at hSw
            go_simp
            try with_reducible rfl
          show wpAnyH _ _ _ _ _ _ _ (Act.put _ (some 44) _) _
          try simp only [Act.put, List.setIfInBounds_toArray, List.set_cons_zero, List.set_cons_succ]
          refine wpAnyH_take (i := 14) (v := ?_) rfl (by kernel_rfl) (by kernel_rfl) (by kernel_rfl) (fun _ _ _ h => h) (Or.inl ⟨by rfl, ?_⟩) hHeld ?_
          rotate_left
          · intro w hSw
            try dsimp only at hSw
            go_simp
            try with_reducible rfl
          show wpAnyH _ _ _ _ _ _ _ (Act.put _ (some 10) _) _
          try simp only [Act.put, List.setIfInBounds_toArray, List.set_cons_zero, List.set_cons_succ]
          refine wpAnyH_take (i := 15) (v := ?_) rfl (by kernel_rfl) (by kernel_rfl) (by kernel_rfl) (fun _ _ _ h => h) (Or.inl ⟨by rfl, ?_⟩) hHeld ?_
          rotate_left
          · intro w hSw
            try dsimp only at hSw
            go_simp
            try with_reducible rfl
          show wpAnyH _ _ _ _ _ _ _ (Act.put _ (some 11) _) _
          try simp only [Act.put, List.setIfInBounds_toArray, List.set_cons_zero, List.set_cons_succ]
          refine wpAnyH_done (by kernel_rfl) ?_ _
          clear hHeld
          go_wp2_with fail
          go_loopw [10, 11, 47] (fun va vb vi wr => ∃ j : Nat, j ≤ nd ∧ vi = .int .i64 (j : Int) ∧ va = .int .i64 (A i j) ∧ vb = .int .i64 (B i j) ∧ Hid (Keep w1 wr)) (fun va vb vi _ => nd - (intOf vi).toNat)
          case atStart => exact ⟨0, Nat.zero_le _, rfl, by rw [unhide HA0], by rw [unhide HB0], hide (by repeat (first | apply Keep.drew | exact Keep.refl _))⟩
          case round =>
            obtain ⟨j, hj, rfl, rfl, rfl, KQ⟩ := hrel
            by_cases hjl : j < nd
            · have lj : (j : Int) < (nd : Int) := by omega
              obtain ⟨ad5, ea5, c5⟩ := (unhide HD) j hjl
              injection ea5 with ea5
              subst ea5
              obtain ⟨s, t, ep5, hs1, ht1, hA5, hB5⟩ := (unhide HST) j hjl
              rw [ep5] at c5
              obtain ⟨z0, z1⟩ := c5.keep (unhide EK _ (unhide KQ))
              simp only at z0 z1
              obtain ⟨ad6, ea6, cp6⟩ := (unhide U0) s hs1
              injection ea6 with ea6
              subst ea6
              obtain ⟨ad7, ea7, cp7⟩ := (unhide U1) t ht1
              injection ea7 with ea7
              subst ea7
              obtain ⟨v0, v1, v2, v3, -, -⟩ := unhide CK _ (unhide KQ)
              obtain ⟨x5, hx5⟩ : ∃ x, r0.getD s 0 = x := ⟨_, rfl⟩
              obtain ⟨y5, hy5⟩ : ∃ x, r1.getD t 0 = x := ⟨_, rfl⟩
              have bx := unhide hr s
              have bt := unhide hr t
              have bi := unhide hb i j
              rw [hx5] at cp6 hB5 bx
              rw [hy5] at cp7 hA5 bt
              clear hx5 hy5 ep5 c5
              obtain ⟨q0, q1⟩ := c2_new wr (s : Int) (t : Int) 55
              simp only at q0 q1
              have K5 := (Keep.refl wr).alloc (.cells #[.int .i64 (s : Int), .int .i64 (t : Int)] 55)
              have CK2 := hide (fun (w' : World) (hk : Keep (wr.alloc (.cells #[.int .i64 (s : Int), .int .i64 (t : Int)] 55)) w') => (⟨kc hk q0, kc hk q1, kc (K5.trans hk) v0, kc (K5.trans hk) v1, kc (K5.trans hk) v2, kc (K5.trans hk) v3, kc ((unhide EK _ (unhide KQ)).trans (K5.trans hk)) cp6, kc ((unhide EK _ (unhide KQ)).trans (K5.trans hk)) cp7⟩ : w'.cell? ⟨wr.heap.size, 0, none⟩ = some (.int .i64 (s : Int)) ∧ w'.cell? ⟨wr.heap.size, 1, none⟩ = some (.int .i64 (t : Int)) ∧ w'.cell? ⟨b, 0, none⟩ = some (.int .i64 (p : Int)) ∧ w'.cell? ⟨b, 1, none⟩ = some (.int .i64 (q : Int)) ∧ w'.cell? ar = some (.slice (some ad0) r0.length cap0) ∧ w'.cell? ⟨ar.block, ar.off + 1, none⟩ = some (.slice (some ad1) r1.length cap1) ∧ w'.cell? (ad0.add s) = some (.int .i64 x5) ∧ w'.cell? (ad1.add t) = some (.int .i64 y5)))
              have E2 := hide (fun (w' : World) (hk : Keep (wr.alloc (.cells #[.int .i64 (s : Int), .int .i64 (t : Int)] 55)) w') => (unhide KQ).trans (K5.trans hk))
              clear q0 q1 v2 v3 cp6 cp7 K5
              have ls0 : (0 : Int) ≤ (s : Int) := by omega
              have lt0 : (0 : Int) ≤ (t : Int) := by omega
              have ls : (s : Int) < (r0.length : Int) := by omega
              have lt : (t : Int) < (r1.length : Int) := by omega
              obtain ⟨b2, hb2⟩ : ∃ b, wr.heap.size = b := ⟨_, rfl⟩
              rw [hb2] at CK2
              clear v0 v1
              have bb : -9223372036854775808 ≤ A i j + y5 ∧ A i j + y5 ≤ 9223372036854775807 ∧ -9223372036854775808 ≤ B i j + x5 ∧ B i j + x5 ≤ 9223372036854775807 := by omega
              obtain ⟨za, hza⟩ : ∃ z, A i (j + 1) = z := ⟨_, rfl⟩
              obtain ⟨zb, hzb⟩ : ∃ z, B i (j + 1) = z := ⟨_, rfl⟩
              rw [hza] at hA5
              rw [hzb] at hB5
              have HAJ := hide hza
              have HBJ := hide hzb
              clear hza hzb bx bt bi
              generalize A i j = xa at hA5 bb ⊢
              generalize B i j = xb at hB5 bb ⊢
              have wa : IntKind.i64.wrap (xa + y5) = xa + y5 := by rw [IntKind.wrap_i64]; omega
              have wb : IntKind.i64.wrap (xb + x5) = xb + x5 := by rw [IntKind.wrap_i64]; omega
              clear bb
              have h4 : (s = p ∧ t = q) ∨ (s = p ∧ ¬ t = q) ∨ (¬ s = p ∧ t = q) ∨ (¬ s = p ∧ ¬ t = q) := by omega
              go_upto_region 14 with fail
              generalize wr.alloc (.cells #[.int .i64 (s : Int), .int .i64 (t : Int)] 55) = w5 at CK2 E2 ⊢
              obtain ⟨q0, q1, v0, v1, -, -, -, -⟩ := unhide CK2 _ (Keep.refl _)
              clear hb2
              rcases h4 with ⟨d1, d2⟩ | ⟨d1, d2⟩ | ⟨d1, d2⟩ | ⟨d1, d2⟩
              · rw [if_pos d1] at hA5
                rw [if_pos d2] at hB5
                subst hA5 hB5
                subst d1
                subst d2
                go_upto_region 15 with fail
                refine wp_region_held_drew (S := (fun w' => w'.cell? ⟨b2, 0, none⟩ = some (.int .i64 (s : Int)) ∧ w'.cell? ⟨b2, 1, none⟩ = some (.int .i64 (t : Int)) ∧ w'.cell? ⟨ar.block, ar.off + 1, none⟩ = some (.slice (some ad1) r1.length cap1) ∧ w'.cell? (ad1.add t) = some (.int .i64 y5))) (by kernel_rfl) (by exact ⟨(unhide CK2 _ (by repeat (first | apply Keep.drew | exact Keep.refl _))).1, (unhide CK2 _ (by repeat (first | apply Keep.drew | exact Keep.refl _))).2.1, (unhide CK2 _ (by repeat (first | apply Keep.drew | exact Keep.refl _))).2.2.2.2.2.1, (unhide CK2 _ (by repeat (first | apply Keep.drew | exact Keep.refl _))).2.2.2.2.2.2.2⟩) (fun hHeld => ?_)
                refine wpAnyH_take (i := 0) (v := ?_) rfl (by kernel_rfl) (by kernel_rfl) (by kernel_rfl) (fun _ _ _ h => h) (Or.inl ⟨by rfl, ?_⟩) hHeld ?_
                rotate_left
                · intro w hSw
                  try dsimp only at hSw
                  go_simp
                  try with_reducible rfl
                show wpAnyH _ _ _ _ _ _ _ (Act.put _ (some 56) _) _
                try simp only [Act.put, List.setIfInBounds_toArray, List.set_cons_zero, List.set_cons_succ]
                refine wpAnyH_take (i := 1) (v := ?_) rfl (by kernel_rfl) (by kernel_rfl) (by kernel_rfl) (fun _ _ _ h => h) (Or.inl ⟨by rfl, ?_⟩) hHeld ?_
                rotate_left
                · intro w hSw
                  try dsimp only at hSw
                  go_simp
                  try with_reducible rfl
                show wpAnyH _ _ _ _ _ _ _ (Act.put _ (some 57) _) _
                try simp only [Act.put, List.setIfInBounds_toArray, List.set_cons_zero, List.set_cons_succ]
                refine wpAnyH_take (i := 2) (v := ?_) rfl (by kernel_rfl) (by kernel_rfl) (by kernel_rfl) (fun _ _ _ h => h) (Or.inl ⟨by rfl, ?_⟩) hHeld ?_
                rotate_left
                · intro w hSw
                  try dsimp only at hSw
                  go_simp
                  try with_reducible rfl
                show wpAnyH _ _ _ _ _ _ _ (Act.put _ (some 58) _) _
                try simp only [Act.put, List.setIfInBounds_toArray, List.set_cons_zero, List.set_cons_succ]
                refine wpAnyH_take (i := 3) (v := ?_) rfl (by kernel_rfl) (by kernel_rfl) (by kernel_rfl) (fun _ _ _ h => h) (Or.inl ⟨by rfl, ?_⟩) hHeld ?_
                rotate_left
                · intro w hSw
                  try dsimp only at hSw
                  go_simp
                  try with_reducible rfl
                show wpAnyH _ _ _ _ _ _ _ (Act.put _ (some 59) _) _
                try simp only [Act.put, List.setIfInBounds_toArray, List.set_cons_zero, List.set_cons_succ]
                refine wpAnyH_take (i := 4) (v := ?_) rfl (by kernel_rfl) (by kernel_rfl) (by kernel_rfl) (fun _ _ _ h => h) (Or.inl ⟨by rfl, ?_⟩) hHeld ?_
                rotate_left
                · intro w hSw
                  try dsimp only at hSw
                  go_simp
                  try with_reducible rfl
                show wpAnyH _ _ _ _ _ _ _ (Act.put _ (some 60) _) _
                try simp only [Act.put, List.setIfInBounds_toArray, List.set_cons_zero, List.set_cons_succ]
                refine wpAnyH_take (i := 5) (v := ?_) rfl (by kernel_rfl) (by kernel_rfl) (by kernel_rfl) (fun _ _ _ h => h) (Or.inl ⟨by rfl, ?_⟩) hHeld ?_
                rotate_left
                · intro w hSw
                  try dsimp only at hSw
                  go_simp
                  try with_reducible rfl
                show wpAnyH _ _ _ _ _ _ _ (Act.put _ (some 61) _) _
                try simp only [Act.put, List.setIfInBounds_toArray, List.set_cons_zero, List.set_cons_succ]
                refine wpAnyH_take (i := 6) (v := ?_) rfl (by kernel_rfl) (by kernel_rfl) (by kernel_rfl) (fun _ _ _ h => h) (Or.inl ⟨by rfl, ?_⟩) hHeld ?_
                rotate_left
                · intro w hSw
                  try dsimp only at hSw
                  go_simp
                  try with_reducible rfl
                show wpAnyH _ _ _ _ _ _ _ (Act.put _ (some 62) _) _
                try simp only [Act.put, List.setIfInBounds_toArray, List.set_cons_zero, List.set_cons_succ]
                refine wpAnyH_take (i := 7) (v := ?_) rfl (by kernel_rfl) (by kernel_rfl) (by kernel_rfl) (fun _ _ _ h => h) (Or.inl ⟨by rfl, ?_⟩) hHeld ?_
                rotate_left
                · intro w hSw
                  try dsimp only at hSw
                  go_simp
                  try with_reducible rfl
                show wpAnyH _ _ _ _ _ _ _ (Act.put _ (some 63) _) _
                try simp only [Act.put, List.setIfInBounds_toArray, List.set_cons_zero, List.set_cons_succ]
                refine wpAnyH_take (i := 8) (v := ?_) rfl (by kernel_rfl) (by kernel_rfl) (by kernel_rfl) (fun _ _ _ h => h) (Or.inl ⟨by rfl, ?_⟩) hHeld ?_
                rotate_left
                · intro w hSw
                  try dsimp only at hSw
                  go_simp
                  try with_reducible rfl
                show wpAnyH _ _ _ _ _ _ _ (Act.put _ (some 64) _) _
                try simp only [Act.put, List.setIfInBounds_toArray, List.set_cons_zero, List.set_cons_succ]
                refine wpAnyH_take (i := 9) (v := ?_) rfl (by kernel_rfl) (by kernel_rfl) (by kernel_rfl) (fun _ _ _ h => h) (Or.inl ⟨by rfl, ?_⟩) hHeld ?_
                rotate_left
                · intro w hSw
                  try dsimp only at hSw
                  go_simp
                  try with_reducible rfl
                show wpAnyH _ _ _ _ _ _ _ (Act.put _ (some 10) _) _
                try simp only [Act.put, List.setIfInBounds_toArray, List.set_cons_zero, List.set_cons_succ]
                refine wpAnyH_done (by kernel_rfl) ?_ _
                clear hHeld
                go_upto_region 17 with fail
                refine wp_region_held_drew (S := (fun w' => w'.cell? ⟨b2, 0, none⟩ = some (.int .i64 (s : Int)) ∧ w'.cell? ⟨b2, 1, none⟩ = some (.int .i64 (t : Int)) ∧ w'.cell? ar = some (.slice (some ad0) r0.length cap0) ∧ w'.cell? (ad0.add s) = some (.int .i64 x5))) (by kernel_rfl) (by exact ⟨(unhide CK2 _ (by repeat (first | apply Keep.drew | exact Keep.refl _))).1, (unhide CK2 _ (by repeat (first | apply Keep.drew | exact Keep.refl _))).2.1, (unhide CK2 _ (by repeat (first | apply Keep.drew | exact Keep.refl _))).2.2.2.2.1, (unhide CK2 _ (by repeat (first | apply Keep.drew | exact Keep.refl _))).2.2.2.2.2.2.1⟩) (fun hHeld => ?_)
                refine wpAnyH_take (i := 0) (v := ?_) rfl (by kernel_rfl) (by kernel_rfl) (by kernel_rfl) (fun _ _ _ h => h) (Or.inl ⟨by rfl, ?_⟩) hHeld ?_
                rotate_left
                · intro w hSw
                  try dsimp only at hSw
                  go_simp
                  try with_reducible rfl
                show wpAnyH _ _ _ _ _ _ _ (Act.put _ (some 70) _) _
                try simp only [Act.put, List.setIfInBounds_toArray, List.set_cons_zero, List.set_cons_succ]
                refine wpAnyH_take (i := 1) (v := ?_) rfl (by kernel_rfl) (by kernel_rfl) (by kernel_rfl) (fun _ _ _ h => h) (Or.inl ⟨by rfl, ?_⟩) hHeld ?_
                rotate_left
                · intro w hSw
                  try dsimp only at hSw
                  go_simp
                  try with_reducible rfl
                show wpAnyH _ _ _ _ _ _ _ (Act.put _ (some 71) _) _
                try simp only [Act.put, List.setIfInBounds_toArray, List.set_cons_zero, List.set_cons_succ]
                refine wpAnyH_take (i := 2) (v := ?_) rfl (by kernel_rfl) (by kernel_rfl) (by kernel_rfl) (fun _ _ _ h => h) (Or.inl ⟨by rfl, ?_⟩) hHeld ?_
                rotate_left
                · intro w hSw
                  try dsimp only at hSw
                  go_simp
                  try with_reducible rfl
                show wpAnyH _ _ _ _ _ _ _ (Act.put _ (some 72) _) _
                try simp only [Act.put, List.setIfInBounds_toArray, List.set_cons_zero, List.set_cons_succ]
                refine wpAnyH_take (i := 3) (v := ?_) rfl (by kernel_rfl) (by kernel_rfl) (by kernel_rfl) (fun _ _ _ h => h) (Or.inl ⟨by rfl, ?_⟩) hHeld ?_
                rotate_left
                · intro w hSw
                  try dsimp only at hSw
                  go_simp
                  try with_reducible rfl
                show wpAnyH _ _ _ _ _ _ _ (Act.put _ (some 73) _) _
                try simp only [Act.put, List.setIfInBounds_toArray, List.set_cons_zero, List.set_cons_succ]
                refine wpAnyH_take (i := 4) (v := ?_) rfl (by kernel_rfl) (by kernel_rfl) (by kernel_rfl) (fun _ _ _ h => h) (Or.inl ⟨by rfl, ?_⟩) hHeld ?_
                rotate_left
                · intro w hSw
                  try dsimp only at hSw
                  go_simp
                  try with_reducible rfl
                show wpAnyH _ _ _ _ _ _ _ (Act.put _ (some 74) _) _
                try simp only [Act.put, List.setIfInBounds_toArray, List.set_cons_zero, List.set_cons_succ]
                refine wpAnyH_take (i := 5) (v := ?_) rfl (by kernel_rfl) (by kernel_rfl) (by kernel_rfl) (fun _ _ _ h => h) (Or.inl ⟨by rfl, ?_⟩) hHeld ?_
                rotate_left
                · intro w hSw
                  try dsimp only at hSw
                  go_simp
                  try with_reducible rfl
                show wpAnyH _ _ _ _ _ _ _ (Act.put _ (some 75) _) _
                try simp only [Act.put, List.setIfInBounds_toArray, List.set_cons_zero, List.set_cons_succ]
                refine wpAnyH_take (i := 6) (v := ?_) rfl (by kernel_rfl) (by kernel_rfl) (by kernel_rfl) (fun _ _ _ h => h) (Or.inl ⟨by rfl, ?_⟩) hHeld ?_
                rotate_left
                · intro w hSw
                  try dsimp only at hSw
                  go_simp
                  try with_reducible rfl
                show wpAnyH _ _ _ _ _ _ _ (Act.put _ (some 76) _) _
                try simp only [Act.put, List.setIfInBounds_toArray, List.set_cons_zero, List.set_cons_succ]
                refine wpAnyH_take (i := 7) (v := ?_) rfl (by kernel_rfl) (by kernel_rfl) (by kernel_rfl) (fun _ _ _ h => h) (Or.inl ⟨by rfl, ?_⟩) hHeld ?_
                rotate_left
                · intro w hSw
                  try dsimp only at hSw
                  go_simp
                  try with_reducible rfl
                show wpAnyH _ _ _ _ _ _ _ (Act.put _ (some 77) _) _
                try simp only [Act.put, List.setIfInBounds_toArray, List.set_cons_zero, List.set_cons_succ]
                refine wpAnyH_take (i := 8) (v := ?_) rfl (by kernel_rfl) (by kernel_rfl) (by kernel_rfl) (fun _ _ _ h => h) (Or.inl ⟨by rfl, ?_⟩) hHeld ?_
                rotate_left
                · intro w hSw
                  try dsimp only at hSw
                  go_simp
                  try with_reducible rfl
                show wpAnyH _ _ _ _ _ _ _ (Act.put _ (some 78) _) _
                try simp only [Act.put, List.setIfInBounds_toArray, List.set_cons_zero, List.set_cons_succ]
                refine wpAnyH_take (i := 9) (v := ?_) rfl (by kernel_rfl) (by kernel_rfl) (by kernel_rfl) (fun _ _ _ h => h) (Or.inl ⟨by rfl, ?_⟩) hHeld ?_
                rotate_left
                · intro w hSw
                  try dsimp only at hSw
                  go_simp
                  try with_reducible rfl
                show wpAnyH _ _ _ _ _ _ _ (Act.put _ (some 11) _) _
                try simp only [Act.put, List.setIfInBounds_toArray, List.set_cons_zero, List.set_cons_succ]
                refine wpAnyH_done (by kernel_rfl) ?_ _
                clear hHeld
                go_wp2_with fail
                go_roundw
                case rel => exact ⟨j + 1, hjl, by go_num, by rw [unhide HAJ], by rw [unhide HBJ], hide (unhide E2 _ (by repeat (first | apply Keep.drew | exact Keep.refl _)))⟩
                case measure => simp [intOf]; omega
              · rw [if_pos d1] at hA5
                rw [if_neg d2] at hB5
                subst hA5 hB5
                subst d1
                have e2 : ((t : Int) == (q : Int)) = false := by simp only [beq_eq_false_iff_ne, ne_eq]; omega
                go_upto_region 15 with fail
                refine wp_region_held_drew (S := (fun w' => w'.cell? ⟨b2, 0, none⟩ = some (.int .i64 (s : Int)) ∧ w'.cell? ⟨b2, 1, none⟩ = some (.int .i64 (t : Int)) ∧ w'.cell? ⟨ar.block, ar.off + 1, none⟩ = some (.slice (some ad1) r1.length cap1) ∧ w'.cell? (ad1.add t) = some (.int .i64 y5))) (by kernel_rfl) (by exact ⟨(unhide CK2 _ (by repeat (first | apply Keep.drew | exact Keep.refl _))).1, (unhide CK2 _ (by repeat (first | apply Keep.drew | exact Keep.refl _))).2.1, (unhide CK2 _ (by repeat (first | apply Keep.drew | exact Keep.refl _))).2.2.2.2.2.1, (unhide CK2 _ (by repeat (first | apply Keep.drew | exact Keep.refl _))).2.2.2.2.2.2.2⟩) (fun hHeld => ?_)
                refine wpAnyH_take (i := 0) (v := ?_) rfl (by kernel_rfl) (by kernel_rfl) (by kernel_rfl) (fun _ _ _ h => h) (Or.inl ⟨by rfl, ?_⟩) hHeld ?_
                rotate_left
                · intro w hSw
                  try dsimp only at hSw
                  go_simp
                  try with_reducible rfl
                show wpAnyH _ _ _ _ _ _ _ (Act.put _ (some 56) _) _
                try simp only [Act.put, List.setIfInBounds_toArray, List.set_cons_zero, List.set_cons_succ]
                refine wpAnyH_take (i := 1) (v := ?_) rfl (by kernel_rfl) (by kernel_rfl) (by kernel_rfl) (fun _ _ _ h => h) (Or.inl ⟨by rfl, ?_⟩) hHeld ?_
                rotate_left
                · intro w hSw
                  try dsimp only at hSw
                  go_simp
                  try with_reducible rfl
                show wpAnyH _ _ _ _ _ _ _ (Act.put _ (some 57) _) _
                try simp only [Act.put, List.setIfInBounds_toArray, List.set_cons_zero, List.set_cons_succ]
                refine wpAnyH_take (i := 2) (v := ?_) rfl (by kernel_rfl) (by kernel_rfl) (by kernel_rfl) (fun _ _ _ h => h) (Or.inl ⟨by rfl, ?_⟩) hHeld ?_
                rotate_left
                · intro w hSw
                  try dsimp only at hSw
                  go_simp
                  try with_reducible rfl
                show wpAnyH _ _ _ _ _ _ _ (Act.put _ (some 58) _) _
                try simp only [Act.put, List.setIfInBounds_toArray, List.set_cons_zero, List.set_cons_succ]
                refine wpAnyH_take (i := 3) (v := ?_) rfl (by kernel_rfl) (by kernel_rfl) (by kernel_rfl) (fun _ _ _ h => h) (Or.inl ⟨by rfl, ?_⟩) hHeld ?_
                rotate_left
                · intro w hSw
                  try dsimp only at hSw
                  go_simp
                  try with_reducible rfl
                show wpAnyH _ _ _ _ _ _ _ (Act.put _ (some 59) _) _
                try simp only [Act.put, List.setIfInBounds_toArray, List.set_cons_zero, List.set_cons_succ]
                refine wpAnyH_take (i := 4) (v := ?_) rfl (by kernel_rfl) (by kernel_rfl) (by kernel_rfl) (fun _ _ _ h => h) (Or.inl ⟨by rfl, ?_⟩) hHeld ?_
                rotate_left
                · intro w hSw
                  try dsimp only at hSw
                  go_simp
                  try with_reducible rfl
                show wpAnyH _ _ _ _ _ _ _ (Act.put _ (some 60) _) _
                try simp only [Act.put, List.setIfInBounds_toArray, List.set_cons_zero, List.set_cons_succ]
                refine wpAnyH_take (i := 5) (v := ?_) rfl (by kernel_rfl) (by kernel_rfl) (by kernel_rfl) (fun _ _ _ h => h) (Or.inl ⟨by rfl, ?_⟩) hHeld ?_
                rotate_left
                · intro w hSw
                  try dsimp only at hSw
                  go_simp
                  try with_reducible rfl
                show wpAnyH _ _ _ _ _ _ _ (Act.put _ (some 61) _) _
                try simp only [Act.put, List.setIfInBounds_toArray, List.set_cons_zero, List.set_cons_succ]
                refine wpAnyH_take (i := 6) (v := ?_) rfl (by kernel_rfl) (by kernel_rfl) (by kernel_rfl) (fun _ _ _ h => h) (Or.inl ⟨by rfl, ?_⟩) hHeld ?_
                rotate_left
                · intro w hSw
                  try dsimp only at hSw
                  go_simp
                  try with_reducible rfl
                show wpAnyH _ _ _ _ _ _ _ (Act.put _ (some 62) _) _
                try simp only [Act.put, List.setIfInBounds_toArray, List.set_cons_zero, List.set_cons_succ]
                refine wpAnyH_take (i := 7) (v := ?_) rfl (by kernel_rfl) (by kernel_rfl) (by kernel_rfl) (fun _ _ _ h => h) (Or.inl ⟨by rfl, ?_⟩) hHeld ?_
                rotate_left
                · intro w hSw
                  try dsimp only at hSw
                  go_simp
                  try with_reducible rfl
                show wpAnyH _ _ _ _ _ _ _ (Act.put _ (some 63) _) _
                try simp only [Act.put, List.setIfInBounds_toArray, List.set_cons_zero, List.set_cons_succ]
                refine wpAnyH_take (i := 8) (v := ?_) rfl (by kernel_rfl) (by kernel_rfl) (by kernel_rfl) (fun _ _ _ h => h) (Or.inl ⟨by rfl, ?_⟩) hHeld ?_
                rotate_left
                · intro w hSw
                  try dsimp only at hSw
                  go_simp
                  try with_reducible rfl
                show wpAnyH _ _ _ _ _ _ _ (Act.put _ (some 64) _) _
                try simp only [Act.put, List.setIfInBounds_toArray, List.set_cons_zero, List.set_cons_succ]
                refine wpAnyH_take (i := 9) (v := ?_) rfl (by kernel_rfl) (by kernel_rfl) (by kernel_rfl) (fun _ _ _ h => h) (Or.inl ⟨by rfl, ?_⟩) hHeld ?_
                rotate_left
                · intro w hSw
                  try dsimp only at hSw
                  go_simp
                  try with_reducible rfl
                show wpAnyH _ _ _ _ _ _ _ (Act.put _ (some 10) _) _
                try simp only [Act.put, List.setIfInBounds_toArray, List.set_cons_zero, List.set_cons_succ]
                refine wpAnyH_done (by kernel_rfl) ?_ _
                clear hHeld
                go_wp2_with fail
                go_roundw
                case rel => exact ⟨j + 1, hjl, by go_num, by rw [unhide HAJ], by rw [unhide HBJ], hide (unhide E2 _ (by repeat (first | apply Keep.drew | exact Keep.refl _)))⟩
                case measure => simp [intOf]; omega
              · rw [if_neg d1] at hA5
                rw [if_pos d2] at hB5
                subst hA5 hB5
                have e1 : ((s : Int) == (p : Int)) = false := by simp only [beq_eq_false_iff_ne, ne_eq]; omega
                subst d2
                go_upto_region 17 with fail
                refine wp_region_held_drew (S := (fun w' => w'.cell? ⟨b2, 0, none⟩ = some (.int .i64 (s : Int)) ∧ w'.cell? ⟨b2, 1, none⟩ = some (.int .i64 (t : Int)) ∧ w'.cell? ar = some (.slice (some ad0) r0.length cap0) ∧ w'.cell? (ad0.add s) = some (.int .i64 x5))) (by kernel_rfl) (by exact ⟨(unhide CK2 _ (by repeat (first | apply Keep.drew | exact Keep.refl _))).1, (unhide CK2 _ (by repeat (first | apply Keep.drew | exact Keep.refl _))).2.1, (unhide CK2 _ (by repeat (first | apply Keep.drew | exact Keep.refl _))).2.2.2.2.1, (unhide CK2 _ (by repeat (first | apply Keep.drew | exact Keep.refl _))).2.2.2.2.2.2.1⟩) (fun hHeld => ?_)
                refine wpAnyH_take (i := 0) (v := ?_) rfl (by kernel_rfl) (by kernel_rfl) (by kernel_rfl) (fun _ _ _ h => h) (Or.inl ⟨by rfl, ?_⟩) hHeld ?_
                rotate_left
                · intro w hSw
                  try dsimp only at hSw
                  go_simp
                  try with_reducible rfl
                show wpAnyH _ _ _ _ _ _ _ (Act.put _ (some 70) _) _
                try simp only [Act.put, List.setIfInBounds_toArray, List.set_cons_zero, List.set_cons_succ]
                refine wpAnyH_take (i := 1) (v := ?_) rfl (by kernel_rfl) (by kernel_rfl) (by kernel_rfl) (fun _ _ _ h => h) (Or.inl ⟨by rfl, ?_⟩) hHeld ?_
                rotate_left
                · intro w hSw
                  try dsimp only at hSw
                  go_simp
                  try with_reducible rfl
                show wpAnyH _ _ _ _ _ _ _ (Act.put _ (some 71) _) _
                try simp only [Act.put, List.setIfInBounds_toArray, List.set_cons_zero, List.set_cons_succ]
                refine wpAnyH_take (i := 2) (v := ?_) rfl (by kernel_rfl) (by kernel_rfl) (by kernel_rfl) (fun _ _ _ h => h) (Or.inl ⟨by rfl, ?_⟩) hHeld ?_
                rotate_left
                · intro w hSw
                  try dsimp only at hSw
                  go_simp
                  try with_reducible rfl
                show wpAnyH _ _ _ _ _ _ _ (Act.put _ (some 72) _) _
                try simp only [Act.put, List.setIfInBounds_toArray, List.set_cons_zero, List.set_cons_succ]
                refine wpAnyH_take (i := 3) (v := ?_) rfl (by kernel_rfl) (by kernel_rfl) (by kernel_rfl) (fun _ _ _ h => h) (Or.inl ⟨by rfl, ?_⟩) hHeld ?_
                rotate_left
                · intro w hSw
                  try dsimp only at hSw
                  go_simp
                  try with_reducible rfl
                show wpAnyH _ _ _ _ _ _ _ (Act.put _ (some 73) _) _
                try simp only [Act.put, List.setIfInBounds_toArray, List.set_cons_zero, List.set_cons_succ]
                refine wpAnyH_take (i := 4) (v := ?_) rfl (by kernel_rfl) (by kernel_rfl) (by kernel_rfl) (fun _ _ _ h => h) (Or.inl ⟨by rfl, ?_⟩) hHeld ?_
                rotate_left
                · intro w hSw
                  try dsimp only at hSw
                  go_simp
                  try with_reducible rfl
                show wpAnyH _ _ _ _ _ _ _ (Act.put _ (some 74) _) _
                try simp only [Act.put, List.setIfInBounds_toArray, List.set_cons_zero, List.set_cons_succ]
                refine wpAnyH_take (i := 5) (v := ?_) rfl (by kernel_rfl) (by kernel_rfl) (by kernel_rfl) (fun _ _ _ h => h) (Or.inl ⟨by rfl, ?_⟩) hHeld ?_
                rotate_left
                · intro w hSw
                  try dsimp only at hSw
                  go_simp
                  try with_reducible rfl
                show wpAnyH _ _ _ _ _ _ _ (Act.put _ (some 75) _) _
                try simp only [Act.put, List.setIfInBounds_toArray, List.set_cons_zero, List.set_cons_succ]
                refine wpAnyH_take (i := 6) (v := ?_) rfl (by kernel_rfl) (by kernel_rfl) (by kernel_rfl) (fun _ _ _ h => h) (Or.inl ⟨by rfl, ?_⟩) hHeld ?_
                rotate_left
                · intro w hSw
                  try dsimp only at hSw
                  go_simp
                  try with_reducible rfl
                show wpAnyH _ _ _ _ _ _ _ (Act.put _ (some 76) _) _
                try simp only [Act.put, List.setIfInBounds_toArray, List.set_cons_zero, List.set_cons_succ]
                refine wpAnyH_take (i := 7) (v := ?_) rfl (by kernel_rfl) (by kernel_rfl) (by kernel_rfl) (fun _ _ _ h => h) (Or.inl ⟨by rfl, ?_⟩) hHeld ?_
                rotate_left
                · intro w hSw
                  try dsimp only at hSw
                  go_simp
                  try with_reducible rfl
                show wpAnyH _ _ _ _ _ _ _ (Act.put _ (some 77) _) _
                try simp only [Act.put, List.setIfInBounds_toArray, List.set_cons_zero, List.set_cons_succ]
                refine wpAnyH_take (i := 8) (v := ?_) rfl (by kernel_rfl) (by kernel_rfl) (by kernel_rfl) (fun _ _ _ h => h) (Or.inl ⟨by rfl, ?_⟩) hHeld ?_
                rotate_left
                · intro w hSw
                  try dsimp only at hSw
                  go_simp
                  try with_reducible rfl
                show wpAnyH _ _ _ _ _ _ _ (Act.put _ (some 78) _) _
                try simp only [Act.put, List.setIfInBounds_toArray, List.set_cons_zero, List.set_cons_succ]
                refine wpAnyH_take (i := 9) (v := ?_) rfl (by kernel_rfl) (by kernel_rfl) (by kernel_rfl) (fun _ _ _ h => h) (Or.inl ⟨by rfl, ?_⟩) hHeld ?_
                rotate_left
                · intro w hSw
                  try dsimp only at hSw
                  go_simp
                  try with_reducible rfl
                show wpAnyH _ _ _ _ _ _ _ (Act.put _ (some 11) _) _
                try simp only [Act.put, List.setIfInBounds_toArray, List.set_cons_zero, List.set_cons_succ]
                refine wpAnyH_done (by kernel_rfl) ?_ _
                clear hHeld
                go_wp2_with fail
                go_roundw
                case rel => exact ⟨j + 1, hjl, by go_num, by rw [unhide HAJ], by rw [unhide HBJ], hide (unhide E2 _ (by repeat (first | apply Keep.drew | exact Keep.refl _)))⟩
                case measure => simp [intOf]; omega
              · rw [if_neg d1] at hA5
                rw [if_neg d2] at hB5
                subst hA5 hB5
                have e1 : ((s : Int) == (p : Int)) = false := by simp only [beq_eq_false_iff_ne, ne_eq]; omega
                have e2 : ((t : Int) == (q : Int)) = false := by simp only [beq_eq_false_iff_ne, ne_eq]; omega
                go_wp2_with fail
                go_roundw
                case rel => exact ⟨j + 1, hjl, by go_num, by rw [unhide HAJ], by rw [unhide HBJ], hide (unhide E2 _ (by repeat (first | apply Keep.drew | exact Keep.refl _)))⟩
                case measure => simp [intOf]; omega
            · have lj : ¬ (j : Int) < (nd : Int) := by omega
              obtain rfl : j = nd := by omega
              have hg := unhide hG i hlt
              have HG1 := hide hg
              clear hg
              generalize A i j = x at HG1 ⊢
              generalize B i j = y at HG1 ⊢
              generalize G i = g9 at HG1 ⊢
              go_wp2_with (show wpList _ _ _ (Oper.mk (some 83) _ _ _ _ _ :: _) _ _; refine wpList_max3 _ rfl _ _ _ _ g9 x y rfl rfl rfl rfl ?_)
              go_roundw
              case rel => exact ⟨i + 1, hlt, by go_num, by rw [unhide HG1, Int.max_assoc], unhide EK _ (unhide KQ)⟩
              case measure => simp [intOf]; omega
        · have li : ¬ (i : Int) < (nd : Int) := by omega
          obtain rfl : i = nd := by omega
          go_wp2_with fail
          go_ret
          exact ⟨rfl, unhide KW⟩
theorem rt_pair {RR : List (List Int)} {FR : List Bool} {AP : List P2} (h : Rt RR FR AP) {p : P2} (hp : p ∈ AP) : ∃ a b : Nat, p = ((a : Int), (b : Int)) ∧ a < (RR.getD 0 []).length ∧ b < (RR.getD 1 []).length ∧ RR.length = 2 := by
  have h1 := h.pair p hp
  have h2 : RR.length = 2 := by
    rcases h.rows with h2 | h2
    · have := h.one h2; subst this; simp at hp
    · exact h2
  exact ⟨p.1.toNat, p.2.toNat, by ext <;> simp <;> omega, by omega, by omega, h2⟩
theorem rt_rg {RR : List (List Int)} {FR : List Bool} {AP : List P2} (h : Rt RR FR AP) (k : Nat) : ∀ t ∈ RR.getD k [], 0 ≤ t ∧ t ≤ 6000 := by
  intro t ht
  by_cases hk : k < RR.length
  · exact (h.row _ (getD_mem hk)).2.2 t ht
  · rw [List.getD_eq_getElem?_getD, List.getElem?_eq_none (by omega)] at ht; simp at ht
set_option maxHeartbeats 2000000 in
theorem floor_any (vr vd : Value) (RR : List (List Int)) (FR : List Bool) (AP D : List P2) (w : World) (hR : Ir w vr RR) (hD : Ps w vd D) (hm : D.length ≤ 16) (hrt : Rt RR FR AP) (hs : ∀ p ∈ D, p ∈ AP) : Calls Try.prog 34 #[vr, vd] w fun e w' => e = .returned (.int .i64 (flr RR D)) ∧ Keep w w' := by
  have hp : ∀ k, k < D.length → ∃ a b : Nat, D.getD k z2 = ((a : Int), (b : Int)) ∧ a < (RR.getD 0 []).length ∧ b < (RR.getD 1 []).length ∧ RR.length = 2 := fun k hk => rt_pair hrt (hs _ (getD_mem hk))
  have h := floor_core vr vd RR D (RR.getD 0 []) (RR.getD 1 []) (fun k => (RR.take k).foldl (fun m r => max m (sumN r)) 0) (fun k => (D.take k).foldl (flS (RR.getD 0 []) (RR.getD 1 []) D) (flA RR))
    (fun k j => (D.take j).foldl (stA (RR.getD 1 []) (D.getD k z2)) ((RR.getD 0 []).getD (D.getD k z2).1.toNat 0)) (fun k j => (D.take j).foldl (stB (RR.getD 0 []) (D.getD k z2)) ((RR.getD 1 []).getD (D.getD k z2).2.toNat 0)) w hR hD
    (by rcases hrt.rows with h | h <;> omega) hm
    (hide (fun L hL => ⟨by have := (hrt.row L hL).2.1; omega, (hrt.row L hL).2.2⟩))
    (hide (fun h0 => ⟨by obtain ⟨_, _, _, _, _, h2⟩ := hp 0 h0; omega, rfl, rfl⟩))
    (hide (fun k hk => by
      obtain ⟨a, b, e, ha, hb, _⟩ := hp k hk
      refine ⟨a, b, e, ha, hb, by simp only [e, List.take_zero, List.foldl_nil, Int.toNat_natCast], by simp only [e, List.take_zero, List.foldl_nil, Int.toNat_natCast], fun j hj => ?_⟩
      obtain ⟨s, t, e2, hs, ht, _⟩ := hp j hj
      refine ⟨s, t, e2, hs, ht, ?_, ?_⟩
      · rw [fold_more _ _ z2 D j hj, e2, e]
        simp only [stA]
        by_cases h3 : s = a
        · rw [if_pos h3, if_pos (by omega)]; simp
        · rw [if_neg h3, if_neg (by omega)]
      · rw [fold_more _ _ z2 D j hj, e2, e]
        simp only [stB]
        by_cases h3 : t = b
        · rw [if_pos h3, if_pos (by omega)]; simp
        · rw [if_neg h3, if_neg (by omega)]))
    (hide (fun k hk => fold_more (fun m r => max m (sumN r)) 0 [] RR k hk)) (hide rfl)
    (hide (by simp [flA]))
    (hide (fun k hk => by
      rw [fold_more _ _ z2 D k hk, flS]
      simp only [take_all]))
    (hide (fun k j => by
      have r0 := rt_rg hrt 0
      have r1 := rt_rg hrt 1
      have hj : (D.take j) = D.take (min j D.length) := by
        by_cases h : j ≤ D.length
        · rw [Nat.min_eq_left h]
        · rw [Nat.min_eq_right (by omega), List.take_of_length_le (by omega), take_all]
      simp only [hj]
      have h1 := stA_bd r1 (D.getD k z2) D (rg_at r0 (D.getD k z2).1.toNat) (min j D.length) (Nat.min_le_right _ _)
      have h2 := stB_bd r0 (D.getD k z2) D (rg_at r1 (D.getD k z2).2.toNat) (min j D.length) (Nat.min_le_right _ _)
      have h3 : min j D.length ≤ 16 := by omega
      omega))
    (hide (fun k => ⟨(rg_at (rt_rg hrt 0) k).1, (rg_at (rt_rg hrt 0) k).2, (rg_at (rt_rg hrt 1) k).1, (rg_at (rt_rg hrt 1) k).2⟩))
  simp only [take_all] at h
  exact h
end Gp
end Go.Proofs.Ytakandlehneciaa
