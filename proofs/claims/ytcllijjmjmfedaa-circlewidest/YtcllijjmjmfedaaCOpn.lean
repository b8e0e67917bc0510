/- Package circle: arcs as pieces that rise, with a tick of none between any two. -/
import Derived.Test.YtcllijjmjmfedaaCForm
import Derived.Test.YtcllijjmjmfedaaCPcs
import Derived.Test.YtcllijjmjmfedaaCMid
import Derived.Laws.MakeOwn
namespace Go.Proofs.Ytcllijjmjmfedaa
open Go.RowKit Go.Shelf
attribute [local go_sem] Oper.semAt_some
attribute [local go_sem ↓] Go.wp_at_zero Go.wp_at_succ
set_option linter.unusedVariables false
set_option linter.unusedSimpArgs false
theorem boxed_own' {B₀ B : Nat} {t : TypeId} {v : Value} {β : Type} : OwnFrom B₀ (fun (_ : β) W => Boxed W B t v) := by
  rintro _ X Y row h hg hrow
  refine h.kept hg (fun e' => ?_)
  obtain ⟨_, o, ho, hc⟩ := hrow B e'.symm
  rw [show X.heap[B]? = _ from h] at ho; cases ho; cases hc
theorem kc_put {n₀ Bc B : Nat} (hn : n₀ ≤ B) (hb : Bc < B) (W : World) (l : Nat) (o o' : Obj) (hl : B ≤ l) (ho : W.heap[l]? = some o) (hc : o.isCells = false) (hw : o.isWalk = false) : Kc n₀ Bc W (W.putObj l o') := by
  have hlt := (Array.getElem?_eq_some_iff.1 ho).1
  have hg := grownBy_putObj' W l o'
  refine ⟨⟨hg.1, hg.2, hg.3, hg.4, fun k hk => ?_⟩, ?_⟩
  · by_cases hkl : k < W.heap.size
    · exact hg.5 k hkl (fun e => by cases e; omega)
    · omega
  · exact hg.5 Bc (by omega) (fun e => by cases e; omega)
theorem two_new2 (w : World) (o : Obj) (x y : Int) (t : TypeId) : ∀ j u, (cl [(x, y)])[j]? = some u → ((w.alloc o).alloc (.cells #[.int .i64 x, .int .i64 y] t)).drew.cell? ((⟨w.heap.size + 1, 0, none⟩ : Addr).add j) = some u := by
  have h := two_new (w.alloc o) (.int .i64 x) (.int .i64 y) t
  rw [World.size_alloc] at h
  exact h
set_option maxRecDepth 100000 in
set_option maxHeartbeats 2000000 in
theorem opened_core (c : Int) (v0 : Value) (L : List Pr) (w : World) (hl : L.length ≤ 50000) (hR : Rs w v0 L) :
    Calls Try.prog 19 #[.int .i64 c, v0] w fun e w' => ∃ v M, e = .returned v ∧ M.Perm (pcs c L) ∧ M.Pairwise (fun p q => p.1 ≤ q.1) ∧ Rs w' v (jns M) ∧ Keep w w' := by
  obtain ⟨i0, hi, hz0, hz1, hz2⟩ := info_parts infoP
  obtain ⟨a, cap, hv, hcap, hcell⟩ := id hR
  subst hv
  have HR := hide hR
  clear hR hcell
  obtain ⟨Z, hZ, hmk⟩ : ∃ Z : Array Value, Z.size = (L.length + 1) * 2 ∧ ∀ w, (Instr.makeSlice 42 (.int .i64 0) (.int .i64 ((L.length : Int) + 1))).run Try.prog w = .ok (.slice (some ⟨w.heap.size, 0, none⟩) 0 (L.length + 1)) (w.alloc (.cells Z 45)) := by
    refine ⟨madeCells (Value.agg #[.int .i64 0, .int .i64 0]).cells ((L.length + 1) * 2), size_madeCells _ _, fun w => ?_⟩
    have h := run_make (P := Try.prog) w 42 45 i0 _ Try.underlying42 hi hz0 .i64 .i64 0 ((L.length : Int) + 1) (by omega) (by omega) (by rw [hz2]; omega) (by omega)
    rw [hz1] at h
    simpa using h
  have HZ := hide hZ
  clear hZ
  refine (callsIn_wide (n := 9)).1 ?_
  refine callsIn_of_wp_marks Try.func19 rfl trivial ?_ rfl
  simp only [Try.ntmps19, List.size_toArray, List.length_cons, List.length_nil, Nat.reduceAdd, Nat.reduceSub, Array.replicate_succ, Array.replicate_zero, List.push_toArray, List.append_toArray, List.nil_append, List.cons_append]
  gi_wp2_with fail
  refine ⟨trivial, callsIn_wide.2 ((pieces_new c a _ cap _).mono ?_)⟩
  rintro e w2 ⟨rfl, rfl⟩
  gi_wp2_with fail
  have hw0 : Below w.heap.size w ((((w.alloc (.cells Z 45)).alloc (.cells #[.slice (some ⟨w.heap.size, 0, none⟩) 0 (L.length + 1)] 42)).alloc (.cells #[.int .i64 c] 2)).alloc (.cells #[.slice a L.length cap] 22)) := ((((Below.refl _ w).alloc (Nat.le_refl _) _).alloc (by simp) _).alloc (by simp; omega) _).alloc (by simp; omega) _
  have bA := ((Boxed.new (w.alloc (.cells Z 45)) 42 (.slice (some ⟨w.heap.size, 0, none⟩) 0 (L.length + 1))).alloc (.cells #[.int .i64 c] 2)).alloc (.cells #[.slice a L.length cap] 22)
  have bC := (Boxed.new ((w.alloc (.cells Z 45)).alloc (.cells #[.slice (some ⟨w.heap.size, 0, none⟩) 0 (L.length + 1)] 42)) 2 (.int .i64 c)).alloc (.cells #[.slice a L.length cap] 22)
  have bL := Boxed.new (((w.alloc (.cells Z 45)).alloc (.cells #[.slice (some ⟨w.heap.size, 0, none⟩) 0 (L.length + 1)] 42)).alloc (.cells #[.int .i64 c] 2)) 22 (.slice a L.length cap)
  have hrow0 := (((World.ownsRow_made (base := w.heap.size) (e := 45) (size := 2) w Z (L.length + 1) (Nat.le_refl _) (by unfold maxLen; omega) (unhide HZ)).alloc (.cells #[.slice (some ⟨w.heap.size, 0, none⟩) 0 (L.length + 1)] 42)).alloc (.cells #[.int .i64 c] 2)).alloc (.cells #[.slice a L.length cap] 22)
  simp only [World.size_alloc] at bA bC bL
  have hsz0 : ((((w.alloc (.cells Z 45)).alloc (.cells #[.slice (some ⟨w.heap.size, 0, none⟩) 0 (L.length + 1)] 42)).alloc (.cells #[.int .i64 c] 2)).alloc (.cells #[.slice a L.length cap] 22)).heap.size = w.heap.size + 4 := by simp
  have hRw : Rb w.heap.size ((((w.alloc (.cells Z 45)).alloc (.cells #[.slice (some ⟨w.heap.size, 0, none⟩) 0 (L.length + 1)] 42)).alloc (.cells #[.int .i64 c] 2)).alloc (.cells #[.slice a L.length cap] 22)) (.slice a L.length cap) L := Rb.below (unhide HR) hw0 (Nat.le_refl _)
  generalize ((((w.alloc (.cells Z 45)).alloc (.cells #[.slice (some ⟨w.heap.size, 0, none⟩) 0 (L.length + 1)] 42)).alloc (.cells #[.int .i64 c] 2)).alloc (.cells #[.slice a L.length cap] 22)) = W0 at *
  refine wpIn_rangeFunc_ownH rfl (by omega) (gf := 33) (lb := #[.pointer (some ⟨w.heap.size + 1 + 1 + 1, 0, none⟩), .pointer (some ⟨w.heap.size + 1 + 1, 0, none⟩)]) rfl trivial (enters_of Try.func33 (by kernel_rfl) rfl)
    (pieces_stops c a cap L w.heap.size (w.heap.size + 1 + 1) (w.heap.size + 1 + 1 + 1) W0 (by omega) (by omega) (by omega) bC.cell bL.cell hRw (by omega) _) (fun h k => Kc.trans h k) (kc_put (by omega) (by omega)) (Below.refl _ _) (fun _ => rfl)
    (fun pre W => (∃ v, Boxed W (w.heap.size + 1) 42 v ∧ W.ownsRow w.heap.size 45 2 v pre.length (cl (vals pre)) ∧ v ≠ .slice none 0 0) ∧ Boxed W (w.heap.size + 1 + 1) 2 (.int .i64 c) ∧ Below w.heap.size w W)
    (fun _ _ _ => False)
    (OwnFrom.and (Own.from (holdsRow_own w.heap.size (w.heap.size + 1) 42 45 2 (fun pre : List Pc => pre.length) (fun pre => cl (vals pre)) (fun _ v => v ≠ .slice none 0 0)) _) (OwnFrom.and boxed_own' (ownFrom_below (Nat.le_refl _) (by omega))))
    (fun _ _ _ _ _ hs _ _ => hs)
    ⟨⟨_, bA, hrow0, by simp⟩, bC, hw0⟩
    (fun x a' W => ∃ Bx, Two W Bx 45 x.1 ∧ a' = { tmps := #[.int .i64 c, .slice a L.length cap, undef, undef, .slice none 0 0, .pointer (some ⟨w.heap.size + 1, 0, none⟩), .pointer (some ⟨Bx, 0, none⟩), undef, undef, undef, undef, .slice a L.length cap, .int .i64 (L.length : Int), .int .i64 ((L.length : Int) + 1), .slice (some ⟨w.heap.size, 0, none⟩) 0 (L.length + 1), .int .i64 c, .slice a L.length cap, .func (.func 33) #[] #[.pointer (some ⟨w.heap.size + 1 + 1 + 1, 0, none⟩), .pointer (some ⟨w.heap.size + 1 + 1, 0, none⟩)], .agg #[.int .i64 x.1.1, .int .i64 x.1.2], undef, undef, undef, undef, undef, undef, undef, undef, undef, undef, undef, undef, undef, undef, undef, undef, undef, undef, undef, undef, undef, undef, undef, undef, undef, undef, undef, undef, undef, undef, undef, undef, undef, undef, undef, undef, undef, undef, undef, undef, undef, undef, undef, undef, undef, undef, undef], defers := [] })
    (fun x a' => by rintro s A B row ⟨Bx, h1, h2⟩ hg hr; exact ⟨Bx, two_own _ s A B row ⟨h1, h2⟩ hg hr⟩)
    ?assign ?body ?done ?stop
  case assign =>
    rintro l pre x W K ⟨⟨v, hv, hrow, hnn⟩, hbc, hB⟩ hK
    dsimp only [ev]
    gi_wp2
    exact hK _ _ ((KeepsOthers.alloc _ _).from _) (kc_keep ((Keep.refl W).alloc _) hB.size hbc.lt) ⟨⟨v, hv.alloc _, hrow.alloc _, hnn⟩, hbc.alloc _, hB.alloc hB.size _⟩ ⟨W.heap.size, Two.new W _ _, rfl⟩
  case body =>
    rintro l pre x a' W hl' ⟨r, hr⟩ ⟨⟨v, hv, hrow, _⟩, hbc, hB⟩ ⟨Bx, hx, rfl⟩ hlt
    have hc := hv.cell
    have hc0 := hx.c0
    have hc1 := hx.c1
    have hvs : vals (pre ++ [x]) = vals pre ++ [x.1] := vals_snoc pre x
    have hpl := pcs_len c L
    gi_wp2_with (gi_at_builtin; refine wpListIn_append_own _ rfl _ _ 42 rfl w.heap.size 45 i0 (.agg #[.int .i64 0, .int .i64 0]) 2 16 Try.underlying42 hi hz0 hz1 hz2 rfl (by decide) _ _ _ rfl (hrow.alloc _) ⟨W.heap.size, 0, none⟩ 1 1 [.int .i64 x.1.1, .int .i64 x.1.2] rfl rfl (two_new _ _ _ _) (by simp [Value.oneCell']) (by unfold maxLen; omega) (by omega) (by have := hB.size; simp; omega) ?_; intro v' w1 hown' hgrow _; obtain ⟨g', cap', rfl⟩ := ownsRow_succ hown'; obtain ⟨hv1, hv2, hr2, hk2, hb2⟩ := hv.appended (by decide) hrow hB.size (by omega) hown' hgrow; have hbc1 := (hbc.alloc _).kept hgrow (hbc.not_row (by decide) hrow); have hc1 := hv1.cell; have hf1 := hv1.frozen)
    have hbc2 := hbc1.kept (grownBy_setCell' w1 (w.heap.size + 1) (.slice (some ⟨g', 0, none⟩) (pre.length + 1) cap')) (fun e => by injection e with e; omega)
    exact ⟨hk2.from _, ⟨hb2, hbc2.trans hbc.symm⟩, ⟨_, hv2, by rw [hvs, cl_append]; simpa [cl] using hr2, by simp⟩, hbc2, hB.trans hb2⟩
  case done =>
    rintro D ys W hD hys ⟨⟨v, hv, hrow, hnn⟩, hbc, hB⟩ hK
    have hyl : ys.length = (pcs c L).length := by rw [← hys]; simp [vals]
    rw [hys, hyl] at hrow
    have hpl := pcs_len c L
    have SO := sort_own w.heap.size v (pcs c L) W hrow (by omega)
    obtain ⟨N, hN⟩ : ∃ N, N = (pcs c L).length := ⟨_, rfl⟩
    have hNl : N ≤ 100000 := by omega
    rw [← hN] at hrow SO
    have HNN := hide hN
    clear hN
    obtain ⟨g, cap2, hvv, hbg⟩ : ∃ g cap2, v = .slice (some ⟨g, 0, none⟩) N cap2 ∧ w.heap.size ≤ g := by
      rcases hrow.2 with ⟨h, _⟩ | ⟨g, cap2, cur, h, hb, _⟩
      · exact absurd h hnn
      · exact ⟨g, cap2, h, hb⟩
    have hDg : some D ≠ v.ownBlock := by
      rw [hvv]
      intro e
      simp [Value.ownBlock] at e
      subst e
      rcases hrow.2 with ⟨h, _⟩ | ⟨g', cap', cur, h, _, hg', _⟩
      · exact absurd h hnn
      · rw [hvv] at h
        simp only [Value.slice.injEq, Option.some.injEq, Addr.mk.injEq, and_true, true_and] at h
        rw [← h.1, hK] at hg'
        cases hg'
    have hnr := hv.not_row (by decide) hrow
    subst hvv
    have hc := hv.cell
    have hDW := (Array.getElem?_eq_some_iff.1 hK).1
    gi_wp2_with fail
    refine ⟨trivial, callsIn_wide.2 (SO.mono ?_)⟩
    rintro e W2 ⟨rfl, M, hperm, hsort, hrow2, hgr⟩
    have hv2 := hv.kept hgr hnr
    have hK2 : W2.heap[D]? = some (.deferred (some [])) := (hgr.5 D hDW hDg).trans hK
    have hB2 : Below w.heap.size w W2 := hB.grown hgr hB.size (fun j ej => by simp [Value.ownBlock] at ej; omega)
    have hMl : M.length = N := by rw [unhide HNN]; exact hperm.length_eq
    have hc2 := hv2.cell
    have HMN := hide (⟨hperm, hsort, hMl⟩ : _ ∧ _ ∧ _)
    clear SO hperm hsort hMl hv hv2 hrow hc hnr hDg hgr hB hnn hbc hK hys hyl
    gi_wp2_with fail
    gi_loopw [7, 29] (fun va vi wr => ∃ (k : Nat) (A R : List Pr), k ≤ N ∧ vi = .int .i64 k ∧ A.length ≤ k ∧ va = .slice (some ⟨g, 0, none⟩) A.length cap2 ∧ Hid (A = jns (M.take k)) ∧ Hid (R.length = N ∧ R.take A.length = A ∧ R.drop k = M.drop k) ∧ wr.ownsRow w.heap.size 45 2 (.slice (some ⟨g, 0, none⟩) N cap2) N (cl R) ∧ Below w.heap.size w wr ∧ wr.heap[D]? = some (.deferred (some []))) (fun va vi _ => N - (intOf vi).toNat)
    case atStart => exact ⟨0, [], M, Nat.zero_le _, rfl, Nat.le_refl _, rfl, hide rfl, hide ⟨(unhide HMN).2.2, by simp, by simp⟩, hrow2, hB2, hK2⟩
    case round =>
      obtain ⟨k, A, R, hk, rfl, hAk, rfl, HA, HR2, hrw, hBw, hKw⟩ := hrel
      have hDw := (Array.getElem?_eq_some_iff.1 hKw).1
      have hDg : ¬ D = g := by
        intro e
        rcases hrw.2 with ⟨h, _⟩ | ⟨g', cap', cur, h, _, hg', _⟩
        · simp at h
        · simp only [Value.slice.injEq, Option.some.injEq, Addr.mk.injEq, and_true, true_and] at h
          rw [← h.1, ← e, hKw] at hg'
          cases hg'
      by_cases hlt : k < N
      · have hMl := (unhide HMN).2.2
        obtain ⟨hRl, hRt, hRd⟩ := unhide HR2
        have hkR : k < R.length := by omega
        have e0 := cl_at0 R k hkR
        have e1 := cl_at1 R k hkR
        rw [← hrw.cellAt (k * 2) (by omega)] at e0
        rw [← hrw.cellAt (k * 2 + 1) (by omega)] at e1
        have hst := jns_snoc (M := M) (k := k) (by omega)
        rw [← drop_head hRd hkR (by omega), ← unhide HA] at hst
        have hRd1 := drop_succ_eq hRd
        generalize R.getD k (0, 0) = p at *
        obtain ⟨x, y⟩ := p
        simp only at e0 e1
        have li : (k : Int) < (N : Int) := by omega
        rcases List.eq_nil_or_concat A with hA0 | ⟨A1, q, hA1⟩
        · have hbe : A.length = 0 := by rw [hA0]; rfl
          have NXT : Hid ([(x, y)] = jns (M.take (k + 1)) ∧ R.length = N ∧ (R.set 0 (x, y)).take ([(x, y)] : List Pr).length = [(x, y)] ∧ (R.set 0 (x, y)).drop (k + 1) = M.drop (k + 1)) := by
            refine ⟨by rw [hst, hA0, jn_nil], hRl, ?_, ?_⟩
            · show (R.set 0 (x, y)).take (0 + 1) = _
              rw [set_take R 0 _ (by omega)]; simp
            · rw [set_drop R 0 (k + 1) _ (by omega)]; exact hRd1
          clear hst hRd hRd1 hRt HR2 HA hRl hkR hMl
          rw [hbe]
          gi_wp2_with fail
          refine wpIn_drawn ?_
          refine wp_region_held_drew (S := fun _ => True) (by kernel_rfl) (by trivial) (fun hHeld => ?_)
          refine wpAnyH_take (i := 0) (v := ?_) rfl (by kernel_rfl) (by kernel_rfl) (by kernel_rfl) (fun _ _ _ h => h) (Or.inl ⟨by rfl, ?_⟩) hHeld ?_
          rotate_left
          · intro w hSw
            try dsimp only at hSw
            go_simp
            try with_reducible rfl
          show wpAnyH _ _ _ _ _ _ _ (Act.put _ (some 36) _) _
          try simp only [Act.put, List.setIfInBounds_toArray, List.set_cons_zero, List.set_cons_succ]
          refine wpAnyH_take (i := 1) (v := ?_) rfl (by kernel_rfl) (by kernel_rfl) (by kernel_rfl) (fun _ _ _ h => h) (Or.inl ⟨by rfl, ?_⟩) hHeld ?_
          rotate_left
          · intro w hSw
            try dsimp only at hSw
            go_simp
            try with_reducible rfl
          show wpAnyH _ _ _ _ _ _ _ (Act.put _ (some 37) _) _
          try simp only [Act.put, List.setIfInBounds_toArray, List.set_cons_zero, List.set_cons_succ]
          refine wpAnyH_take (i := 2) (v := ?_) rfl (by kernel_rfl) (by kernel_rfl) (by kernel_rfl) (fun _ _ _ h => h) (Or.inl ⟨by rfl, ?_⟩) hHeld ?_
          rotate_left
          · intro w hSw
            try dsimp only at hSw
            go_simp
            try with_reducible rfl
          show wpAnyH _ _ _ _ _ _ _ (Act.put _ (some 38) _) _
          try simp only [Act.put, List.setIfInBounds_toArray, List.set_cons_zero, List.set_cons_succ]
          refine wpAnyH_take (i := 3) (v := undef) rfl (by kernel_rfl) (by kernel_rfl) (by kernel_rfl) (fun _ _ _ h => h) (Or.inr ⟨by rfl, rfl⟩) hHeld ?_
          show wpAnyH _ _ _ _ _ _ _ (Act.put _ (some 39) _) _
          try simp only [Act.put, List.setIfInBounds_toArray, List.set_cons_zero, List.set_cons_succ]
          refine wpAnyH_take (i := 4) (v := undef) rfl (by kernel_rfl) (by kernel_rfl) (by kernel_rfl) (fun _ _ _ h => h) (Or.inr ⟨by rfl, rfl⟩) hHeld ?_
          show wpAnyH _ _ _ _ _ _ _ (Act.put _ (some 40) _) _
          try simp only [Act.put, List.setIfInBounds_toArray, List.set_cons_zero, List.set_cons_succ]
          refine wpAnyH_take (i := 5) (v := undef) rfl (by kernel_rfl) (by kernel_rfl) (by kernel_rfl) (fun _ _ _ h => h) (Or.inr ⟨by rfl, rfl⟩) hHeld ?_
          show wpAnyH _ _ _ _ _ _ _ (Act.put _ (some 41) _) _
          try simp only [Act.put, List.setIfInBounds_toArray, List.set_cons_zero, List.set_cons_succ]
          refine wpAnyH_take (i := 6) (v := undef) rfl (by kernel_rfl) (by kernel_rfl) (by kernel_rfl) (fun _ _ _ h => h) (Or.inr ⟨by rfl, rfl⟩) hHeld ?_
          show wpAnyH _ _ _ _ _ _ _ (Act.put _ (some 42) _) _
          try simp only [Act.put, List.setIfInBounds_toArray, List.set_cons_zero, List.set_cons_succ]
          refine wpAnyH_take (i := 7) (v := undef) rfl (by kernel_rfl) (by kernel_rfl) (by kernel_rfl) (fun _ _ _ h => h) (Or.inr ⟨by rfl, rfl⟩) hHeld ?_
          show wpAnyH _ _ _ _ _ _ _ (Act.put _ (some 43) _) _
          try simp only [Act.put, List.setIfInBounds_toArray, List.set_cons_zero, List.set_cons_succ]
          refine wpAnyH_take (i := 8) (v := undef) rfl (by kernel_rfl) (by kernel_rfl) (by kernel_rfl) (fun _ _ _ h => h) (Or.inr ⟨by rfl, rfl⟩) hHeld ?_
          show wpAnyH _ _ _ _ _ _ _ (Act.put _ (some 44) _) _
          try simp only [Act.put, List.setIfInBounds_toArray, List.set_cons_zero, List.set_cons_succ]
          refine wpAnyH_take (i := 9) (v := undef) rfl (by kernel_rfl) (by kernel_rfl) (by kernel_rfl) (fun _ _ _ h => h) (Or.inr ⟨by rfl, rfl⟩) hHeld ?_
          show wpAnyH _ _ _ _ _ _ _ (Act.put _ (some 45) _) _
          try simp only [Act.put, List.setIfInBounds_toArray, List.set_cons_zero, List.set_cons_succ]
          refine wpAnyH_take (i := 10) (v := undef) rfl (by kernel_rfl) (by kernel_rfl) (by kernel_rfl) (fun _ _ _ h => h) (Or.inr ⟨by rfl, rfl⟩) hHeld ?_
          show wpAnyH _ _ _ _ _ _ _ (Act.put _ (some 46) _) _
          try simp only [Act.put, List.setIfInBounds_toArray, List.set_cons_zero, List.set_cons_succ]
          refine wpAnyH_take (i := 11) (v := ?_) rfl (by kernel_rfl) (by kernel_rfl) (by kernel_rfl) (fun _ _ _ h => h) (Or.inl ⟨by rfl, ?_⟩) hHeld ?_
          rotate_left
          · intro w hSw
            try dsimp only at hSw
            go_simp
            try with_reducible rfl
          show wpAnyH _ _ _ _ _ _ _ (Act.put _ (some 47) _) _
          try simp only [Act.put, List.setIfInBounds_toArray, List.set_cons_zero, List.set_cons_succ]
          refine wpAnyH_done (by kernel_rfl) ?_ _
          clear hHeld
          dsimp only [OnlyN]
          gi_wp2_with (gi_at_builtin; refine wpListIn_append_mid _ rfl _ _ 42 rfl w.heap.size 45 i0 Try.underlying42 hi hz1 g 0 N cap2 R (x, y) rfl (World.ownsRow.drew ((hrw.alloc _).alloc _)) (by omega) ⟨wr.heap.size + 1, 0, none⟩ 1 rfl (two_new2 wr _ x y _) ?_; intro w1 hown1 hgrow1)
          go_roundw
          case rel =>
            obtain ⟨h1, h2, h3, h4⟩ := unhide NXT
            have hBX := Below.drew ((hBw.alloc hBw.size (.cells #[.int .i64 x, .int .i64 y] 45)).alloc (by have := hBw.size; simp; omega) (.cells #[.int .i64 x, .int .i64 y] 45))
            have hKX : ((wr.alloc (.cells #[.int .i64 x, .int .i64 y] 45)).alloc (.cells #[.int .i64 x, .int .i64 y] 45)).drew.heap[D]? = some (.deferred (some [])) := by
              rw [Below.block (Keep.drew (Keep.alloc (Keep.alloc (Keep.refl wr) _) _)) D hDw]; exact hKw
            have hDX := (Array.getElem?_eq_some_iff.1 hKX).1
            exact ⟨k + 1, [(x, y)], R.set 0 (x, y), by omega, by go_num, by simp <;> omega, by simp [hbe], hide h1, hide ⟨by rw [List.length_set]; exact h2, h3, h4⟩, hown1, hBX.grown hgrow1 hBX.size (fun j ej => by cases ej; exact hbg), (hgrow1.5 D hDX (fun e => hDg (by injection e with e))).trans hKX⟩
          case measure => simp [intOf]; omega
        · obtain ⟨q1, q2⟩ := q
          simp only [List.concat_eq_append] at hA1
          obtain ⟨b, hbl⟩ : ∃ b, A1.length = b := ⟨_, rfl⟩
          have hbe : A.length = b + 1 := by rw [hA1]; simp [hbl]
          have hbk : b + 1 ≤ k := by omega
          rw [hbe, hA1] at hRt
          have hq : R.getD b (0, 0) = (q1, q2) := by
            have h1 := congrArg (fun l => l[b]?) hRt
            simp only [List.getElem?_take_of_lt (show b < b + 1 by omega)] at h1
            rw [List.getElem?_append_right (by omega), hbl, Nat.sub_self] at h1
            rw [List.getD_eq_getElem?_getD, h1]
            rfl
          have hR1 : R.take b = A1 := by
            have h1 := congrArg (List.take b) hRt
            rw [List.take_take, Nat.min_eq_left (by omega), List.take_append_of_le_length (show b ≤ A1.length by omega)] at h1
            rw [h1, ← hbl, List.take_length]
          have f1 := cl_at1 R b (by omega)
          rw [← hrw.cellAt (b * 2 + 1) (by omega), hq] at f1
          simp only at f1
          have fz := hrw.frozenAt (b * 2 + 1)
          have hgl : g < wr.heap.size := by
            rcases hrw.2 with ⟨h, _⟩ | ⟨g', cap', cur, h, _, hg', _⟩
            · simp at h
            · simp only [Value.slice.injEq, Option.some.injEq, Addr.mk.injEq, and_true, true_and] at h
              rw [h.1]; exact (Array.getElem?_eq_some_iff.1 hg').1
          have hgn : ¬ g = wr.heap.size := by omega
          have hgn' : ¬ wr.heap.size = g := by omega
          have hd0 : (0 : Int) ≤ (b : Int) := by omega
          have hd1 : (b : Int) < (b : Int) + 1 := by omega
          have hd2 : decide ((0 : Int) ≤ (b : Int)) = true := by simp
          rw [hA1, jn_last] at hst
          simp only at hst
          by_cases hx : x ≤ q2
          · have d1 : decide (x ≤ q2) = true := by simpa using hx
            rw [if_pos hx] at hst
            have hm : (if q2 < y then y else q2) = max q2 y := by split <;> omega
            have NXT : Hid (A1 ++ [(q1, max q2 y)] = jns (M.take (k + 1)) ∧ (R.set b (q1, max q2 y)).length = N ∧ (R.set b (q1, max q2 y)).take (b + 1) = A1 ++ [(q1, max q2 y)] ∧ (R.set b (q1, max q2 y)).drop (k + 1) = M.drop (k + 1) ∧ (cl R).set (b * 2 + 1) (.int .i64 (max q2 y)) = cl (R.set b (q1, max q2 y))) := by
              refine ⟨hst.symm, by rw [List.length_set]; exact hRl, ?_, ?_, ?_⟩
              · rw [set_take R b _ (by omega), hR1]
              · rw [set_drop R b (k + 1) _ (by omega)]; exact hRd1
              · rw [cl_set1 R b _ (by omega), hq]
            clear hst hRd hRd1 hRt HR2 HA hRl hkR hMl hq hR1
            rw [hbe]
            gi_wp2_with fail
            refine wpIn_drawn ?_
            refine wp_region_held_drew (S := fun w' => w'.cell? ⟨wr.heap.size, 0, none⟩ = some (.int .i64 x) ∧ w'.cell? ⟨g, b * 2 + 1, none⟩ = some (.int .i64 q2)) (by kernel_rfl) (by constructor <;> simp [go_sem, hgl, f1]) (fun hHeld => ?_)
            refine wpAnyH_take (i := 0) (v := ?_) rfl (by kernel_rfl) (by kernel_rfl) (by kernel_rfl) (fun _ _ _ h => h) (Or.inl ⟨by rfl, ?_⟩) hHeld ?_
            rotate_left
            · intro w hSw
              try dsimp only at hSw
              go_simp
              try with_reducible rfl
            show wpAnyH _ _ _ _ _ _ _ (Act.put _ (some 36) _) _
            try simp only [Act.put, List.setIfInBounds_toArray, List.set_cons_zero, List.set_cons_succ]
            refine wpAnyH_take (i := 1) (v := ?_) rfl (by kernel_rfl) (by kernel_rfl) (by kernel_rfl) (fun _ _ _ h => h) (Or.inl ⟨by rfl, ?_⟩) hHeld ?_
            rotate_left
            · intro w hSw
              try dsimp only at hSw
              go_simp
              try with_reducible rfl
            show wpAnyH _ _ _ _ _ _ _ (Act.put _ (some 37) _) _
            try simp only [Act.put, List.setIfInBounds_toArray, List.set_cons_zero, List.set_cons_succ]
            refine wpAnyH_take (i := 2) (v := ?_) rfl (by kernel_rfl) (by kernel_rfl) (by kernel_rfl) (fun _ _ _ h => h) (Or.inl ⟨by rfl, ?_⟩) hHeld ?_
            rotate_left
            · intro w hSw
              try dsimp only at hSw
              go_simp
              try with_reducible rfl
            show wpAnyH _ _ _ _ _ _ _ (Act.put _ (some 38) _) _
            try simp only [Act.put, List.setIfInBounds_toArray, List.set_cons_zero, List.set_cons_succ]
            refine wpAnyH_take (i := 3) (v := ?_) rfl (by kernel_rfl) (by kernel_rfl) (by kernel_rfl) (fun _ _ _ h => h) (Or.inl ⟨by rfl, ?_⟩) hHeld ?_
            rotate_left
            · intro w hSw
              try dsimp only at hSw
              go_simp
              try with_reducible rfl
            show wpAnyH _ _ _ _ _ _ _ (Act.put _ (some 39) _) _
            try simp only [Act.put, List.setIfInBounds_toArray, List.set_cons_zero, List.set_cons_succ]
            refine wpAnyH_take (i := 4) (v := ?_) rfl (by kernel_rfl) (by kernel_rfl) (by kernel_rfl) (fun _ _ _ h => h) (Or.inl ⟨by rfl, ?_⟩) hHeld ?_
            rotate_left
            · intro w hSw
              try dsimp only at hSw
              go_simp
              try with_reducible rfl
            show wpAnyH _ _ _ _ _ _ _ (Act.put _ (some 40) _) _
            try simp only [Act.put, List.setIfInBounds_toArray, List.set_cons_zero, List.set_cons_succ]
            refine wpAnyH_take (i := 5) (v := ?_) rfl (by kernel_rfl) (by kernel_rfl) (by kernel_rfl) (fun _ _ _ h => h) (Or.inl ⟨by rfl, ?_⟩) hHeld ?_
            rotate_left
            · intro w hSw
              try dsimp only at hSw
              go_simp
              try with_reducible rfl
            show wpAnyH _ _ _ _ _ _ _ (Act.put _ (some 41) _) _
            try simp only [Act.put, List.setIfInBounds_toArray, List.set_cons_zero, List.set_cons_succ]
            refine wpAnyH_take (i := 6) (v := ?_) rfl (by kernel_rfl) (by kernel_rfl) (by kernel_rfl) (fun _ _ _ h => h) (Or.inl ⟨by rfl, ?_⟩) hHeld ?_
            rotate_left
            · intro w hSw
              try dsimp only at hSw
              go_simp
              try with_reducible rfl
            show wpAnyH _ _ _ _ _ _ _ (Act.put _ (some 42) _) _
            try simp only [Act.put, List.setIfInBounds_toArray, List.set_cons_zero, List.set_cons_succ]
            refine wpAnyH_take (i := 7) (v := ?_) rfl (by kernel_rfl) (by kernel_rfl) (by kernel_rfl) (fun _ _ _ h => h) (Or.inl ⟨by rfl, ?_⟩) hHeld ?_
            rotate_left
            · intro w hSw
              try dsimp only at hSw
              go_simp
              try with_reducible rfl
            show wpAnyH _ _ _ _ _ _ _ (Act.put _ (some 43) _) _
            try simp only [Act.put, List.setIfInBounds_toArray, List.set_cons_zero, List.set_cons_succ]
            refine wpAnyH_take (i := 8) (v := ?_) rfl (by kernel_rfl) (by kernel_rfl) (by kernel_rfl) (fun _ _ _ h => h) (Or.inl ⟨by rfl, ?_⟩) hHeld ?_
            rotate_left
            · intro w hSw
              try dsimp only at hSw
              go_simp
              try with_reducible rfl
            show wpAnyH _ _ _ _ _ _ _ (Act.put _ (some 44) _) _
            try simp only [Act.put, List.setIfInBounds_toArray, List.set_cons_zero, List.set_cons_succ]
            refine wpAnyH_take (i := 9) (v := ?_) rfl (by kernel_rfl) (by kernel_rfl) (by kernel_rfl) (fun _ _ _ h => h) (Or.inl ⟨by rfl, ?_⟩) hHeld ?_
            rotate_left
            · intro w hSw
              try dsimp only at hSw
              go_simp
              try with_reducible rfl
            show wpAnyH _ _ _ _ _ _ _ (Act.put _ (some 45) _) _
            try simp only [Act.put, List.setIfInBounds_toArray, List.set_cons_zero, List.set_cons_succ]
            refine wpAnyH_take (i := 10) (v := ?_) rfl (by kernel_rfl) (by kernel_rfl) (by kernel_rfl) (fun _ _ _ h => h) (Or.inl ⟨by rfl, ?_⟩) hHeld ?_
            rotate_left
            · intro w hSw
              try dsimp only at hSw
              go_simp
              try with_reducible rfl
            show wpAnyH _ _ _ _ _ _ _ (Act.put _ (some 46) _) _
            try simp only [Act.put, List.setIfInBounds_toArray, List.set_cons_zero, List.set_cons_succ]
            refine wpAnyH_take (i := 11) (v := ?_) rfl (by kernel_rfl) (by kernel_rfl) (by kernel_rfl) (fun _ _ _ h => h) (Or.inl ⟨by rfl, ?_⟩) hHeld ?_
            rotate_left
            · intro w hSw
              try dsimp only at hSw
              go_simp
              try with_reducible rfl
            show wpAnyH _ _ _ _ _ _ _ (Act.put _ (some 47) _) _
            try simp only [Act.put, List.setIfInBounds_toArray, List.set_cons_zero, List.set_cons_succ]
            refine wpAnyH_done (by kernel_rfl) ?_ _
            clear hHeld
            dsimp only [OnlyN]
            gi_wp2_with fail
            refine wpIn_drawn ?_
            refine wp_region_held_drew (S := fun w' => w'.cell? ⟨wr.heap.size, 1, none⟩ = some (.int .i64 y)) (by kernel_rfl) (by simp [go_sem]) (fun hHeld => ?_)
            refine wpAnyH_take (i := 0) (v := ?_) rfl (by kernel_rfl) (by kernel_rfl) (by kernel_rfl) (fun _ _ _ h => h) (Or.inl ⟨by rfl, ?_⟩) hHeld ?_
            rotate_left
            · intro w hSw
              try dsimp only at hSw
              go_simp
              try with_reducible rfl
            show wpAnyH _ _ _ _ _ _ _ (Act.put _ (some 48) _) _
            try simp only [Act.put, List.setIfInBounds_toArray, List.set_cons_zero, List.set_cons_succ]
            refine wpAnyH_take (i := 1) (v := ?_) rfl (by kernel_rfl) (by kernel_rfl) (by kernel_rfl) (fun _ _ _ h => h) (Or.inl ⟨by rfl, ?_⟩) hHeld ?_
            rotate_left
            · intro w hSw
              try dsimp only at hSw
              go_simp
              try with_reducible rfl
            show wpAnyH _ _ _ _ _ _ _ (Act.put _ (some 49) _) _
            try simp only [Act.put, List.setIfInBounds_toArray, List.set_cons_zero, List.set_cons_succ]
            refine wpAnyH_take (i := 2) (v := ?_) rfl (by kernel_rfl) (by kernel_rfl) (by kernel_rfl) (fun _ _ _ h => h) (Or.inl ⟨by rfl, ?_⟩) hHeld ?_
            rotate_left
            · intro w hSw
              try dsimp only at hSw
              go_simp
              try with_reducible rfl
            show wpAnyH _ _ _ _ _ _ _ (Act.put _ (some 50) _) _
            try simp only [Act.put, List.setIfInBounds_toArray, List.set_cons_zero, List.set_cons_succ]
            refine wpAnyH_take (i := 3) (v := ?_) rfl (by kernel_rfl) (by kernel_rfl) (by kernel_rfl) (fun _ _ _ h => h) (Or.inl ⟨by rfl, ?_⟩) hHeld ?_
            rotate_left
            · intro w hSw
              try dsimp only at hSw
              go_simp
              try with_reducible rfl
            show wpAnyH _ _ _ _ _ _ _ (Act.put _ (some 51) _) _
            try simp only [Act.put, List.setIfInBounds_toArray, List.set_cons_zero, List.set_cons_succ]
            refine wpAnyH_take (i := 4) (v := ?_) rfl (by kernel_rfl) (by kernel_rfl) (by kernel_rfl) (fun _ _ _ h => h) (Or.inl ⟨by rfl, ?_⟩) hHeld ?_
            rotate_left
            · intro w hSw
              try dsimp only at hSw
              go_simp
              try with_reducible rfl
            show wpAnyH _ _ _ _ _ _ _ (Act.put _ (some 52) _) _
            try simp only [Act.put, List.setIfInBounds_toArray, List.set_cons_zero, List.set_cons_succ]
            refine wpAnyH_take (i := 5) (v := ?_) rfl (by kernel_rfl) (by kernel_rfl) (by kernel_rfl) (fun _ _ _ h => h) (Or.inl ⟨by rfl, ?_⟩) hHeld ?_
            rotate_left
            · intro w hSw
              try dsimp only at hSw
              go_simp
              try with_reducible rfl
            show wpAnyH _ _ _ _ _ _ _ (Act.put _ (some 53) _) _
            try simp only [Act.put, List.setIfInBounds_toArray, List.set_cons_zero, List.set_cons_succ]
            refine wpAnyH_take (i := 7) (v := ?_) rfl (by kernel_rfl) (by kernel_rfl) (by kernel_rfl) (fun _ _ _ h => h) (Or.inl ⟨by rfl, ?_⟩) hHeld ?_
            rotate_left
            · intro w hSw
              try dsimp only at hSw
              go_simp
              try with_reducible rfl
            show wpAnyH _ _ _ _ _ _ _ (Act.put _ (some 55) _) _
            try simp only [Act.put, List.setIfInBounds_toArray, List.set_cons_zero, List.set_cons_succ]
            refine wpAnyH_take (i := 8) (v := ?_) rfl (by kernel_rfl) (by kernel_rfl) (by kernel_rfl) (fun _ _ _ h => h) (Or.inl ⟨by rfl, ?_⟩) hHeld ?_
            rotate_left
            · intro w hSw
              try dsimp only at hSw
              go_simp
              try with_reducible rfl
            show wpAnyH _ _ _ _ _ _ _ (Act.put _ (some 56) _) _
            try simp only [Act.put, List.setIfInBounds_toArray, List.set_cons_zero, List.set_cons_succ]
            refine wpAnyH_ready (rs := [6]) (by kernel_rfl) (by simp) ?_
            refine AllReadyH.cons rfl (fun K hK => ?_) AllReadyH.nil
            go_simp
            clear hHeld
            refine hK.out _ _ ?_ (fun hHeld => ?_)
            · simp [go_sem]
            clear hK K
            try simp only [Act.put, List.setIfInBounds_toArray, List.set_cons_zero, List.set_cons_succ]
            refine wpAnyH_take (i := 9) (v := ?_) rfl (by kernel_rfl) (by kernel_rfl) (by kernel_rfl) (fun _ _ _ h => h) (Or.inl ⟨by rfl, ?_⟩) hHeld ?_
            rotate_left
            · intro w hSw
              try dsimp only at hSw
              go_simp
              try with_reducible rfl
            show wpAnyH _ _ _ _ _ _ _ (Act.put _ (some 57) _) _
            try simp only [Act.put, List.setIfInBounds_toArray, List.set_cons_zero, List.set_cons_succ]
            refine wpAnyH_take (i := 10) (v := ?_) rfl (by kernel_rfl) (by kernel_rfl) (by kernel_rfl) (fun _ _ _ h => h) (Or.inl ⟨by rfl, ?_⟩) hHeld ?_
            rotate_left
            · intro w hSw
              try dsimp only at hSw
              go_simp
              try with_reducible rfl
            show wpAnyH _ _ _ _ _ _ _ (Act.put _ (some 58) _) _
            try simp only [Act.put, List.setIfInBounds_toArray, List.set_cons_zero, List.set_cons_succ]
            refine wpAnyH_take (i := 11) (v := ?_) rfl (by kernel_rfl) (by kernel_rfl) (by kernel_rfl) (fun _ _ _ h => h) (Or.inl ⟨by rfl, ?_⟩) hHeld ?_
            rotate_left
            · intro w hSw
              try dsimp only at hSw
              go_simp
              try with_reducible rfl
            show wpAnyH _ _ _ _ _ _ _ (Act.put _ (some 59) _) _
            try simp only [Act.put, List.setIfInBounds_toArray, List.set_cons_zero, List.set_cons_succ]
            refine wpAnyH_ready (rs := [12]) (by kernel_rfl) (by simp) ?_
            refine AllReadyH.cons rfl (fun K hK => ?_) AllReadyH.nil
            go_simp
            clear hHeld
            refine hK.out _ _ ?_ (fun hHeld => ?_)
            · simp [go_sem, hgl, hgn, hgn']
            clear hK K
            try simp only [Act.put, List.setIfInBounds_toArray, List.set_cons_zero, List.set_cons_succ]
            refine wpAnyH_done (by kernel_rfl) ?_ _
            clear hHeld
            dsimp only [OnlyN]
            gi_wp2_with fail
            go_roundw
            case rel =>
              obtain ⟨h1, h2, h3, h4, h5⟩ := unhide NXT
              have ho := (hrw.stored (b * 2 + 1) (.int .i64 (max q2 y))).1
              rw [h5] at ho
              have hKs := (KeepsOthers.setCell wr ⟨g, b * 2 + 1, none⟩ (.int .i64 (max q2 y))).same D _ hKw rfl
              have hBs := hBw.setCell (p := ⟨g, b * 2 + 1, none⟩) hbg (.int .i64 (max q2 y))
              refine ⟨k + 1, A1 ++ [(q1, max q2 y)], R.set b (q1, max q2 y), by omega, by go_num, by simp; omega, by simp [hbl], hide h1, hide ⟨h2, by rw [show (A1 ++ [(q1, max q2 y)]).length = b + 1 by simp [hbl]]; exact h3, h4⟩, ?_, ?_, ?_⟩
              · exact World.ownsRow.drew (World.ownsRow.drew (ho.alloc _))
              · exact Below.drew (Below.drew (hBs.alloc hBs.size _))
              · exact (Below.heap_alloc _ _ D (Array.getElem?_eq_some_iff.1 hKs).1).trans hKs
            case measure => simp [intOf]; omega
          · have d1 : decide (x ≤ q2) = false := by simpa using hx
            rw [if_neg hx] at hst
            have NXT : Hid (A1 ++ [(q1, q2)] ++ [(x, y)] = jns (M.take (k + 1)) ∧ R.length = N ∧ (R.set (b + 1) (x, y)).take (A1 ++ [(q1, q2)] ++ [(x, y)]).length = A1 ++ [(q1, q2)] ++ [(x, y)] ∧ (R.set (b + 1) (x, y)).drop (k + 1) = M.drop (k + 1)) := by
              refine ⟨hst.symm, hRl, ?_, ?_⟩
              · rw [show (A1 ++ [(q1, q2)] ++ [(x, y)]).length = b + 1 + 1 by simp [hbl], set_take R (b + 1) _ (by omega), hRt]
              · rw [set_drop R (b + 1) (k + 1) _ (by omega)]; exact hRd1
            clear hst hRd hRd1 hRt HR2 HA hRl hkR hMl hq hR1
            rw [hbe]
            gi_wp2_with fail
            refine wpIn_drawn ?_
            refine wp_region_held_drew (S := fun w' => w'.cell? ⟨wr.heap.size, 0, none⟩ = some (.int .i64 x) ∧ w'.cell? ⟨g, b * 2 + 1, none⟩ = some (.int .i64 q2)) (by kernel_rfl) (by constructor <;> simp [go_sem, hgl, f1]) (fun hHeld => ?_)
            refine wpAnyH_take (i := 0) (v := ?_) rfl (by kernel_rfl) (by kernel_rfl) (by kernel_rfl) (fun _ _ _ h => h) (Or.inl ⟨by rfl, ?_⟩) hHeld ?_
            rotate_left
            · intro w hSw
              try dsimp only at hSw
              go_simp
              try with_reducible rfl
            show wpAnyH _ _ _ _ _ _ _ (Act.put _ (some 36) _) _
            try simp only [Act.put, List.setIfInBounds_toArray, List.set_cons_zero, List.set_cons_succ]
            refine wpAnyH_take (i := 1) (v := ?_) rfl (by kernel_rfl) (by kernel_rfl) (by kernel_rfl) (fun _ _ _ h => h) (Or.inl ⟨by rfl, ?_⟩) hHeld ?_
            rotate_left
            · intro w hSw
              try dsimp only at hSw
              go_simp
              try with_reducible rfl
            show wpAnyH _ _ _ _ _ _ _ (Act.put _ (some 37) _) _
            try simp only [Act.put, List.setIfInBounds_toArray, List.set_cons_zero, List.set_cons_succ]
            refine wpAnyH_take (i := 2) (v := ?_) rfl (by kernel_rfl) (by kernel_rfl) (by kernel_rfl) (fun _ _ _ h => h) (Or.inl ⟨by rfl, ?_⟩) hHeld ?_
            rotate_left
            · intro w hSw
              try dsimp only at hSw
              go_simp
              try with_reducible rfl
            show wpAnyH _ _ _ _ _ _ _ (Act.put _ (some 38) _) _
            try simp only [Act.put, List.setIfInBounds_toArray, List.set_cons_zero, List.set_cons_succ]
            refine wpAnyH_take (i := 3) (v := ?_) rfl (by kernel_rfl) (by kernel_rfl) (by kernel_rfl) (fun _ _ _ h => h) (Or.inl ⟨by rfl, ?_⟩) hHeld ?_
            rotate_left
            · intro w hSw
              try dsimp only at hSw
              go_simp
              try with_reducible rfl
            show wpAnyH _ _ _ _ _ _ _ (Act.put _ (some 39) _) _
            try simp only [Act.put, List.setIfInBounds_toArray, List.set_cons_zero, List.set_cons_succ]
            refine wpAnyH_take (i := 4) (v := ?_) rfl (by kernel_rfl) (by kernel_rfl) (by kernel_rfl) (fun _ _ _ h => h) (Or.inl ⟨by rfl, ?_⟩) hHeld ?_
            rotate_left
            · intro w hSw
              try dsimp only at hSw
              go_simp
              try with_reducible rfl
            show wpAnyH _ _ _ _ _ _ _ (Act.put _ (some 40) _) _
            try simp only [Act.put, List.setIfInBounds_toArray, List.set_cons_zero, List.set_cons_succ]
            refine wpAnyH_take (i := 5) (v := ?_) rfl (by kernel_rfl) (by kernel_rfl) (by kernel_rfl) (fun _ _ _ h => h) (Or.inl ⟨by rfl, ?_⟩) hHeld ?_
            rotate_left
            · intro w hSw
              try dsimp only at hSw
              go_simp
              try with_reducible rfl
            show wpAnyH _ _ _ _ _ _ _ (Act.put _ (some 41) _) _
            try simp only [Act.put, List.setIfInBounds_toArray, List.set_cons_zero, List.set_cons_succ]
            refine wpAnyH_take (i := 6) (v := ?_) rfl (by kernel_rfl) (by kernel_rfl) (by kernel_rfl) (fun _ _ _ h => h) (Or.inl ⟨by rfl, ?_⟩) hHeld ?_
            rotate_left
            · intro w hSw
              try dsimp only at hSw
              go_simp
              try with_reducible rfl
            show wpAnyH _ _ _ _ _ _ _ (Act.put _ (some 42) _) _
            try simp only [Act.put, List.setIfInBounds_toArray, List.set_cons_zero, List.set_cons_succ]
            refine wpAnyH_take (i := 7) (v := ?_) rfl (by kernel_rfl) (by kernel_rfl) (by kernel_rfl) (fun _ _ _ h => h) (Or.inl ⟨by rfl, ?_⟩) hHeld ?_
            rotate_left
            · intro w hSw
              try dsimp only at hSw
              go_simp
              try with_reducible rfl
            show wpAnyH _ _ _ _ _ _ _ (Act.put _ (some 43) _) _
            try simp only [Act.put, List.setIfInBounds_toArray, List.set_cons_zero, List.set_cons_succ]
            refine wpAnyH_take (i := 8) (v := ?_) rfl (by kernel_rfl) (by kernel_rfl) (by kernel_rfl) (fun _ _ _ h => h) (Or.inl ⟨by rfl, ?_⟩) hHeld ?_
            rotate_left
            · intro w hSw
              try dsimp only at hSw
              go_simp
              try with_reducible rfl
            show wpAnyH _ _ _ _ _ _ _ (Act.put _ (some 44) _) _
            try simp only [Act.put, List.setIfInBounds_toArray, List.set_cons_zero, List.set_cons_succ]
            refine wpAnyH_take (i := 9) (v := ?_) rfl (by kernel_rfl) (by kernel_rfl) (by kernel_rfl) (fun _ _ _ h => h) (Or.inl ⟨by rfl, ?_⟩) hHeld ?_
            rotate_left
            · intro w hSw
              try dsimp only at hSw
              go_simp
              try with_reducible rfl
            show wpAnyH _ _ _ _ _ _ _ (Act.put _ (some 45) _) _
            try simp only [Act.put, List.setIfInBounds_toArray, List.set_cons_zero, List.set_cons_succ]
            refine wpAnyH_take (i := 10) (v := ?_) rfl (by kernel_rfl) (by kernel_rfl) (by kernel_rfl) (fun _ _ _ h => h) (Or.inl ⟨by rfl, ?_⟩) hHeld ?_
            rotate_left
            · intro w hSw
              try dsimp only at hSw
              go_simp
              try with_reducible rfl
            show wpAnyH _ _ _ _ _ _ _ (Act.put _ (some 46) _) _
            try simp only [Act.put, List.setIfInBounds_toArray, List.set_cons_zero, List.set_cons_succ]
            refine wpAnyH_take (i := 11) (v := ?_) rfl (by kernel_rfl) (by kernel_rfl) (by kernel_rfl) (fun _ _ _ h => h) (Or.inl ⟨by rfl, ?_⟩) hHeld ?_
            rotate_left
            · intro w hSw
              try dsimp only at hSw
              go_simp
              try with_reducible rfl
            show wpAnyH _ _ _ _ _ _ _ (Act.put _ (some 47) _) _
            try simp only [Act.put, List.setIfInBounds_toArray, List.set_cons_zero, List.set_cons_succ]
            refine wpAnyH_done (by kernel_rfl) ?_ _
            clear hHeld
            dsimp only [OnlyN]
            gi_wp2_with (gi_at_builtin; refine wpListIn_append_mid _ rfl _ _ 42 rfl w.heap.size 45 i0 Try.underlying42 hi hz1 g (b + 1) N cap2 R (x, y) rfl (World.ownsRow.drew ((hrw.alloc _).alloc _)) (by omega) ⟨wr.heap.size + 1, 0, none⟩ 1 rfl (two_new2 wr _ x y _) ?_; intro w1 hown1 hgrow1)
            go_roundw
            case rel =>
              obtain ⟨h1, h2, h3, h4⟩ := unhide NXT
              have hBX := Below.drew ((hBw.alloc hBw.size (.cells #[.int .i64 x, .int .i64 y] 45)).alloc (by have := hBw.size; simp; omega) (.cells #[.int .i64 x, .int .i64 y] 45))
              have hKX : ((wr.alloc (.cells #[.int .i64 x, .int .i64 y] 45)).alloc (.cells #[.int .i64 x, .int .i64 y] 45)).drew.heap[D]? = some (.deferred (some [])) := by
                rw [Below.block (Keep.drew (Keep.alloc (Keep.alloc (Keep.refl wr) _) _)) D hDw]; exact hKw
              have hDX := (Array.getElem?_eq_some_iff.1 hKX).1
              exact ⟨k + 1, A1 ++ [(q1, q2)] ++ [(x, y)], R.set (b + 1) (x, y), by omega, by go_num, by simp; omega, by simp [hbl], hide h1, hide ⟨by rw [List.length_set]; exact h2, h3, h4⟩, hown1, hBX.grown hgrow1 hBX.size (fun j ej => by cases ej; exact hbg), (hgrow1.5 D hDX (fun e => hDg (by injection e with e))).trans hKX⟩
            case measure => simp [intOf]; omega
      · have hkN : k = N := by omega
        obtain ⟨hperm, hsort, hMl⟩ := unhide HMN
        obtain ⟨hRl, hRt, hRd⟩ := unhide HR2
        have hA := unhide HA
        rw [hkN, ← hMl, List.take_length] at hA
        have hok : Ok c M := fun p hp => pcs_ok c L p (hperm.mem_iff.1 hp)
        have hap := (jns_ap hok hsort).1
        have hin : ∀ p, p ∈ A → InP p := by
          intro p hp
          rw [hA] at hp
          have h1 := hap.1 p hp
          have hcy : Cyc c := by
            apply Classical.byContradiction
            intro hn
            have h2 : M = [] := by
              have := hperm
              rw [pcs_none hn] at this
              exact List.Perm.eq_nil this
            rw [h2] at hp
            simp [jns] at hp
          have := hcy.2
          unfold InP In
          omega
        have hpo := ownsRow_putObj hrw (.deferred none) hKw rfl
        have hrs : Rs (wr.putObj D (.deferred none)) (.slice (some ⟨g, 0, none⟩) A.length cap2) (jns M) := by
          have h1 := rs_pre hpo (show A.length ≤ N by omega) (by rw [hRt]; exact hin)
          rw [hRt] at h1
          rw [← hA]
          exact h1
        have FIN := hide (⟨M, hperm, hsort, hrs, hBw.trans (belowK_b (w := w) (Nat.le_refl _) wr D (.deferred (some [])) (.deferred none) (by omega) hKw rfl rfl)⟩ : ∃ M : List Pr, M.Perm (pcs c L) ∧ M.Pairwise (fun p q => p.1 ≤ q.1) ∧ Rs (wr.putObj D (.deferred none)) (.slice (some ⟨g, 0, none⟩) A.length cap2) (jns M) ∧ Keep w (wr.putObj D (.deferred none)))
        have li : ¬ (k : Int) < (N : Int) := by omega
        generalize A.length = b at *
        clear hpo hrs hin hap hok hA hperm hsort hMl hRl hRt hRd HR2 HA HMN hrw
        subst hkN
        gi_wp2_with fail
        refine ⟨by simp, .inl ⟨_, _, rfl, run_takeDeferred hKw, ?_⟩⟩
        obtain ⟨M, h1, h2, h3, h4⟩ := unhide FIN
        exact ⟨_, results_tmp rfl _ _ _, .slice (some ⟨g, 0, none⟩) b cap2, rfl, M, h1, h2, h3, h4⟩
  case stop =>
    rintro D c pre W _ _ h _
    exact h.elim
/-- the pieces of arcs: they rise, they lie in the cycle, they have just the arcs' ticks -/
def Op (c : Int) (L ps : List Pr) : Prop := Ap c ps ∧ (¬ Cyc c → ps = []) ∧ ∀ t, 0 ≤ t → t < c → (Mm ps t ↔ Ta c L t)
theorem opened_any (c : Int) (v0 : Value) (L : List Pr) (w : World) (hl : L.length ≤ 50000) (hR : Rs w v0 L) :
    Calls Try.prog 19 #[.int .i64 c, v0] w fun e w' => ∃ v ps, e = .returned v ∧ Op c L ps ∧ Rs w' v ps ∧ Keep w w' := by
  refine (opened_core c v0 L w hl hR).mono ?_
  rintro e w' ⟨v, M, he, hperm, hsort, hrs, hk⟩
  have hok : Ok c M := fun p hp => pcs_ok c L p (hperm.mem_iff.1 hp)
  obtain ⟨h1, h2⟩ := jns_ap hok hsort
  refine ⟨v, jns M, he, ⟨h1, ?_, ?_⟩, hrs, hk⟩
  · intro hn
    have h3 : M = [] := by
      have := hperm
      rw [pcs_none hn] at this
      exact List.Perm.eq_nil this
    rw [h3]
    rfl
  · intro t t0 t1
    rw [h2 t, mm_perm (fun p => hperm.mem_iff), pcs_mm c L t t0 t1]
end Go.Proofs.Ytcllijjmjmfedaa
