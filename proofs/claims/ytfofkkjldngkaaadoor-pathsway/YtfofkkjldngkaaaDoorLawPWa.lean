/- Proved: for every number of points, every row of edges above 0 (few of them, or no graph at all) and every point, the longest way that is told is the document's. -/
import Derived.Test.YtfofkkjldngkaaaDoorRows
import Derived.Test.YtfofkkjldngkaaaDoorCards
import Derived.Test.YtfofkkjldngkaaaDoorTie
import Derived.Test.YtfofkkjldngkaaaDoorPcE
namespace Go.Proofs.YtfofkkjldngkaaaDoor.pway
open Go.ChangeShapes Go.WideShapes Go.ChangeAt Go.RowKit
open Go.WideMaps Go.WideElems
attribute [local go_sem ↓] Go.wp_at_zero Go.wp_at_succ
set_option linter.unusedVariables false
set_option linter.unusedSimpArgs false
set_option maxRecDepth 10000
open Pa
set_option maxHeartbeats 4000000 in
theorem walk (n : Int) {v : Value} {R : List E3} {w : World} (hR : Es w v R) (td : Int) (hT : Tab w) : Calls Tryd.prog 4 #[.int .i64 n, v, .int .i64 td] w fun e w' => e = .returned (.bool true) ∧ Below w.heap.size w w' := by
  have HR := hide hR
  obtain ⟨a, cap, rfl, -⟩ := hR
  have TF := hide (few_any a R.length cap n w)
  have TA := hide (fun (w' : World) (hk : Keep w w') => awake_any w' (hT.keep hk))
  cases hF : fwB n R.length with
  | false =>
    rw [hF] at TF
    generalize R.length = m at *
    clear hF
    go_enter Tryd.func4, Tryd.ntmps4
    go_wp2_with fail
    (refine (unhide TF).mono ?_; rintro e w1 ⟨rfl, rfl⟩)
    go_wp2_with fail
    (refine ((unhide TA) _ (Keep.refl _)).mono ?_; rintro e w2 ⟨rfl, hk9⟩; have K2 := hide hk9; clear hk9 TA)
    go_wp2_with fail
    go_ret
    exact ⟨rfl, unhide K2⟩
  | true =>
    have hl := fwB_le hF
    rw [hF] at TF
    have TS := hide (simple_any _ R w (unhide HR) (by omega))
    have T1 := hide (fun (w' : World) (hk : Keep w w') => way_any _ R n td w' ((unhide HR).keep hk) (by omega) (hT.keep hk))
    have T2 := hide (fun (w' : World) (hk : Keep w w') => rway_any _ R n td w' ((unhide HR).keep hk) (by omega))
    have HL9 := hide (wy_len n R td)
    unfold WQ at T1 T2
    unfold Bq at TS
    generalize wy n R td = L at T1 T2 HL9
    generalize R.length = m at *
    clear hF hT
    go_enter Tryd.func4, Tryd.ntmps4
    go_wp2_with fail
    (refine (unhide TF).mono ?_; rintro e w1 ⟨rfl, rfl⟩)
    go_wp2_with fail
    (refine (unhide TS).mono ?_; rintro e w1 ⟨⟨b, rfl⟩, rfl⟩; clear TS)
    cases b with
    | false =>
      go_wp2_with fail
      (refine ((unhide TA) _ (Keep.refl _)).mono ?_; rintro e w2 ⟨rfl, hk9⟩; have K2 := hide hk9; clear hk9 TA)
      go_wp2_with fail
      go_ret
      exact ⟨rfl, unhide K2⟩
    | true =>
      go_wp2_with fail
      (refine ((unhide T1) _ (Keep.refl _)).mono ?_; rintro e w2 ⟨u2, rfl, hk9, hi9⟩; have K2 := hide hk9; have I2 := hide hi9; clear hk9 hi9 T1)
      obtain ⟨x2, c2, rfl⟩ := (unhide I2).sl
      go_wp2_with fail
      (refine ((unhide T2) _ (unhide K2)).mono ?_; rintro e w3 ⟨u3, rfl, hk9, hi9⟩; have K3 := hide ((unhide K2).trans hk9); have I3 := hide hi9; have J3 := hide ((unhide I2).keep hk9); clear hk9 hi9 T2)
      obtain ⟨x3, c3, rfl⟩ := (unhide I3).sl
      have A2 := hide (unhide J3).is.at.2
      have A3 := hide (unhide I3).is.at.2
      clear I2 I3 J3
      generalize L.length = ln at *
      have hbl : ((ln : Int) != (ln : Int)) = false := by simp
      go_wp2_with fail
      go_loopw [9] (fun vi wr => ∃ k : Nat, vi = .int .i64 (k : Int) ∧ k ≤ ln ∧ Hid (Keep w3 wr)) (fun vi _ => ln - (intOf vi).toNat)
      case atStart => exact ⟨0, rfl, Nat.zero_le _, hide (Keep.refl _)⟩
      case round =>
        obtain ⟨k, rfl, hk, KW⟩ := hrel
        by_cases hlt : k < ln
        · have li : (k : Int) < (ln : Int) := by omega
          obtain ⟨xa, rfl, y0⟩ := (unhide A2) k hlt
          obtain ⟨xb, rfl, y1⟩ := (unhide A3) k hlt
          have lz : (0 : Int) ≤ (k : Int) := by omega
          have hln63 := unhide HL9
          generalize g L k = y at y0 y1
          have hb2 : (y != y) = false := by simp
          have CK : Hid (∀ w', Keep wr w' → w'.cell? (xa.add k) = some (.int .i64 y) ∧ w'.cell? (xb.add k) = some (.int .i64 y)) := hide (fun w' hk => ⟨kc hk (kc (unhide KW) y0), kc hk (kc (unhide KW) y1)⟩)
          clear y0 y1
          go_upto_region 10 with fail
          refine wp_region_held_drew (S := (fun w' => w'.cell? (xa.add k) = some (.int .i64 y) ∧ w'.cell? (xb.add k) = some (.int .i64 y))) (by kernel_rfl) (by exact unhide CK _ (by repeat (first | apply Keep.drew | exact Keep.refl _))) (fun hHeld => ?_)
          refine wpAnyH_take (i := 0) (v := ?_) rfl (by kernel_rfl) (by kernel_rfl) (by kernel_rfl) (fun _ _ _ h => h) (Or.inl ⟨by rfl, ?_⟩) hHeld ?_
          rotate_left
          · intro w hSw
            try dsimp only at hSw
            go_simp
            try with_reducible rfl
          show wpAnyH _ _ _ _ _ _ _ (Act.put _ (some 39) _) _
          try simp only [Act.put, List.setIfInBounds_toArray, List.set_cons_zero, List.set_cons_succ]
          refine wpAnyH_take (i := 1) (v := ?_) rfl (by kernel_rfl) (by kernel_rfl) (by kernel_rfl) (fun _ _ _ h => h) (Or.inl ⟨by rfl, ?_⟩) hHeld ?_
          rotate_left
          · intro w hSw
            try dsimp only at hSw
            go_simp
            try with_reducible rfl
          show wpAnyH _ _ _ _ _ _ _ (Act.put _ (some 40) _) _
          try simp only [Act.put, List.setIfInBounds_toArray, List.set_cons_zero, List.set_cons_succ]
          refine wpAnyH_take (i := 2) (v := ?_) rfl (by kernel_rfl) (by kernel_rfl) (by kernel_rfl) (fun _ _ _ h => h) (Or.inl ⟨by rfl, ?_⟩) hHeld ?_
          rotate_left
          · intro w hSw
            try dsimp only at hSw
            go_simp
            try with_reducible rfl
          show wpAnyH _ _ _ _ _ _ _ (Act.put _ (some 41) _) _
          try simp only [Act.put, List.setIfInBounds_toArray, List.set_cons_zero, List.set_cons_succ]
          refine wpAnyH_take (i := 3) (v := ?_) rfl (by kernel_rfl) (by kernel_rfl) (by kernel_rfl) (fun _ _ _ h => h) (Or.inl ⟨by rfl, ?_⟩) hHeld ?_
          rotate_left
          · intro w hSw
            try dsimp only at hSw
            go_simp
            try with_reducible rfl
          show wpAnyH _ _ _ _ _ _ _ (Act.put _ (some 42) _) _
          try simp only [Act.put, List.setIfInBounds_toArray, List.set_cons_zero, List.set_cons_succ]
          refine wpAnyH_take (i := 4) (v := ?_) rfl (by kernel_rfl) (by kernel_rfl) (by kernel_rfl) (fun _ _ _ h => h) (Or.inl ⟨by rfl, ?_⟩) hHeld ?_
          rotate_left
          · intro w hSw
            try dsimp only at hSw
            go_simp
            try with_reducible rfl
          show wpAnyH _ _ _ _ _ _ _ (Act.put _ (some 43) _) _
          try simp only [Act.put, List.setIfInBounds_toArray, List.set_cons_zero, List.set_cons_succ]
          refine wpAnyH_take (i := 5) (v := ?_) rfl (by kernel_rfl) (by kernel_rfl) (by kernel_rfl) (fun _ _ _ h => h) (Or.inl ⟨by rfl, ?_⟩) hHeld ?_
          rotate_left
          · intro w hSw
            try dsimp only at hSw
            go_simp
            try with_reducible rfl
          show wpAnyH _ _ _ _ _ _ _ (Act.put _ (some 44) _) _
          try simp only [Act.put, List.setIfInBounds_toArray, List.set_cons_zero, List.set_cons_succ]
          refine wpAnyH_take (i := 6) (v := ?_) rfl (by kernel_rfl) (by kernel_rfl) (by kernel_rfl) (fun _ _ _ h => h) (Or.inl ⟨by rfl, ?_⟩) hHeld ?_
          rotate_left
          · intro w hSw
            try dsimp only at hSw
            go_simp
            try with_reducible rfl
          show wpAnyH _ _ _ _ _ _ _ (Act.put _ (some 45) _) _
          try simp only [Act.put, List.setIfInBounds_toArray, List.set_cons_zero, List.set_cons_succ]
          refine wpAnyH_take (i := 7) (v := ?_) rfl (by kernel_rfl) (by kernel_rfl) (by kernel_rfl) (fun _ _ _ h => h) (Or.inl ⟨by rfl, ?_⟩) hHeld ?_
          rotate_left
          · intro w hSw
            try dsimp only at hSw
            go_simp
            try with_reducible rfl
          show wpAnyH _ _ _ _ _ _ _ (Act.put _ (some 46) _) _
          try simp only [Act.put, List.setIfInBounds_toArray, List.set_cons_zero, List.set_cons_succ]
          refine wpAnyH_take (i := 8) (v := ?_) rfl (by kernel_rfl) (by kernel_rfl) (by kernel_rfl) (fun _ _ _ h => h) (Or.inl ⟨by rfl, ?_⟩) hHeld ?_
          rotate_left
          · intro w hSw
            try dsimp only at hSw
            go_simp
            try with_reducible rfl
          show wpAnyH _ _ _ _ _ _ _ (Act.put _ (some 47) _) _
          try simp only [Act.put, List.setIfInBounds_toArray, List.set_cons_zero, List.set_cons_succ]
          refine wpAnyH_done (by kernel_rfl) ?_ _
          clear hHeld
          go_wp2_with fail
          go_roundw
          case rel => exact ⟨k + 1, by go_num, by omega, hide (by have := unhide KW; repeat (first | exact this | apply Keep.drew))⟩
          case measure => simp [intOf]; omega
        · have li : ¬ (k : Int) < (ln : Int) := by omega
          go_wp2_with fail
          (refine ((unhide TA) _ ((unhide K3).trans (unhide KW))).mono ?_; rintro e w4 ⟨rfl, hk9⟩; have K4 := hide (((unhide K3).trans (unhide KW)).trans hk9); clear hk9 TA)
          go_wp2_with fail
          go_ret
          exact ⟨rfl, unhide K4⟩
theorem laidOut : laidOutB Tryd.prog = true := by kernel_rfl
theorem own : ownKnob Tryd.prog.godebug = none := by kernel_rfl
theorem tab_of {W : World} (h : laidMetH Tryd.prog Rows.pathsWayRow.laid W) : Pa.Tab W := by
  have h' : laidMet Tryd.prog [("math/bits.deBruijn64tab", Rows.laid_math_bits_deBruijn64tab)] W := h
  have e : (Rows.laid_math_bits_deBruijn64tab : DataW Unit) = Lib.tabData .u8 (Lib.deBruijn64tab.map fun x : Nat => (x : Int)) := by rfl
  rw [e] at h'
  exact Pa.tab_of h'
theorem door_met (os : Os) (args : Array Value) : laidMetH Tryd.prog Rows.pathsWayRow.laid ((World.doorLaid Tryd.prog 24 os).forCall (fun _ _ => 0) ⟨#[], args, []⟩).memory :=
  laidMetH_of_parts3 (fuel := 8) (laidMet_of_run' 8 (by kernel_rfl) (by kernel_rfl)) (by kernel_rfl) (by kernel_rfl)
set_option maxHeartbeats 400000 in
set_option maxRecDepth 100000 in
theorem lifted (os : Os) (started : os.Started) (H : Type) (enc : TypeId × Value → H) :
    ReturnsInHanded {} Tryd.checked os 4 .any (fun w args => (Rows.pathsWaySpec.pre enc Tryd.prog Tryd.f4 [] false w args ∧ laidMetH Tryd.prog Rows.pathsWayRow.laid w) ∧ sizedMet enc Tryd.prog Tryd.f4 (OpenSpec.ofChange Rows.pathsWaySpec) false w args)
      (Rows.pathsWaySpec.post enc Tryd.prog Tryd.f4 false true false false) := by
  refine returnsInHanded_of_change_and (C := Tryd.checked) (X := fun w _ => laidMetH Tryd.prog Rows.pathsWayRow.laid w) (fun _ _ _ hh h => h.of_heap hh) own started (by kernel_rfl) Tryd.func4
    (ChangeSpec.witness_shaped (enc := enc) (C := Tryd.checked) (os := os) (X := fun w _ => laidMetH Tryd.prog Rows.pathsWayRow.laid w) false (World.doorLaid Tryd.prog 24 os) #[.int .i64 0, .slice none 0 0, .int .i64 0] 8 rfl (World.shaped_of_RefB (by kernel_rfl) (by kernel_rfl)) (by kernel_rfl) (by kernel_rfl) (by kernel_rfl) (door_met os _)) ?_
  intro W base args ds gs before hval0 hW _ _ hL _
  have hval : ∀ (j : Nat) t v, Tryd.f4.params[j]? = some t → args[j]? = some v → Value.okWide Tryd.prog W .any base t v := hval0
  have hW' := hW
  obtain ⟨p, q, hA0, hV, rfl, hfz, hnd⟩ := hW
  have hA : DataW.TrodAll enc Tryd.prog W 0 (fun _ => true) true Tryd.f4.params.toList args.toList ds p := hA0
  rw [Tryd.params4] at hA hval
  obtain ⟨v0, vs0, d0, ds0, p0, q0, hargs, rfl, rfl, h0, r0⟩ := trodAll_cons hA
  obtain ⟨v1, vs1, d1, ds1, p1, q1, rfl, rfl, rfl, h1, r1⟩ := trodAll_cons r0
  obtain ⟨v2, vs2, d2, ds2, p2, q2, rfl, rfl, rfl, h2, r2⟩ := trodAll_cons r1
  obtain ⟨rfl, rfl, rfl⟩ := trodAll_nil r2
  obtain rfl : args = #[v0, v1, v2] := by cases args; simp_all
  obtain ⟨rfl, rfl⟩ := trodVars_none hV
  obtain ⟨a0, rfl, rfl, rfl, x0⟩ := open_int Tryd.underlying3 (hval 0 3 v0 rfl rfl) h0
  have k1 := h1
  have lt1 : ∀ x ∈ p1, x.block < W.heap.size := by obtain ⟨m, hm⟩ := k1; exact DataW.trod_lt m _ _ _ hm
  obtain ⟨R1, x1⟩ := Pa.open_edges (hval 1 22 v1 rfl rfl) h1
  clear h1
  obtain ⟨a2, rfl, rfl, rfl, x2⟩ := open_int Tryd.underlying3 (hval 2 3 v2 rfl rfl) h2
  clear hA0 hval0
  refine (walk a0 x1 a2 (tab_of hL)).mono fun e W' ⟨he, bel⟩ => ?_
  subst he
  exact ⟨_, rfl, _, _, _, [], _, [], hW', trodAll_mk1 (shut_bool Tryd.underlying4 _), (trodAll_cons_mk (shut_int Tryd.underlying3 x0) (trodAll_cons_mk (Below.trod laidOut (by kernel_rfl) (of_decide_eq_true (by kernel_rfl)) k1 bel lt1) (trodAll_cons_mk (shut_int Tryd.underlying3 x2) trodAll_mk0))), rfl, bel.frame _, fun h => by cases h⟩
theorem over : Rows.pathsWayRow.holds Tryd.pinned (OpenSpec.ofChange Rows.pathsWaySpec) :=
  OpenClaim.holds_of_wide 4 Tryd.f4 rfl rfl rfl rfl rfl rfl rfl ⟨rfl, rfl, rfl, rfl, rfl⟩ rfl rfl rfl rfl rfl (by kernel_rfl) Tryd.func4 (by kernel_rfl)
    (of_decide_eq_true (by kernel_rfl)) (by unfold Func.isWrapper; first | (rw [if_pos (by decide +kernel)]; kernel_rfl) | (rw [if_neg (by decide +kernel)]; exact ⟨rfl, rfl⟩))
    (fun os started H enc _ => lifted os started H enc)
theorem card : Claim7.holds Tryd.pinned (.plain (OpenSpec.ofChange Rows.pathsWaySpec)) Rows.pathsWayCard :=
  Claim7.holds_tied_plain_at .later [] [.data] true _ false
    over (fun _ h => by cases h) (by kernel_rfl) (fun _ h => by cases h) pathsWay_row_tie rfl ⟨rfl, rfl⟩ (by kernel_rfl) rfl
    (fun f fn hf hfn => by
      obtain rfl : f = 4 := Option.some.inj ((show Tryd.prog.funcNamed Rows.pathsWayRow.func = some 4 by kernel_rfl).symm.trans hf) |>.symm
      obtain rfl : fn = Tryd.f4 := (Option.some.inj (Tryd.func4.symm.trans hfn)).symm
      exact ⟨by kernel_rfl, fun j t ht => by
        rw [Tryd.params4] at ht
        have hm : t ∈ [3, 22, 3] := by simpa using Array.mem_of_getElem? ht
        have hall : ([3, 22, 3].all fun u => !Tryd.prog.wantsStandIn u) = true := by kernel_rfl
        exact (show Tryd.prog.wantsStandIn t = false by simpa using List.all_eq_true.1 hall t hm)⟩)
    (by kernel_rfl)

end Go.Proofs.YtfofkkjldngkaaaDoor.pway
namespace Go.Proofs.YtfofkkjldngkaaaDoor
theorem PathsWay_holds : Rows.PathsWayCardSaid := pway.card
end Go.Proofs.YtfofkkjldngkaaaDoor
