/- Proved: for every two fractions, right or not, their sum and their difference, or that it does not fit, are the document's. -/
import Derived.Test.YtnfhkgdgkfanhaaDoorCards
import Derived.Test.YtnfhkgdgkfanhaaDoorTie
import Derived.Test.YtnfhkgdgkfanhaaDoorAwake2
import Derived.Test.YtnfhkgdgkfanhaaDoorFracV
import Derived.Test.YtnfhkgdgkfanhaaDoorRefP
import Derived.WalkKit
import Derived.ProofKit
import Derived.OpenShut
import Derived.ShutString
import Derived.ChangeOld
import Derived.Below
import Derived.Lib.SmallJoins
import Derived.SevenTiedAt
import Derived.LaidHandle
import Derived.LaidLaws
import Derived.LaidMore
import Derived.LaidOnce
import Derived.JoinedOf
import Derived.Stop.Joined
namespace Go.Proofs.YtnfhkgdgkfanhaaDoor.sums
open Go.ChangeShapes Go.WideShapes Go.ChangeAt Go.RowKit Go.Joins
set_option linter.unusedVariables false
set_option maxRecDepth 10000
set_option maxHeartbeats 400000 in
theorem same_any (X Y Z : Int) (w : World) :
    Calls Tryd.prog 11 #[.agg #[.int .i64 X, .int .i64 Y], .int .i64 Z, .agg #[.int .i64 X, .int .i64 Y], .int .i64 Z] w fun e w' => e = .returned (.bool true) ∧ Keep w w' := by
  go_enter Tryd.func11, Tryd.ntmps11
  go_wp2
  go_ret
  exact ⟨rfl, by repeat (first | apply keep_ext | apply Keep.alloc | apply Keep.drew | exact Keep.refl _)⟩
set_option maxHeartbeats 4000000 in
theorem walk_core (n d n2 d2 X Xy Xz U Uy Uz : Int) (w : World)
    (A1 : Hid (∀ w, Calls Tryd.prog 15 #[.agg #[.int .i64 n, .int .i64 d], .agg #[.int .i64 n2, .int .i64 d2]] w fun e w' => e = .returned (.tuple #[.agg #[.int .i64 X, .int .i64 Xy], .int .i64 Xz]) ∧ Keep w w')) (A2 : Hid (∀ w, Calls Tryd.prog 16 #[.agg #[.int .i64 n, .int .i64 d], .agg #[.int .i64 n2, .int .i64 d2]] w fun e w' => e = .returned (.tuple #[.agg #[.int .i64 X, .int .i64 Xy], .int .i64 Xz]) ∧ Keep w w'))
    (B1 : Hid (∀ w, Calls Tryd.prog 17 #[.agg #[.int .i64 n, .int .i64 d], .agg #[.int .i64 n2, .int .i64 d2]] w fun e w' => e = .returned (.tuple #[.agg #[.int .i64 U, .int .i64 Uy], .int .i64 Uz]) ∧ Keep w w')) (B2 : Hid (∀ w, Calls Tryd.prog 18 #[.agg #[.int .i64 n, .int .i64 d], .agg #[.int .i64 n2, .int .i64 d2]] w fun e w' => e = .returned (.tuple #[.agg #[.int .i64 U, .int .i64 Uy], .int .i64 Uz]) ∧ Keep w w'))
    (Sm : Int → Int → Int → Prop) (S1 : Sm X Xy Xz) (S2 : Sm U Uy Uz)
    (SM : Hid (∀ X Xy Xz, Sm X Xy Xz → (∀ w, Calls Tryd.prog 11 #[.agg #[.int .i64 X, .int .i64 Xy], .int .i64 Xz, .agg #[.int .i64 X, .int .i64 Xy], .int .i64 Xz] w fun e w' => e = .returned (.bool true) ∧ Keep w w')))
    (A : Hid (∀ w, Calls Tryd.prog 14 #[] w fun e w' => e = .returned (.bool true) ∧ Keep w w')) :
    Calls Tryd.prog 4 #[.agg #[.int .i64 n, .int .i64 d], .agg #[.int .i64 n2, .int .i64 d2]] w fun e w' => e = .returned (.bool true) ∧ Keep w w' := by
  go_enter Tryd.func4, Tryd.ntmps4
  go_wp2_with fail
  (refine ((unhide A1) _).mono ?_; rintro e w2 ⟨rfl, hk⟩; obtain ⟨o1, k1, rfl⟩ := hk.ext; clear hk)
  go_wp2_with fail
  (refine ((unhide A2) _).mono ?_; rintro e w2 ⟨rfl, hk⟩; obtain ⟨o2, k2, rfl⟩ := hk.ext; clear hk)
  go_wp2_with fail
  (refine ((unhide B1) _).mono ?_; rintro e w2 ⟨rfl, hk⟩; obtain ⟨o3, k3, rfl⟩ := hk.ext; clear hk)
  go_wp2_with fail
  (refine ((unhide B2) _).mono ?_; rintro e w2 ⟨rfl, hk⟩; obtain ⟨o4, k4, rfl⟩ := hk.ext; clear hk)
  go_wp2_with fail
  (refine ((unhide SM) _ _ _ S1 _).mono ?_; rintro e w2 ⟨rfl, hk⟩; obtain ⟨o5, k5, rfl⟩ := hk.ext; clear hk)
  go_wp2_with fail
  (refine ((unhide SM) _ _ _ S2 _).mono ?_; rintro e w2 ⟨rfl, hk⟩; obtain ⟨o6, k6, rfl⟩ := hk.ext; clear hk)
  go_wp2_with fail
  (refine ((unhide A) _).mono ?_; rintro e w2 ⟨rfl, hk⟩; obtain ⟨o7, k7, rfl⟩ := hk.ext; clear hk)
  go_wp2_with fail
  go_ret
  exact ⟨rfl, by repeat (first | apply keep_ext | apply Keep.alloc | apply Keep.drew | exact Keep.refl _)⟩
theorem walk (n d n2 d2 : Int) (w0 : (Lit.int .i64 n).wf = true) (w1 : (Lit.int .i64 d).wf = true) (w2 : (Lit.int .i64 n2).wf = true) (w3 : (Lit.int .i64 d2).wf = true) (w : World) :
    Calls Tryd.prog 4 #[.agg #[.int .i64 n, .int .i64 d], .agg #[.int .i64 n2, .int .i64 d2]] w fun e w' => e = .returned (.bool true) ∧ Below w.heap.size w w' := by
  obtain ⟨h1, h2⟩ := bounds_i64 w0
  obtain ⟨h3, h4⟩ := bounds_i64 w1
  obtain ⟨k1, k2⟩ := bounds_i64 w2
  obtain ⟨k3, k4⟩ := bounds_i64 w3
  exact walk_core n d n2 d2 _ _ _ _ _ _ w (hide fun w => fadd_any n d n2 d2 w h1 h2 h3 h4 k1 k2 k3 k4) (hide fun w => rfadd_any n d n2 d2 w h1 h2 h3 h4 k1 k2 k3 k4) (hide fun w => fsub_any n d n2 d2 w h1 h2 h3 h4 k1 k2 k3 k4) (hide fun w => rfsub_any n d n2 d2 w h1 h2 h3 h4 k1 k2 k3 k4) (fun X Y Z => ∀ w, Calls Tryd.prog 11 #[.agg #[.int .i64 X, .int .i64 Y], .int .i64 Z, .agg #[.int .i64 X, .int .i64 Y], .int .i64 Z] w fun e w' => e = .returned (.bool true) ∧ Keep w w') (fun w => same_any _ _ _ w) (fun w => same_any _ _ _ w) (hide fun X Y Z h => h) (hide awake_any)
theorem door_met (os : Os) (args : Array Value) : laidMetH Tryd.prog Rows.fracSumsRow.laid ((World.doorLaid Tryd.prog 24 os).forCall (fun _ _ => 0) ⟨#[], args, []⟩).memory :=
  laidMetH_of_parts3 (fuel := 8) (laidMet_of_run' 8 (by kernel_rfl) (by kernel_rfl)) (by kernel_rfl) (by kernel_rfl)
theorem laidOut : laidOutB Tryd.prog = true := by kernel_rfl
theorem own : ownKnob Tryd.prog.godebug = none := by kernel_rfl
theorem cells2 : Tryd.prog.cellsOf 23 = 2 := by kernel_rfl
set_option maxHeartbeats 400000 in
set_option maxRecDepth 100000 in
theorem lifted (os : Os) (started : os.Started) (H : Type) (enc : TypeId × Value → H) :
    ReturnsInHanded {} Tryd.checked os 4 .any (fun w args => (Rows.fracSumsSpec.pre enc Tryd.prog Tryd.f4 [] false w args ∧ laidMetH Tryd.prog Rows.fracSumsRow.laid w) ∧ sizedMet enc Tryd.prog Tryd.f4 (OpenSpec.ofChange Rows.fracSumsSpec) false w args)
      (Rows.fracSumsSpec.post enc Tryd.prog Tryd.f4 false true false false) := by
  refine returnsInHanded_of_change_and (C := Tryd.checked) (X := fun w _ => laidMetH Tryd.prog Rows.fracSumsRow.laid w) (fun _ _ _ hh h => h.of_heap hh) own started (by kernel_rfl) Tryd.func4
    (ChangeSpec.witness_shaped (enc := enc) (C := Tryd.checked) (os := os) (X := fun w _ => laidMetH Tryd.prog Rows.fracSumsRow.laid w) false (World.doorLaid Tryd.prog 24 os) #[.agg #[.int .i64 0, .int .i64 0], .agg #[.int .i64 0, .int .i64 0]] 8 rfl (World.shaped_of_RefB (by kernel_rfl) (by kernel_rfl)) (by kernel_rfl) (by kernel_rfl) (by kernel_rfl) (door_met os _)) ?_
  intro W base args ds gs before hval0 hW _ _ hL _
  have hval : ∀ (j : Nat) t v, Tryd.f4.params[j]? = some t → args[j]? = some v → Value.okWide Tryd.prog W .any base t v := hval0
  have hW' := hW
  obtain ⟨p, q, hA0, hV, rfl, hfz, hnd⟩ := hW
  have hA : DataW.TrodAll enc Tryd.prog W 0 (fun _ => true) true Tryd.f4.params.toList args.toList ds p := hA0
  rw [Tryd.params4] at hA hval
  obtain ⟨v0, vs0, d0, ds0, p0, q0, hargs, rfl, rfl, h0, r0⟩ := trodAll_cons hA
  obtain ⟨v1, vs1, d1, ds1, p1, q1, rfl, rfl, rfl, h1, r1⟩ := trodAll_cons r0
  obtain ⟨rfl, rfl, rfl⟩ := trodAll_nil r1
  obtain rfl : args = #[v0, v1] := by cases args; simp_all
  obtain ⟨rfl, rfl⟩ := trodVars_none hV
  have k0 := h0
  have lt0 : ∀ x ∈ p0, x.block < W.heap.size := by obtain ⟨m, hm⟩ := k0; exact DataW.trod_lt m _ _ _ hm
  obtain ⟨c00, c01, y00, y01, m0, rfl, rfl, rfl, hy00, hy01⟩ := open_agg2 Tryd.underlying23 (by kernel_rfl) cells2 (hval 0 23 v0 rfl rfl) h0
  obtain ⟨a00, e00, rfl, w00⟩ := DataW.trod_int Tryd.underlying2 hy00
  obtain ⟨a01, e01, rfl, w01⟩ := DataW.trod_int Tryd.underlying2 hy01
  simp at e00 e01
  subst e00 e01
  clear hy00 hy01 h0
  have k1 := h1
  have lt1 : ∀ x ∈ p1, x.block < W.heap.size := by obtain ⟨m, hm⟩ := k1; exact DataW.trod_lt m _ _ _ hm
  obtain ⟨c10, c11, y10, y11, m1, rfl, rfl, rfl, hy10, hy11⟩ := open_agg2 Tryd.underlying23 (by kernel_rfl) cells2 (hval 1 23 v1 rfl rfl) h1
  obtain ⟨a10, e10, rfl, w10⟩ := DataW.trod_int Tryd.underlying2 hy10
  obtain ⟨a11, e11, rfl, w11⟩ := DataW.trod_int Tryd.underlying2 hy11
  simp at e10 e11
  subst e10 e11
  clear hy10 hy11 h1
  clear hA0 hval0
  refine (walk a00 a01 a10 a11 w00 w01 w10 w11 W).mono fun e W' ⟨he, bel⟩ => ?_
  subst he
  exact ⟨_, rfl, _, _, _, [], _, [], hW', trodAll_mk1 (shut_bool Tryd.underlying4 _), (trodAll_cons_mk (Below.trod laidOut (by kernel_rfl) (of_decide_eq_true (by kernel_rfl)) k0 bel lt0) (trodAll_cons_mk (Below.trod laidOut (by kernel_rfl) (of_decide_eq_true (by kernel_rfl)) k1 bel lt1) trodAll_mk0)), rfl, bel.frame _, fun h => by cases h⟩
theorem over : Rows.fracSumsRow.holds Tryd.pinned (OpenSpec.ofChange Rows.fracSumsSpec) :=
  OpenClaim.holds_of_wide 4 Tryd.f4 rfl rfl rfl rfl rfl rfl rfl ⟨rfl, rfl, rfl, rfl, rfl⟩ rfl rfl rfl rfl rfl (by kernel_rfl) Tryd.func4 (by kernel_rfl)
    (of_decide_eq_true (by kernel_rfl)) (by unfold Func.isWrapper; first | (rw [if_pos (by decide +kernel)]; kernel_rfl) | (rw [if_neg (by decide +kernel)]; exact ⟨rfl, rfl⟩))
    (fun os started H enc _ => lifted os started H enc)
theorem card : Claim7.holds Tryd.pinned (.plain (OpenSpec.ofChange Rows.fracSumsSpec)) Rows.fracSumsCard :=
  Claim7.holds_tied_plain_at .later [] [.data, .data, .data] true _ false
    over (fun _ h => by cases h) (by kernel_rfl) (fun _ h => by cases h) fracSums_row_tie rfl ⟨rfl, rfl⟩ (by kernel_rfl) rfl
    (fun f fn hf hfn => by
      obtain rfl : f = 4 := Option.some.inj ((show Tryd.prog.funcNamed Rows.fracSumsRow.func = some 4 by kernel_rfl).symm.trans hf) |>.symm
      obtain rfl : fn = Tryd.f4 := (Option.some.inj (Tryd.func4.symm.trans hfn)).symm
      exact ⟨by kernel_rfl, fun j t ht => by
        rw [Tryd.params4] at ht
        have hm : t ∈ [23, 23] := by simpa using Array.mem_of_getElem? ht
        have hall : ([23, 23].all fun u => !Tryd.prog.wantsStandIn u) = true := by kernel_rfl
        exact (show Tryd.prog.wantsStandIn t = false by simpa using List.all_eq_true.1 hall t hm)⟩)
    (by kernel_rfl)

end Go.Proofs.YtnfhkgdgkfanhaaDoor.sums
namespace Go.Proofs.YtnfhkgdgkfanhaaDoor
theorem FracSums_holds : Rows.FracSumsCardSaid := sums.card
end Go.Proofs.YtnfhkgdgkfanhaaDoor
