/- Proved: for every fraction, rounding down leaves less than 1, rounding up adds less, both are one just of whole numbers, and one that is not right is rounded to 0. -/
import Derived.Test.YtnfhkgdgkfanhabDoorCards
import Derived.Test.YtnfhkgdgkfanhabDoorTie
import Derived.Test.YtnfhkgdgkfanhabDoorAwake2
import Derived.WalkKit
import Derived.ProofKit
import Derived.OpenShut
import Derived.ShutString
import Derived.ChangeOld
import Derived.Below
import Derived.Lib.SmallJoins
import Derived.SevenTiedAt
import Derived.LaidHandle
import Derived.LaidLaws
import Derived.LaidMore
import Derived.LaidOnce
import Derived.JoinedOf
import Derived.Stop.Joined
namespace Go.Proofs.YtnfhkgdgkfanhabDoor.round
open Go.ChangeShapes Go.WideShapes Go.ChangeAt Go.RowKit Go.Joins
set_option linter.unusedVariables false
set_option maxRecDepth 10000
theorem own : ownKnob Tryd.prog.godebug = none := by kernel_rfl
theorem laidOut : laidOutB Tryd.prog = true := by kernel_rfl
theorem cells2 : Tryd.prog.cellsOf 23 = 2 := by kernel_rfl
/-! ### numbers -/
theorem down {n d : Int} (h : 1 ≤ d) (hg : Int.gcd n d = 1) : flA n d * d ≤ n ∧ n < flA n d * d + d ∧ (d = 1 → flA n d = n) := by
  have q : qe n d = 0 := qe_ok (by omega) (by omega)
  have e : flA n d = n / d := by unfold flA fl; rw [if_pos q, if_pos (by omega)]
  rw [e]
  have := Int.emod_add_mul_ediv n d
  have h1 := Int.emod_nonneg n (show d ≠ 0 by omega)
  have h2 := Int.emod_lt_of_pos n (show 0 < d by omega)
  have hc := Int.mul_comm d (n / d)
  refine ⟨by omega, by omega, ?_⟩
  intro h; subst h; simp
theorem up {n d : Int} (h : 1 ≤ d) (hg : Int.gcd n d = 1) : n ≤ ceA n d * d ∧ ceA n d * d < n + d ∧ (d = 1 → ceA n d = n) := by
  have q : qe n d = 0 := qe_ok (by omega) (by omega)
  have e : ceA n d = -((-n) / d) := by unfold ceA ce fl; rw [if_pos q, if_pos (by omega)]
  rw [e]
  have := Int.emod_add_mul_ediv (-n) d
  have h1 := Int.emod_nonneg (-n) (show d ≠ 0 by omega)
  have h2 := Int.emod_lt_of_pos (-n) (show 0 < d by omega)
  have hc := Int.mul_comm d ((-n) / d)
  rw [Int.neg_mul]
  refine ⟨by omega, by omega, ?_⟩
  intro h; subst h; simp
theorem one_more {n d f c : Int} (h : 2 ≤ d) (hg : Int.gcd n d = 1) (f1 : f * d ≤ n) (f2 : n < f * d + d) (c1 : n ≤ c * d) (c2 : c * d < n + d) : c - f = 1 := by
  have hne : ∀ k : Int, k * d ≠ n := by
    intro k e
    have hd : d ∣ n := ⟨k, by rw [← e, Int.mul_comm]⟩
    have hdn : d.natAbs ∣ Int.gcd n d := Nat.dvd_gcd (Int.natAbs_dvd_natAbs.2 hd) (Nat.dvd_refl _)
    rw [hg] at hdn
    have := Nat.le_of_dvd (by omega) hdn
    omega
  have n1 := hne f
  have n2 := hne c
  have lo : f < c := by
    apply Int.lt_of_mul_lt_mul_right (a := d) _ (by omega)
    omega
  have hi : c < f + 2 := by
    apply Int.lt_of_mul_lt_mul_right (a := d) _ (by omega)
    rw [Int.add_mul]
    omega
  omega
/-! ### walks -/
set_option maxHeartbeats 1000000 in
theorem walk_no (n d : Int) (w : World)
    (R : Hid (∀ w, Calls Tryd.prog 4 #[.agg #[.int .i64 n, .int .i64 d]] w fun e w' => e = .returned (.bool false) ∧ Keep w w'))
    (F : Hid (∀ w, Calls Tryd.prog 5 #[.agg #[.int .i64 n, .int .i64 d]] w fun e w' => e = .returned (.int .i64 0) ∧ Keep w w'))
    (C : Hid (∀ w, Calls Tryd.prog 6 #[.agg #[.int .i64 n, .int .i64 d]] w fun e w' => e = .returned (.int .i64 0) ∧ Keep w w'))
    (A : Hid (∀ w, Calls Tryd.prog 7 #[] w fun e w' => e = .returned (.bool true) ∧ Keep w w')) :
    Calls Tryd.prog 3 #[.agg #[.int .i64 n, .int .i64 d]] w fun e w' => e = .returned (.bool true) ∧ Keep w w' := by
  go_enter Tryd.func3, Tryd.ntmps3
  go_wp2_with fail
  (refine ((unhide R) _).mono ?_; rintro e w2 ⟨rfl, hk⟩; obtain ⟨o1, k1, rfl⟩ := hk.ext; clear hk)
  go_wp2_with fail
  (refine ((unhide F) _).mono ?_; rintro e w2 ⟨rfl, hk⟩; obtain ⟨o2, k2, rfl⟩ := hk.ext; clear hk)
  go_wp2_with fail
  (refine ((unhide C) _).mono ?_; rintro e w2 ⟨rfl, hk⟩; obtain ⟨o3, k3, rfl⟩ := hk.ext; clear hk)
  go_wp2_with fail
  (refine ((unhide A) _).mono ?_; rintro e w2 ⟨rfl, hk⟩; obtain ⟨o4, k4, rfl⟩ := hk.ext; clear hk)
  go_wp2_with fail
  go_ret
  exact ⟨rfl, by repeat (first | apply keep_ext | apply Keep.alloc | apply Keep.drew | exact Keep.refl _)⟩
set_option maxHeartbeats 2000000 in
theorem walk_one (c v1 : Int) (w : World) (h1 : ¬ 0 < v1) (h2 : ¬ v1 < 0)
    (R : Hid (∀ w, Calls Tryd.prog 4 #[.agg #[.int .i64 c, .int .i64 1]] w fun e w' => e = .returned (.bool true) ∧ Keep w w'))
    (F : Hid (∀ w, Calls Tryd.prog 5 #[.agg #[.int .i64 c, .int .i64 1]] w fun e w' => e = .returned (.int .i64 c) ∧ Keep w w'))
    (C : Hid (∀ w, Calls Tryd.prog 6 #[.agg #[.int .i64 c, .int .i64 1]] w fun e w' => e = .returned (.int .i64 c) ∧ Keep w w'))
    (Cp : Int → Int → Int → Int → Int → Prop) (C1 : Cp c 1 c 1 v1)
    (M : Hid (∀ (a b x y v : Int), Cp a b x y v → ∀ w, Calls Tryd.prog 8 #[.agg #[.int .i64 a, .int .i64 b], .agg #[.int .i64 x, .int .i64 y]] w fun e w' => e = .returned (.int .i64 v) ∧ Keep w w'))
    (A : Hid (∀ w, Calls Tryd.prog 7 #[] w fun e w' => e = .returned (.bool true) ∧ Keep w w')) :
    Calls Tryd.prog 3 #[.agg #[.int .i64 c, .int .i64 1]] w fun e w' => e = .returned (.bool true) ∧ Keep w w' := by
  go_enter Tryd.func3, Tryd.ntmps3
  go_wp2_with fail
  (refine ((unhide R) _).mono ?_; rintro e w2 ⟨rfl, hk⟩; obtain ⟨o1, k1, rfl⟩ := hk.ext; clear hk)
  go_wp2_with fail
  go_region_held3 (fun w' => w'.cell? ⟨w.heap.size, 0, none⟩ = some (.int .i64 c) ∧ w'.cell? ⟨w.heap.size, 1, none⟩ = some (.int .i64 1)) (simp [go_sem]) (first | (go_at_call 5; refine ((unhide F) _).mono ?_; rintro e w2 ⟨rfl, hk⟩; obtain ⟨o2, k2, rfl⟩ := hk.ext; clear hk) | (go_at_call 6; refine ((unhide C) _).mono ?_; rintro e w2 ⟨rfl, hk⟩; obtain ⟨o3, k3, rfl⟩ := hk.ext; clear hk))
  all_goals go_wp2_with (first | (go_at_call 8; refine ((unhide M) _ _ _ _ _ (by assumption) _).mono ?_; rintro e w2 ⟨rfl, hk⟩; obtain ⟨o4, k4, rfl⟩ := hk.ext; clear hk) | (go_at_call 7; refine ((unhide A) _).mono ?_; rintro e w2 ⟨rfl, hk⟩; obtain ⟨o5, k5, rfl⟩ := hk.ext; clear hk))
  all_goals go_ret
  all_goals exact ⟨rfl, by repeat (first | apply keep_ext | apply Keep.alloc | apply Keep.drew | exact Keep.refl _)⟩
set_option maxHeartbeats 2000000 in
theorem walk_yes (n d f c v1 v2 : Int) (w : World) (h1 : ¬ 0 < v1) (h2 : ¬ v2 < 0) (hd : ¬ d = 1) (hw : wrap64 (c - f) = 1)
    (R : Hid (∀ w, Calls Tryd.prog 4 #[.agg #[.int .i64 n, .int .i64 d]] w fun e w' => e = .returned (.bool true) ∧ Keep w w'))
    (F : Hid (∀ w, Calls Tryd.prog 5 #[.agg #[.int .i64 n, .int .i64 d]] w fun e w' => e = .returned (.int .i64 f) ∧ Keep w w'))
    (C : Hid (∀ w, Calls Tryd.prog 6 #[.agg #[.int .i64 n, .int .i64 d]] w fun e w' => e = .returned (.int .i64 c) ∧ Keep w w'))
    (Cp : Int → Int → Int → Int → Int → Prop) (C1 : Cp f 1 n d v1) (C2 : Cp c 1 n d v2)
    (M : Hid (∀ (a b x y v : Int), Cp a b x y v → ∀ w, Calls Tryd.prog 8 #[.agg #[.int .i64 a, .int .i64 b], .agg #[.int .i64 x, .int .i64 y]] w fun e w' => e = .returned (.int .i64 v) ∧ Keep w w'))
    (A : Hid (∀ w, Calls Tryd.prog 7 #[] w fun e w' => e = .returned (.bool true) ∧ Keep w w')) :
    Calls Tryd.prog 3 #[.agg #[.int .i64 n, .int .i64 d]] w fun e w' => e = .returned (.bool true) ∧ Keep w w' := by
  go_enter Tryd.func3, Tryd.ntmps3
  go_wp2_with fail
  (refine ((unhide R) _).mono ?_; rintro e w2 ⟨rfl, hk⟩; obtain ⟨o1, k1, rfl⟩ := hk.ext; clear hk)
  go_wp2_with fail
  go_region_held3 (fun w' => w'.cell? ⟨w.heap.size, 0, none⟩ = some (.int .i64 n) ∧ w'.cell? ⟨w.heap.size, 1, none⟩ = some (.int .i64 d)) (simp [go_sem]) (first | (go_at_call 5; refine ((unhide F) _).mono ?_; rintro e w2 ⟨rfl, hk⟩; obtain ⟨o2, k2, rfl⟩ := hk.ext; clear hk) | (go_at_call 6; refine ((unhide C) _).mono ?_; rintro e w2 ⟨rfl, hk⟩; obtain ⟨o3, k3, rfl⟩ := hk.ext; clear hk))
  all_goals go_wp2_with (first | (go_at_call 8; refine ((unhide M) _ _ _ _ _ (by assumption) _).mono ?_; rintro e w2 ⟨rfl, hk⟩; obtain ⟨o4, k4, rfl⟩ := hk.ext; clear hk) | (go_at_call 7; refine ((unhide A) _).mono ?_; rintro e w2 ⟨rfl, hk⟩; obtain ⟨o5, k5, rfl⟩ := hk.ext; clear hk))
  all_goals go_ret
  all_goals exact ⟨rfl, by repeat (first | apply keep_ext | apply Keep.alloc | apply Keep.drew | exact Keep.refl _)⟩
theorem walk (n d : Int) (w0 : (Lit.int .i64 n).wf = true) (w1 : (Lit.int .i64 d).wf = true) (w : World) :
    Calls Tryd.prog 3 #[.agg #[.int .i64 n, .int .i64 d]] w fun e w' => e = .returned (.bool true) ∧ Below w.heap.size w w' := by
  obtain ⟨h1, h2⟩ := bounds_i64 w0
  obtain ⟨h3, h4⟩ := bounds_i64 w1
  have R : Hid (∀ w, _) := fun w => right_any n d w h1 h2 h3 h4
  have F : Hid (∀ w, _) := fun w => ffloor_any n d w h1 h2 h3 h4
  have C : Hid (∀ w, _) := fun w => fceil_any n d w h1 h2 h3 h4
  by_cases hr : rt n d = true
  · have hr' := hr
    simp only [rt, decide_eq_true_eq] at hr'
    have rr : Rt n d := ⟨hr'.1, hr'.2, h1, h2, h4⟩
    rw [hr] at R
    rw [rr.cn, rr.cd] at F C
    obtain ⟨f1, f2, f3⟩ := down hr'.1 hr'.2
    obtain ⟨c1, c2, c3⟩ := up hr'.1 hr'.2
    generalize flA n d = f at *
    generalize ceA n d = c at *
    have fd : -9223372036854775808 ≤ f ∧ f ≤ 9223372036854775807 := by
      by_cases hd1 : d = 1
      · have := f3 hd1; omega
      · constructor
        · by_cases hf : f < 0
          · have : f * 2 ≥ f * d := Int.mul_le_mul_of_nonpos_left (by omega) (by omega)
            omega
          · omega
        · by_cases hf : 0 < f
          · have : f * 2 ≤ f * d := Int.mul_le_mul_of_nonneg_left (by omega) (by omega)
            omega
          · omega
    have cb : -9223372036854775808 ≤ c ∧ c ≤ 9223372036854775807 := by
      by_cases hd1 : d = 1
      · have := c3 hd1; omega
      · constructor
        · by_cases hf : c < 0
          · have : c * 2 ≥ c * d := Int.mul_le_mul_of_nonpos_left (by omega) (by omega)
            omega
          · omega
        · by_cases hf : 1 < c
          · have : (c - 1) * 2 ≤ (c - 1) * d := Int.mul_le_mul_of_nonneg_left (by omega) (by omega)
            rw [Int.sub_mul, Int.sub_mul] at this
            omega
          · omega
    have rf : Rt f 1 := ⟨by omega, by simp, fd.1, fd.2, by omega⟩
    have rc : Rt c 1 := ⟨by omega, by simp, cb.1, cb.2, by omega⟩
    have M1 := fun w => fcmp_any f 1 n d w fd.1 fd.2 (by omega) (by omega) h1 h2 h3 h4
    have M2 := fun w => fcmp_any c 1 n d w cb.1 cb.2 (by omega) (by omega) h1 h2 h3 h4
    rw [rf.cn, rf.cd, rr.cn, rr.cd] at M1
    rw [rc.cn, rc.cd, rr.cn, rr.cd] at M2
    have v1 : ¬ 0 < cm (f * d) (n * 1) := by have := (cm_le (x := f * d) (y := n * 1)).2 (by omega); omega
    have v2 : ¬ cm (c * d) (n * 1) < 0 := by rw [cm_lt]; omega
    by_cases hd1 : d = 1
    · have e1 := f3 hd1
      have e2 := c3 hd1
      subst hd1 e1
      subst e2
      refine walk_one c _ w v1 v2 R F C (fun a b x y v => ∀ w, Calls Tryd.prog 8 #[.agg #[.int .i64 a, .int .i64 b], .agg #[.int .i64 x, .int .i64 y]] w fun e w' => e = .returned (.int .i64 v) ∧ Keep w w') M1 (hide fun a b x y v h => h) (hide awake_any)
    · refine walk_yes n d f c _ _ w v1 v2 hd1 ?_ R F C (fun a b x y v => ∀ w, Calls Tryd.prog 8 #[.agg #[.int .i64 a, .int .i64 b], .agg #[.int .i64 x, .int .i64 y]] w fun e w' => e = .returned (.int .i64 v) ∧ Keep w w') M1 M2 (hide fun a b x y v h => h) (hide awake_any)
      rw [one_more (by omega) hr'.2 f1 f2 c1 c2]
      exact wrap_in ⟨by omega, by omega⟩
  · have hr' : rt n d = false := by simpa using hr
    rw [hr'] at R
    have e1 : cn n d = 0 := by simp [cn, hr']
    have e2 : cd n d = 1 := by simp [cd, hr']
    rw [e1, e2] at F C
    exact walk_no n d w R F C (hide awake_any)
/-! ### the row and its card -/
theorem door_met (os : Os) (args : Array Value) : laidMetH Tryd.prog Rows.fracRoundRow.laid ((World.doorLaid Tryd.prog 24 os).forCall (fun _ _ => 0) ⟨#[], args, []⟩).memory :=
  laidMetH_of_parts3 (fuel := 8) (laidMet_of_run' 8 (by kernel_rfl) (by kernel_rfl)) (by kernel_rfl) (by kernel_rfl)
set_option maxHeartbeats 400000 in
set_option maxRecDepth 100000 in
theorem lifted (os : Os) (started : os.Started) (H : Type) (enc : TypeId × Value → H) :
    ReturnsInHanded {} Tryd.checked os 3 .any (fun w args => (Rows.fracRoundSpec.pre enc Tryd.prog Tryd.f3 [] false w args ∧ laidMetH Tryd.prog Rows.fracRoundRow.laid w) ∧ sizedMet enc Tryd.prog Tryd.f3 (OpenSpec.ofChange Rows.fracRoundSpec) false w args)
      (Rows.fracRoundSpec.post enc Tryd.prog Tryd.f3 false true false false) := by
  refine returnsInHanded_of_change_and (C := Tryd.checked) (X := fun w _ => laidMetH Tryd.prog Rows.fracRoundRow.laid w) (fun _ _ _ hh h => h.of_heap hh) own started (by kernel_rfl) Tryd.func3
    (ChangeSpec.witness_shaped (enc := enc) (C := Tryd.checked) (os := os) (X := fun w _ => laidMetH Tryd.prog Rows.fracRoundRow.laid w) false (World.doorLaid Tryd.prog 24 os) #[.agg #[.int .i64 0, .int .i64 0]] 8 rfl (World.shaped_of_RefB (by kernel_rfl) (by kernel_rfl)) (by kernel_rfl) (by kernel_rfl) (by kernel_rfl) (door_met os _)) ?_
  intro W base args ds gs before hval0 hW _ _ hL _
  have hval : ∀ (j : Nat) t v, Tryd.f3.params[j]? = some t → args[j]? = some v → Value.okWide Tryd.prog W .any base t v := hval0
  have hW' := hW
  obtain ⟨p, q, hA0, hV, rfl, hfz, hnd⟩ := hW
  have hA : DataW.TrodAll enc Tryd.prog W 0 (fun _ => true) true Tryd.f3.params.toList args.toList ds p := hA0
  rw [Tryd.params3] at hA hval
  obtain ⟨v0, d0, rfl, rfl, h0⟩ := trodAll_one hA
  obtain ⟨rfl, rfl⟩ := trodVars_none hV
  have k0 := h0
  have lt0 : ∀ x ∈ p, x.block < W.heap.size := by obtain ⟨m, hm⟩ := k0; exact DataW.trod_lt m _ _ _ hm
  obtain ⟨c0, c1, y0, y1, m, rfl, rfl, rfl, hy0, hy1⟩ := open_agg2 Tryd.underlying23 (by kernel_rfl) cells2 (hval 0 23 v0 rfl rfl) h0
  obtain ⟨x0, e0, rfl, w0⟩ := DataW.trod_int Tryd.underlying2 hy0
  obtain ⟨x1, e1, rfl, w1⟩ := DataW.trod_int Tryd.underlying2 hy1
  simp at e0 e1
  subst e0 e1
  clear hA0 hval0 hy0 hy1 h0
  refine (walk x0 x1 w0 w1 W).mono fun e W' ⟨he, bel⟩ => ?_
  subst he
  exact ⟨_, rfl, _, _, _, [], _, [], hW', trodAll_mk1 (shut_bool Tryd.underlying4 _), trodAll_mk1 (Below.trod laidOut (by kernel_rfl) (of_decide_eq_true (by kernel_rfl)) k0 bel lt0), rfl, bel.frame _, fun h => by cases h⟩
theorem over : Rows.fracRoundRow.holds Tryd.pinned (OpenSpec.ofChange Rows.fracRoundSpec) :=
  OpenClaim.holds_of_wide 3 Tryd.f3 rfl rfl rfl rfl rfl rfl rfl ⟨rfl, rfl, rfl, rfl, rfl⟩ rfl rfl rfl rfl rfl (by kernel_rfl) Tryd.func3 (by kernel_rfl)
    (of_decide_eq_true (by kernel_rfl)) (by unfold Func.isWrapper; first | (rw [if_pos (by decide +kernel)]; kernel_rfl) | (rw [if_neg (by decide +kernel)]; exact ⟨rfl, rfl⟩))
    (fun os started H enc _ => lifted os started H enc)
theorem card : Claim7.holds Tryd.pinned (.plain (OpenSpec.ofChange Rows.fracRoundSpec)) Rows.fracRoundCard :=
  Claim7.holds_tied_plain_at .later [] [.data, .data, .data] true _ false
    over (fun _ h => by cases h) (by kernel_rfl) (fun _ h => by cases h) fracRound_row_tie rfl ⟨rfl, rfl⟩ (by kernel_rfl) rfl
    (fun f fn hf hfn => by
      obtain rfl : f = 3 := Option.some.inj ((show Tryd.prog.funcNamed Rows.fracRoundRow.func = some 3 by kernel_rfl).symm.trans hf) |>.symm
      obtain rfl : fn = Tryd.f3 := (Option.some.inj (Tryd.func3.symm.trans hfn)).symm
      exact ⟨by kernel_rfl, fun j t ht => by
        rw [Tryd.params3] at ht
        have hm : t ∈ [23 ] := by simpa using Array.mem_of_getElem? ht
        have hall : ([23 ].all fun u => !Tryd.prog.wantsStandIn u) = true := by kernel_rfl
        exact (show Tryd.prog.wantsStandIn t = false by simpa using List.all_eq_true.1 hall t hm)⟩)
    (by kernel_rfl)
end Go.Proofs.YtnfhkgdgkfanhabDoor.round
namespace Go.Proofs.YtnfhkgdgkfanhabDoor
theorem FracRound_holds : Rows.FracRoundCardSaid := round.card
end Go.Proofs.YtnfhkgdgkfanhabDoor
