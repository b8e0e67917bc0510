/- Proved: for every node, all ratios and every number, few of each (50), a greater ratio makes no lesser critical sum, and, no ratio being below 0, a group less makes no greater one. -/
import Derived.Test.YtdgmndjofbdgeaaRows
import Derived.Test.YtdgmndjofbdgeaaCrW
import Derived.Test.YtdgmndjofbdgeaaCrV
namespace Go.Proofs.Ytdgmndjofbdgeaa.cgrows
open Go.ChangeShapes Go.WideShapes Go.ChangeAt Go.RowKit
open Go.WideMaps Go.WideElems
set_option linter.unusedVariables false
set_option linter.unusedSimpArgs false
set_option maxRecDepth 10000
open Cr S
set_option maxHeartbeats 4000000 in
theorem early (s : ByteArray) (x1 : Option Addr) (n1 c1 : Nat) (x2 : Option Addr) (n2 c2 : Nat) (x3 : Option Addr) (n3 c3 : Nat) (x4 : Option Addr) (n4 c4 : Nat) (x5 : Option Addr) (n5 c5 : Nat) (p : Int) (xf : Option Addr) (nf cf : Nat) (at9 : Int) (P : Prop) (w : World) (h : nf = 0 ∨ (¬ nf = 0 ∧ at9 < 0) ∨ ¬ P)
    (TF : Hid (∀ w', Keep w w' → Calls Try.prog 6 #[.agg #[.string s, .slice x1 n1 c1, .slice x2 n2 c2, .slice x3 n3 c3, .slice x4 n4 c4, .slice x5 n5 c5, .int .i64 p], .slice xf nf cf] w' (Ak3 P w')))
    (TA : Hid (∀ w', Calls Try.prog 12 #[] w' fun e w'' => e = .returned (.bool true) ∧ Keep w' w'')) :
    Calls Try.prog 5 #[.agg #[.string s, .slice x1 n1 c1, .slice x2 n2 c2, .slice x3 n3 c3, .slice x4 n4 c4, .slice x5 n5 c5, .int .i64 p], .slice xf nf cf, .int .i64 at9] w fun e w' => e = .returned (.bool true) ∧ Keep w w' := by
  have hnw0 := heap_alloc_new w (.cells #[.string s, .slice x1 n1 c1, .slice x2 n2 c2, .slice x3 n3 c3, .slice x4 n4 c4, .slice x5 n5 c5, .int .i64 p] 28)
  have K0 := hide ((Keep.refl w).alloc (.cells #[.string s, .slice x1 n1 c1, .slice x2 n2 c2, .slice x3 n3 c3, .slice x4 n4 c4, .slice x5 n5 c5, .int .i64 p] 28))
  go_enter Try.func5, Try.ntmps5
  go_upto_region 1 with fail
  generalize w.alloc (.cells #[.string s, .slice x1 n1 c1, .slice x2 n2 c2, .slice x3 n3 c3, .slice x4 n4 c4, .slice x5 n5 c5, .int .i64 p] 28) = w0 at hnw0 K0 ⊢
  obtain ⟨q0, HQ0⟩ : ∃ q, Hid (w.heap.size = q) := ⟨_, hide rfl⟩
  rw [uq HQ0] at hnw0 ⊢
  have HX0 : Hid (∀ w' : World, Keep w0 w' → w'.cell? ⟨q0, 0, none⟩ = some (.string s) ∧ w'.cell? ⟨q0, 1, none⟩ = some (.slice x1 n1 c1) ∧ w'.cell? ⟨q0, 2, none⟩ = some (.slice x2 n2 c2) ∧ w'.cell? ⟨q0, 3, none⟩ = some (.slice x3 n3 c3) ∧ w'.cell? ⟨q0, 4, none⟩ = some (.slice x4 n4 c4) ∧ w'.cell? ⟨q0, 5, none⟩ = some (.slice x5 n5 c5) ∧ w'.cell? ⟨q0, 6, none⟩ = some (.int .i64 p)) := hide (fun w' k9 => by
    have h1 := k9.block q0 (Array.getElem?_eq_some_iff.1 hnw0).1
    rw [hnw0] at h1
    refine ⟨?_, ?_, ?_, ?_, ?_, ?_, ?_⟩ <;> simp [World.cell?, h1])
  clear hnw0
  obtain ⟨z0, z1, z2, z3, z4, z5, z6⟩ := (uq HX0) w0 (Keep.refl _)
  go_wp2_with fail
  (refine ((uq TF) _ (uq K0)).mono ?_; rintro e w2 ⟨b, rfl, hk9, hp9⟩; have K2 := hide hk9; have HP := hide hp9; clear hk9 hp9)
  clear z0 z1 z2 z3 z4 z5 z6
  cases b
  · go_wp2_with fail
    (refine ((uq TA) _).mono ?_; rintro e w99 ⟨rfl, hk99⟩)
    go_wp2_with fail
    go_ret
    exact ⟨rfl, (uq K0).trans ((uq K2).trans hk99)⟩
  · rcases h with h | ⟨h, h2⟩ | h
    · subst h
      go_wp2_with fail
      (refine ((uq TA) _).mono ?_; rintro e w99 ⟨rfl, hk99⟩)
      go_wp2_with fail
      go_ret
      exact ⟨rfl, (uq K0).trans ((uq K2).trans hk99)⟩
    · have hne : ¬ (nf : Int) = 0 := by omega
      have hnb : ((nf : Int) == 0) = false := by simpa using hne
      go_wp2_with fail
      (refine ((uq TA) _).mono ?_; rintro e w99 ⟨rfl, hk99⟩)
      go_wp2_with fail
      go_ret
      exact ⟨rfl, (uq K0).trans ((uq K2).trans hk99)⟩
    · exact absurd ((uq HP) rfl) h
theorem rin_get {R : List (Int × Int)} (hR : ∀ x ∈ R, In x.1 ∧ In x.2) (i : Nat) : In (R.getD i (0, 0)).1 ∧ In (R.getD i (0, 0)).2 := by
  rcases Nat.lt_or_ge i R.length with h | h
  · exact hR _ (getD_mem h)
  · rw [List.getD_eq_getElem?_getD, List.getElem?_eq_none h]
    simp only [Option.getD_none]
    unfold In
    omega
theorem third {f b : Int × Int} (he : adE f (1, 3) = 0) : vF f ≤ vF (adX f (1, 3), adY f (1, 3)) := by
  rw [ad_v he]
  have h3 : 0 ≤ vF (1, 3) := vF_nn (by decide)
  grind
theorem set_ge {R : List (Int × Int)} {i : Nat} {b : Int × Int} (h : vF (R.getD i (0, 0)) ≤ vF b) : ∀ k, vF (R.getD k (0, 0)) ≤ vF ((R.set i b).getD k (0, 0)) := by
  intro k
  by_cases hk : k = i
  · subst hk
    rcases Nat.lt_or_ge k R.length with h1 | h1
    · rw [List.getD_eq_getElem?_getD (l := R.set k b), List.getElem?_set_self h1]
      exact h
    · rw [List.set_eq_of_length_le h1]
      exact Rat.le_refl
  · rw [List.getD_eq_getElem?_getD (l := R.set i b), List.getElem?_set_ne (fun h => hk h.symm), ← List.getD_eq_getElem?_getD]
    exact Rat.le_refl
set_option maxHeartbeats 2000000 in
theorem walk {w : World} {ds : List D} {us : List Value} (hs : ShL nodeT ds) (hr : Rvs w ds us) {es : List D} {v : Value} (gs : ShL fracsT es) (gr : Rvs w es [v]) (at9 : Int) : Calls Try.prog 5 #[.agg us.toArray, v, .int .i64 at9] w fun e w' => e = .returned (.bool true) ∧ Below w.heap.size w w' := by
  obtain ⟨s, x1, n1, c1, x2, n2, c2, x3, n3, c3, x4, n4, c4, x5, n5, c5, p, XG, NG, CG, FR, XR, T, CR, A, rfl, hl4, hc4, hN⟩ := nin_of2 hs hr
  obtain ⟨xf, cf, R, rfl, hlR, hcR, hR⟩ := fracs gs gr
  have TF := fun w' (k' : Keep w w') => few_law s x1 n1 c1 x2 n2 c2 x3 n3 c3 x4 n4 c4 x5 n5 c5 p hs (Rvs.keep k' _ _ hr) xf R.length cf
  by_cases h0 : R.length = 0 ∨ (¬ R.length = 0 ∧ at9 < 0) ∨ ¬ (R.length ≤ 50 ∧ FewN ds)
  · exact early s x1 n1 c1 x2 n2 c2 x3 n3 c3 x4 n4 c4 x5 n5 c5 p xf R.length cf at9 _ w h0 (hide TF) (hide awake_any)
  · have hP0 : R.length ≤ 50 ∧ FewN ds := Classical.not_not.1 (fun h => h0 (.inr (.inr h)))
    have hn : 0 < R.length := Nat.pos_of_ne_zero (fun h => h0 (.inl h))
    have hat : 0 ≤ at9 := by
      apply Classical.byContradiction
      intro h
      exact h0 (.inr (.inl ⟨by omega, by omega⟩))
    have m0 : maxLen ≤ 9223372036854775807 := by decide
    obtain ⟨ad, rfl⟩ : ∃ ad, xf = some ad := by
      cases xf with
      | some ad => exact ⟨ad, rfl⟩
      | none => exact absurd gr (fun gr => by
          simp only [fracsT, ShL, Sh1] at gs
          obtain ⟨_, _, rfl, ⟨L, rfl, _, _⟩, rfl⟩ := gs
          simp only [Rvs, Rv] at gr
          obtain ⟨_, _, e1, ⟨a, c, e2, _, hx⟩, _⟩ := gr
          have e3 : Value.slice none R.length cf = Value.slice a L.length c := by rw [← e2]; injection e1
          injection e3 with e4 e5 e6
          obtain ⟨_, _, h1, _⟩ := rvss_at L 0 hx 0 (by omega)
          rw [← e4] at h1
          cases h1)
    obtain ⟨i, hi⟩ : ∃ i : Nat, at9 % (R.length : Int) = (i : Int) := ⟨(at9 % (R.length : Int)).toNat, by have := Int.emod_nonneg at9 (show (R.length : Int) ≠ 0 by omega); omega⟩
    have hil : i < R.length := by have := Int.emod_lt_of_pos at9 (show 0 < (R.length : Int) by omega); omega
    have hi1 : at9.tmod (R.length : Int) = (i : Int) := by rw [Int.tmod_eq_emod_of_nonneg hat]; exact hi
    obtain ⟨r, hre⟩ : ∃ r, R.getD i (0, 0) = r := ⟨_, rfl⟩
    obtain ⟨X1, Y1, z1, I1, _, d1, _, in1, D1⟩ := sq_det (Qr R A T) NG n3 n4 R.length
    obtain ⟨X2, Y2, z2, I2, _, d2, _, in2, D2⟩ := sq_det (Qr (R.set i (adX r (1, 3), adY r (1, 3))) A T) NG n3 n4 R.length
    obtain ⟨X3, Y3, z3, I3, _, d3, _, in3, D3⟩ := sq_det (Qr R A T) NG n3 (n4 - 1) R.length
    have cut : ∀ {X Y z : Int} {I : List Int} {w' w'' : World} {e : Ending}, (∃ va vc, e = .returned (.tuple #[.agg #[.int .i64 X, .int .i64 Y, .slice va I.length vc], .int .i64 z]) ∧ Keep w' w'' ∧ Is w'' (.slice va I.length vc) I) → ∃ va vn vc, e = .returned (.tuple #[.agg #[.int .i64 X, .int .i64 Y, .slice va vn vc], .int .i64 z]) ∧ Keep w' w'' := by
      rintro X Y z I w' w'' e ⟨va, vc, h1, h2, _⟩
      exact ⟨va, _, vc, h1, h2⟩
    have i13 : In (1 : Int) ∧ In (3 : Int) := by unfold In; omega
    have adI : In (adX r (1, 3)) ∧ In (adY r (1, 3)) := by
      by_cases he : adE r (1, 3) = 0
      · have h := ad_rt he
        exact ⟨⟨h.2.2.1, h.2.2.2.1⟩, ⟨by have := h.1; omega, h.2.2.2.2⟩⟩
      · unfold adE pE at he
        have hf : ¬ (fit (rn (adN r (1, 3)) (adD r (1, 3))) && fit (rd (adN r (1, 3)) (adD r (1, 3)))) = true := fun h => he (if_pos h)
        unfold adX adY pN pD
        rw [if_neg hf, if_neg hf]
        unfold In
        omega
    refine cgrows_core s x1 n1 c1 x2 n2 c2 x3 n3 c3 x4 n4 c4 x5 n5 c5 p ad R.length cf at9 (R.length ≤ 50 ∧ FewN ds) R i (n4 - 1) r.1 r.2 (adX r (1, 3)) (adY r (1, 3)) (adE r (1, 3)) (rt r.1 r.2) (blw R) X1 Y1 z1 X2 Y2 z2 X3 Y3 z3 (gtF (X2, Y2) (X1, Y1)) (gtF (X3, Y3) (X1, Y1)) w hn (by omega) hc4 (hide rfl) hat hi1 hi hil (hide hre) (hide rfl) (hide adI)
      (hide fun hP => ⟨hP.1, hR hP.1⟩) (hide TF) (hide awake_any)
      (hide fun hP w' k' => (sum_any ((hN hP.2 n4 (Nat.le_refl _)).keep k') cf ((hR hP.1).keep k')).mono fun e w'' h => cut (D1 w' e w'' h))
      (hide (f_ex 1 3 rfl (by omega) (by omega) 1 3 (by decide +kernel) (by decide +kernel)))
      (hide fun w => ?_) (hide fun w => ?_)
      (hide fun hP _ _ _ g cap w' k' h => ?_)
      (hide fun w => cmpC (X2, Y2) (X1, Y1) w in2.1 in2.2 in1.1 in1.2) (hide fun hP e1 e2 e3 e4 => ?_)
      (hide fun hP w' k' => (sum_any ((hN hP.2 (n4 - 1) (by omega)).keep k') cf ((hR hP.1).keep k')).mono fun e w'' h => cut (D3 w' e w'' h))
      (hide fun w => cmpC (X3, Y3) (X1, Y1) w in3.1 in3.2 in1.1 in1.2)
      (hide fun hP w' k' => below_core (some ad) cf R _ w' (hide rfl) (by have := hP.1; omega) (hide fun k hk => by obtain ⟨ad2, e1, _, c, _⟩ := ((hR hP.1).keep k').HF k hk; exact ⟨ad2, e1, c⟩))
      (hide fun hP e1 e2 e3 e4 => ?_)
    · have hin : In r.1 ∧ In r.2 := by rw [← hre]; exact rin_get (hR hP0.1).HI i
      exact rfadd_any r.1 r.2 1 3 w hin.1.1 hin.1.2 hin.2.1 hin.2.2 i13.1.1 i13.1.2 i13.2.1 i13.2.2
    · have hin : In r.1 ∧ In r.2 := by rw [← hre]; exact rin_get (hR hP0.1).HI i
      exact r2right_any r.1 r.2 w hin.1.1 hin.1.2 hin.2.1 hin.2.2
    · have M := sum_any ((hN hP.2 n4 (Nat.le_refl _)).keep k') cap h
      rw [List.length_set] at M
      exact M.mono fun e w'' h => cut (D2 w' e w'' h)
    · obtain ⟨o1, s1, q1, _⟩ := d1 e1
      obtain ⟨o2, s2, q2, _⟩ := d2 e4
      rw [q1, q2, gtF_neg]
      refine fun hx => hx (crit_grows o1.2 s1 s2 fun k j => rts_le (set_ge ?_) _)
      rw [hre]
      exact third (b := (0, 0)) e2
    · obtain ⟨o1, s1, q1, _⟩ := d1 e1
      obtain ⟨o3, s3, q3, _⟩ := d3 e2
      cases hb : blw R with
      | true => rfl
      | false =>
        exfalso
        have hv : 0 < gtF (X3, Y3) (X1, Y1) := by omega
        rw [q1, q3, gtF_v] at hv
        apply hv
        rcases Nat.eq_zero_or_pos n4 with h4 | h4
        · subst h4
          exact Rat.le_refl
        · obtain ⟨k, rfl⟩ : ∃ k, n4 = k + 1 := ⟨n4 - 1, by omega⟩
          exact crit_less o1.2 s1 s3 fun k j => rts_nn (fun q => vF_nn (blw_no hb q)) _
theorem laidOut : laidOutB Try.prog = true := by kernel_rfl
theorem own : ownKnob Try.prog.godebug = none := by kernel_rfl
set_option maxHeartbeats 400000 in
set_option maxRecDepth 100000 in
theorem lifted (os : Os) (started : os.Started) (H : Type) (enc : TypeId × Value → H) :
    ReturnsInHanded {} Try.checked os 5 .any (Rows.critGrowsSpec.pre6 enc Try.prog Try.f5 Rows.critGrowsRow.domain false) (Rows.critGrowsSpec.post enc Try.prog Try.f5 false true false false) := by
  refine returnsInHanded_of_change (C := Try.checked) own started (by kernel_rfl) Try.func5
    (ChangeSpec.witness6 (enc := enc) (C := Try.checked) false ⟨#[], #[.agg #[.string ⟨#[]⟩, .slice none 0 0, .slice none 0 0, .slice none 0 0, .slice none 0 0, .slice none 0 0, .int .i64 0], .slice none 0 0, .int .i64 0], []⟩ 8 (by kernel_rfl) (by kernel_rfl) (by kernel_rfl) (by kernel_rfl)) ?_
  intro W base args ds gs before hval0 hW hcnd _
  have hval : ∀ (j : Nat) t v, Try.f5.params[j]? = some t → args[j]? = some v → Value.okWide Try.prog W .any base t v := hval0
  have hW' := hW
  obtain ⟨p, q, hA0, hV, rfl, hfz, hnd⟩ := hW
  have hA : DataW.TrodAll enc Try.prog W 0 (fun _ => true) true Try.f5.params.toList args.toList ds p := hA0
  rw [Try.params5] at hA hval
  obtain ⟨v0, vs0, d0, ds0, p0, q0, hargs, rfl, rfl, h0, r0⟩ := trodAll_cons hA
  obtain ⟨v1, vs1, d1, ds1, p1, q1, rfl, rfl, rfl, h1, r1⟩ := trodAll_cons r0
  obtain ⟨v2, vs2, d2, ds2, p2, q2, rfl, rfl, rfl, h2, r2⟩ := trodAll_cons r1
  obtain ⟨rfl, rfl, rfl⟩ := trodAll_nil r2
  obtain rfl : args = #[v0, v1, v2] := by cases args; simp_all
  obtain ⟨rfl, rfl⟩ := trodVars_none hV
  have k0 := h0
  have lt0 : ∀ x ∈ p0, x.block < W.heap.size := by obtain ⟨m, hm⟩ := k0; exact DataW.trod_lt m _ _ _ hm
  obtain ⟨es0, us0, rfl, s0, x0⟩ := open_struct Try.underlying28 Cr.node_desc (hval 0 28 v0 rfl rfl) h0
  clear h0
  have k1 := h1
  have lt1 : ∀ x ∈ p1, x.block < W.heap.size := by obtain ⟨m, hm⟩ := k1; exact DataW.trod_lt m _ _ _ hm
  obtain ⟨es1, s1, x1⟩ := Cr.open_row Try.underlying29 Cr.fracs_desc (hval 1 29 v1 rfl rfl) h1
  clear h1
  obtain ⟨a2, rfl, rfl, rfl, w2⟩ := open_int Try.underlying3 (hval 2 3 v2 rfl rfl) h2
  clear hA0 hval0
  refine (walk s0 x0 s1 x1 a2).mono fun e W' ⟨he, bel⟩ => ?_
  subst he
  exact ⟨_, rfl, _, _, _, [], _, [], hW', trodAll_mk1 (shut_bool Try.underlying4 _), (trodAll_cons_mk (Below.trod laidOut (by kernel_rfl) (of_decide_eq_true (by kernel_rfl)) k0 bel lt0) (trodAll_cons_mk (Below.trod laidOut (by kernel_rfl) (of_decide_eq_true (by kernel_rfl)) k1 bel lt1) (trodAll_cons_mk (shut_int Try.underlying3 w2) trodAll_mk0))), rfl, bel.frame _, fun h => by cases h⟩
theorem over : Rows.critGrowsRow.holds Try.pinned (OpenSpec.ofChange Rows.critGrowsSpec) :=
  OpenClaim.holds_of_wide 5 Try.f5 rfl rfl rfl rfl rfl rfl rfl ⟨rfl, rfl, rfl, rfl, rfl⟩ rfl rfl rfl rfl rfl (by kernel_rfl) Try.func5 (by kernel_rfl)
    (of_decide_eq_true (by kernel_rfl)) (by unfold Func.isWrapper; first | (rw [if_pos (by decide +kernel)]; kernel_rfl) | (rw [if_neg (by decide +kernel)]; exact ⟨rfl, rfl⟩))
    (fun os started H enc _ => lifted os started H enc)

end Go.Proofs.Ytdgmndjofbdgeaa.cgrows
namespace Go.Proofs.Ytdgmndjofbdgeaa
theorem CritGrows_holds : Rows.CritGrowsSaid := cgrows.over
end Go.Proofs.Ytdgmndjofbdgeaa
