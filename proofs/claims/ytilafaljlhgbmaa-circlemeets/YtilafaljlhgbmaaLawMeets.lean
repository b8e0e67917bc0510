/- Proved: for every cycle of at most 300 ticks, or of none that there is, and at most 30 arcs each: the ticks of both, of one alone and of none are the document's (more is let by). -/
import Derived.Test.YtilafaljlhgbmaaRows
import Derived.Test.YtilafaljlhgbmaaCAwk
import Derived.Test.YtilafaljlhgbmaaCRefE
import Derived.Test.YtilafaljlhgbmaaCOpa
namespace Go.Proofs.Ytilafaljlhgbmaa.meets
open Go.ChangeShapes Go.WideShapes Go.ChangeAt Go.RowKit Go.Joins
set_option linter.unusedVariables false
set_option maxRecDepth 10000
set_option maxHeartbeats 1000000 in
theorem walk0 (c : Int) (a a' : Option Addr) (n cap n' cap' : Nat) (w : World) (T0 : Hid (∀ w g, w.cell? ⟨g, 0, none⟩ = some (.slice a n cap) → w.cell? ⟨g, 1, none⟩ = some (.slice a' n' cap') → Calls Try.prog 9 #[.int .i64 c, .slice (some ⟨g, 0, none⟩) 2 2] w fun e w' => e = .returned (.bool false) ∧ w' = w)) :
    Calls Try.prog 5 #[.int .i64 c, .slice a n cap, .slice a' n' cap'] w fun e w' => e = .returned (.bool true) ∧ Below w.heap.size w w' := by
  go_enter Try.func5, Try.ntmps5
  go_wp2_with fail
  (refine ((unhide T0) _ _ (by simp [go_sem]) (by simp [go_sem])).mono ?_; rintro e w2 ⟨rfl, rfl⟩)
  go_wp2_with fail
  go_ret
  exact ⟨rfl, (Below.refl _ w).alloc (Nat.le_refl _) _⟩
set_option maxHeartbeats 1000000 in
theorem walk1 (c : Int) (a a' : Option Addr) (n cap n' cap' : Nat) (w : World) (A B C : World → Value → Prop) (A2 B2 C2 : World → Value → Value → Prop)
    (T0 : Hid (∀ w g, w.cell? ⟨g, 0, none⟩ = some (.slice a n cap) → w.cell? ⟨g, 1, none⟩ = some (.slice a' n' cap') → Calls Try.prog 9 #[.int .i64 c, .slice (some ⟨g, 0, none⟩) 2 2] w fun e w' => e = .returned (.bool true) ∧ w' = w))
    (T1 : Hid (∀ w', Keep w w' → Calls Try.prog 24 #[.int .i64 c, .slice a n cap, .slice a' n' cap'] w' fun e w'' => ∃ v, e = .returned v ∧ A w'' v ∧ Keep w' w''))
    (T2 : Hid (∀ w' u, Keep w w' → A w' u → Calls Try.prog 25 #[.int .i64 c, .slice a n cap, .slice a' n' cap'] w' fun e w'' => ∃ v, e = .returned v ∧ A2 w'' u v ∧ Keep w' w''))
    (T3 : Hid (∀ w' u v, A2 w' u v → Calls Try.prog 10 #[u, v] w' fun e w'' => e = .returned (.bool true) ∧ Keep w' w''))
    (T4 : Hid (∀ w', Keep w w' → Calls Try.prog 26 #[.int .i64 c, .slice a n cap, .slice a' n' cap'] w' fun e w'' => ∃ v, e = .returned v ∧ B w'' v ∧ Keep w' w''))
    (T5 : Hid (∀ w' u, Keep w w' → B w' u → Calls Try.prog 27 #[.int .i64 c, .slice a n cap, .slice a' n' cap'] w' fun e w'' => ∃ v, e = .returned v ∧ B2 w'' u v ∧ Keep w' w''))
    (T6 : Hid (∀ w' u v, B2 w' u v → Calls Try.prog 10 #[u, v] w' fun e w'' => e = .returned (.bool true) ∧ Keep w' w''))
    (T7 : Hid (∀ w', Keep w w' → Calls Try.prog 28 #[.int .i64 c, .slice a n cap] w' fun e w'' => ∃ v, e = .returned v ∧ C w'' v ∧ Keep w' w''))
    (T8 : Hid (∀ w' u, Keep w w' → C w' u → Calls Try.prog 29 #[.int .i64 c, .slice a n cap] w' fun e w'' => ∃ v, e = .returned v ∧ C2 w'' u v ∧ Keep w' w''))
    (T9 : Hid (∀ w' u v, C2 w' u v → Calls Try.prog 10 #[u, v] w' fun e w'' => e = .returned (.bool true) ∧ Keep w' w''))
    (TA : Hid (∀ w', Calls Try.prog 17 #[] w' fun e w'' => e = .returned (.bool true) ∧ Keep w' w'')) :
    Calls Try.prog 5 #[.int .i64 c, .slice a n cap, .slice a' n' cap'] w fun e w' => e = .returned (.bool true) ∧ Below w.heap.size w w' := by
  go_enter Try.func5, Try.ntmps5
  go_wp2_with fail
  (refine ((unhide T0) _ _ (by simp [go_sem]) (by simp [go_sem])).mono ?_; rintro e w0 ⟨rfl, rfl⟩)
  go_wp2_with fail
  have k0 := hide ((Keep.refl w).alloc (.cells #[.slice a n cap, .slice a' n' cap'] 22))
  (refine ((unhide T1) _ (unhide k0)).mono ?_; rintro e w1 ⟨v1, rfl, h1, hk⟩; replace k0 := hide ((unhide k0).trans hk); replace h1 := hide h1; clear hk)
  go_wp2_with fail
  (refine ((unhide T2) _ _ (unhide k0) (unhide h1)).mono ?_; rintro e w2 ⟨v2, rfl, h2, hk⟩; replace k0 := hide ((unhide k0).trans hk); replace h2 := hide h2; clear hk)
  go_wp2_with fail
  (refine ((unhide T3) _ _ _ (unhide h2)).mono ?_; rintro e w3 ⟨rfl, hk⟩; replace k0 := hide ((unhide k0).trans hk); clear hk h1 h2)
  go_wp2_with fail
  (refine ((unhide T4) _ (unhide k0)).mono ?_; rintro e w4 ⟨v1, rfl, h1, hk⟩; replace k0 := hide ((unhide k0).trans hk); replace h1 := hide h1; clear hk)
  go_wp2_with fail
  (refine ((unhide T5) _ _ (unhide k0) (unhide h1)).mono ?_; rintro e w5 ⟨v2, rfl, h2, hk⟩; replace k0 := hide ((unhide k0).trans hk); replace h2 := hide h2; clear hk)
  go_wp2_with fail
  (refine ((unhide T6) _ _ _ (unhide h2)).mono ?_; rintro e w6 ⟨rfl, hk⟩; replace k0 := hide ((unhide k0).trans hk); clear hk h1 h2)
  go_wp2_with fail
  (refine ((unhide T7) _ (unhide k0)).mono ?_; rintro e w7 ⟨v1, rfl, h1, hk⟩; replace k0 := hide ((unhide k0).trans hk); replace h1 := hide h1; clear hk)
  go_wp2_with fail
  (refine ((unhide T8) _ _ (unhide k0) (unhide h1)).mono ?_; rintro e w8 ⟨v2, rfl, h2, hk⟩; replace k0 := hide ((unhide k0).trans hk); replace h2 := hide h2; clear hk)
  go_wp2_with fail
  (refine ((unhide T9) _ _ _ (unhide h2)).mono ?_; rintro e w9 ⟨rfl, hk⟩; replace k0 := hide ((unhide k0).trans hk); clear hk h1 h2)
  go_wp2_with fail
  (refine ((unhide TA) _).mono ?_; rintro e wA ⟨rfl, hk⟩; replace k0 := hide ((unhide k0).trans hk); clear hk)
  go_wp2_with fail
  go_ret
  exact ⟨rfl, unhide k0⟩
theorem walk (c : Int) (va : Value) (A : List Pr) (vb : Value) (B : List Pr) (w : World) (w0 : (Lit.int .i64 c).wf = true) (hA : Rs w va A) (hB : Rs w vb B) :
    Calls Try.prog 5 #[.int .i64 c, va, vb] w fun e w' => e = .returned (.bool true) ∧ Below w.heap.size w w' := by
  have hc : In c := bounds_i64 w0
  obtain ⟨a, cap, hv⟩ := rs_slice hA
  obtain ⟨a', cap', hv'⟩ := rs_slice hB
  subst hv hv'
  by_cases hf : A.length ≤ 30 ∧ B.length ≤ 30 ∧ Few c
  · obtain ⟨h30, h30', hfew⟩ := hf
    have p1 : Per c (fun t => Ta c A t ∧ Ta c B t) := per_and (ta_per c A) (ta_per c B)
    have p2 : Per c (fun t => Ta c A t ∧ ¬ Ta c B t) := per_and (ta_per c A) (per_not (ta_per c B))
    have p3 : Per c (fun t => ¬ Ta c A t) := per_not (ta_per c A)
    obtain ⟨M, hM⟩ := fo_ex c _ p1
    obtain ⟨M2, hM2⟩ := fo_ex c _ p2
    obtain ⟨M3, hM3⟩ := fo_ex c _ p3
    have one : ∀ N, Fo c _ N → N = M := fun N hN => fo_one p1 p1 hN hM (fun _ _ _ _ => Iff.rfl)
    have one2 : ∀ N, Fo c _ N → N = M2 := fun N hN => fo_one p2 p2 hN hM2 (fun _ _ _ _ => Iff.rfl)
    have one3 : ∀ N, Fo c _ N → N = M3 := fun N hN => fo_one p3 p3 hN hM3 (fun _ _ _ _ => Iff.rfl)
    refine walk1 c a a' A.length cap B.length cap' w (fun w' v => Rs w' v M) (fun w' v => Rs w' v M2) (fun w' v => Rs w' v M3) (fun w' u v => Rs w' u M ∧ Rs w' v M) (fun w' u v => Rs w' u M2 ∧ Rs w' v M2) (fun w' u v => Rs w' u M3 ∧ Rs w' v M3)
      (hide fun w' g h h' => few_yes2 c g _ cap _ cap' a a' w' h h' h30 h30' hfew)
      (hide fun w' hk => ?_) (hide fun w' u hk hu => ?_) (hide fun w' u v h => same_yes u v M w' (by have := fo_len hM; omega) h.1 h.2)
      (hide fun w' hk => ?_) (hide fun w' u hk hu => ?_) (hide fun w' u v h => same_yes u v M2 w' (by have := fo_len hM2; omega) h.1 h.2)
      (hide fun w' hk => ?_) (hide fun w' u hk hu => ?_) (hide fun w' u v h => same_yes u v M3 w' (by have := fo_len hM3; omega) h.1 h.2) (hide awake_any)
    · refine (meet_any c hc _ _ A B w' (by omega) (by omega) (hA.keep hk) (hB.keep hk)).mono ?_
      rintro e w'' ⟨v, he, N, h1, h2, _, h3⟩
      rw [one N h2] at h1
      exact ⟨v, he, h1, h3⟩
    · refine (rmeet_any c hfew _ _ A B w' (by omega) (by omega) (hA.keep hk) (hB.keep hk)).mono ?_
      rintro e w'' ⟨v, he, N, h1, h2, _, h3⟩
      rw [one N h2] at h1
      exact ⟨v, he, ⟨hu.keep h3, h1⟩, h3⟩
    · refine (less_any c hc _ _ A B w' (by omega) (by omega) (hA.keep hk) (hB.keep hk)).mono ?_
      rintro e w'' ⟨v, he, N, h1, h2, _, h3⟩
      rw [one2 N h2] at h1
      exact ⟨v, he, h1, h3⟩
    · refine (rless_any c hfew _ _ A B w' (by omega) (by omega) (hA.keep hk) (hB.keep hk)).mono ?_
      rintro e w'' ⟨v, he, N, h1, h2, _, h3⟩
      rw [one2 N h2] at h1
      exact ⟨v, he, ⟨hu.keep h3, h1⟩, h3⟩
    · refine (rest_any c hc _ A w' (by omega) (hA.keep hk)).mono ?_
      rintro e w'' ⟨v, he, N, h1, h2, _, h3⟩
      rw [one3 N h2] at h1
      exact ⟨v, he, h1, h3⟩
    · refine (rrest_any c hfew _ A w' (by omega) (hA.keep hk)).mono ?_
      rintro e w'' ⟨v, he, N, h1, h2, _, h3⟩
      rw [one3 N h2] at h1
      exact ⟨v, he, ⟨hu.keep h3, h1⟩, h3⟩
  · exact walk0 c a a' A.length cap B.length cap' w (hide fun w' g h h' => few_no2 c g _ cap _ cap' a a' w' h h' hf)
theorem laidOut : laidOutB Try.prog = true := by kernel_rfl
theorem own : ownKnob Try.prog.godebug = none := by kernel_rfl
set_option maxHeartbeats 400000 in
set_option maxRecDepth 100000 in
theorem lifted (os : Os) (started : os.Started) (H : Type) (enc : TypeId × Value → H) :
    ReturnsInHanded {} Try.checked os 5 .any (Rows.circleMeetsSpec.pre6 enc Try.prog Try.f5 Rows.circleMeetsRow.domain false) (Rows.circleMeetsSpec.post enc Try.prog Try.f5 false true false false) := by
  refine returnsInHanded_of_change (C := Try.checked) own started (by kernel_rfl) Try.func5
    (ChangeSpec.witness6 (enc := enc) (C := Try.checked) false ⟨#[], #[.int .i64 0, .slice none 0 0, .slice none 0 0], []⟩ 8 (by kernel_rfl) (by kernel_rfl) (by kernel_rfl) (by kernel_rfl)) ?_
  intro W base args ds gs before hval0 hW hcnd _
  have hval : ∀ (j : Nat) t v, Try.f5.params[j]? = some t → args[j]? = some v → Value.okWide Try.prog W .any base t v := hval0
  have hW' := hW
  obtain ⟨p, q, hA0, hV, rfl, hfz, hnd⟩ := hW
  have hA : DataW.TrodAll enc Try.prog W 0 (fun _ => true) true Try.f5.params.toList args.toList ds p := hA0
  rw [Try.params5] at hA hval
  obtain ⟨v0, vs0, d0, ds0, p0, q0, hargs, rfl, rfl, h0, r0⟩ := trodAll_cons hA
  obtain ⟨v1, vs1, d1, ds1, p1, q1, rfl, rfl, rfl, h1, r1⟩ := trodAll_cons r0
  obtain ⟨v2, vs2, d2, ds2, p2, q2, rfl, rfl, rfl, h2, r2⟩ := trodAll_cons r1
  obtain ⟨rfl, rfl, rfl⟩ := trodAll_nil r2
  obtain rfl : args = #[v0, v1, v2] := by cases args; simp_all
  obtain ⟨rfl, rfl⟩ := trodVars_none hV
  obtain ⟨a0, rfl, rfl, rfl, w0⟩ := open_int Try.underlying2 (hval 0 2 v0 rfl rfl) h0
  have k1 := h1
  have lt1 : ∀ x ∈ p1, x.block < W.heap.size := by obtain ⟨m, hm⟩ := k1; exact DataW.trod_lt m _ _ _ hm
  obtain ⟨L1, w1⟩ := open_arcs Try.underlying22 Try.underlying29 (by kernel_rfl) (by kernel_rfl) Try.underlying2 Try.underlying2 (hval 1 22 v1 rfl rfl) h1
  clear h1
  have k2 := h2
  have lt2 : ∀ x ∈ p2, x.block < W.heap.size := by obtain ⟨m, hm⟩ := k2; exact DataW.trod_lt m _ _ _ hm
  obtain ⟨L2, w2⟩ := open_arcs Try.underlying22 Try.underlying29 (by kernel_rfl) (by kernel_rfl) Try.underlying2 Try.underlying2 (hval 2 22 v2 rfl rfl) h2
  clear h2
  clear hA0 hval0
  refine (walk a0 v1 L1 v2 L2 W w0 w1 w2).mono fun e W' ⟨he, bel⟩ => ?_
  subst he
  exact ⟨_, rfl, _, _, _, [], _, [], hW', trodAll_mk1 (shut_bool Try.underlying4 _), (trodAll_cons_mk (shut_int Try.underlying2 w0) (trodAll_cons_mk (Below.trod laidOut (by kernel_rfl) (of_decide_eq_true (by kernel_rfl)) k1 bel lt1) (trodAll_cons_mk (Below.trod laidOut (by kernel_rfl) (of_decide_eq_true (by kernel_rfl)) k2 bel lt2) trodAll_mk0))), rfl, bel.frame _, fun h => by cases h⟩
theorem over : Rows.circleMeetsRow.holds Try.pinned (OpenSpec.ofChange Rows.circleMeetsSpec) :=
  OpenClaim.holds_of_wide 5 Try.f5 rfl rfl rfl rfl rfl rfl rfl ⟨rfl, rfl, rfl, rfl, rfl⟩ rfl rfl rfl rfl rfl (by kernel_rfl) Try.func5 (by kernel_rfl)
    (of_decide_eq_true (by kernel_rfl)) (by unfold Func.isWrapper; first | (rw [if_pos (by decide +kernel)]; kernel_rfl) | (rw [if_neg (by decide +kernel)]; exact ⟨rfl, rfl⟩))
    (fun os started H enc _ => lifted os started H enc)

end Go.Proofs.Ytilafaljlhgbmaa.meets
namespace Go.Proofs.Ytilafaljlhgbmaa
theorem CircleMeets_holds : Rows.CircleMeetsSaid := meets.over
end Go.Proofs.Ytilafaljlhgbmaa
