/- Proved: for every cycle of at most 300 ticks, or of none that there is, and at most 30 arcs: the arcs in form, how many ticks they have and which is the widest are the document's (more is let by). -/
import Derived.Test.YtilafaljlhgbmaaRows
import Derived.Test.YtilafaljlhgbmaaCAwk
import Derived.Test.YtilafaljlhgbmaaCRefD
import Derived.Test.YtilafaljlhgbmaaCOpa
namespace Go.Proofs.Ytilafaljlhgbmaa.sets
open Go.ChangeShapes Go.WideShapes Go.ChangeAt Go.RowKit Go.Joins
set_option linter.unusedVariables false
set_option maxRecDepth 10000
set_option maxHeartbeats 1000000 in
theorem walk0 (c : Int) (a : Option Addr) (n cap : Nat) (w : World) (T0 : Hid (∀ w g, w.cell? ⟨g, 0, none⟩ = some (.slice a n cap) → Calls Try.prog 9 #[.int .i64 c, .slice (some ⟨g, 0, none⟩) 1 1] w fun e w' => e = .returned (.bool false) ∧ w' = w)) :
    Calls Try.prog 3 #[.int .i64 c, .slice a n cap] w fun e w' => e = .returned (.bool true) ∧ Below w.heap.size w w' := by
  go_enter Try.func3, Try.ntmps3
  go_wp2_with fail
  (refine ((unhide T0) _ _ (by simp [go_sem])).mono ?_; rintro e w2 ⟨rfl, rfl⟩)
  go_wp2_with fail
  go_ret
  exact ⟨rfl, (Below.refl _ w).alloc (Nat.le_refl _) _⟩
set_option maxHeartbeats 1000000 in
theorem walk1 (c : Int) (a : Option Addr) (n cap : Nat) (w : World) (X U V : Int) (A : World → Value → Prop) (A2 : World → Value → Value → Prop)
    (T0 : Hid (∀ w g, w.cell? ⟨g, 0, none⟩ = some (.slice a n cap) → Calls Try.prog 9 #[.int .i64 c, .slice (some ⟨g, 0, none⟩) 1 1] w fun e w' => e = .returned (.bool true) ∧ w' = w))
    (T1 : Hid (∀ w', Keep w w' → Calls Try.prog 11 #[.int .i64 c, .slice a n cap] w' fun e w'' => ∃ v, e = .returned v ∧ A w'' v ∧ Keep w' w''))
    (T2 : Hid (∀ w' u, Keep w w' → A w' u → Calls Try.prog 12 #[.int .i64 c, .slice a n cap] w' fun e w'' => ∃ v, e = .returned v ∧ A2 w'' u v ∧ Keep w' w''))
    (T3 : Hid (∀ w' u v, A2 w' u v → Calls Try.prog 10 #[u, v] w' fun e w'' => e = .returned (.bool true) ∧ Keep w' w''))
    (T4 : Hid (∀ w', Keep w w' → Calls Try.prog 13 #[.int .i64 c, .slice a n cap] w' fun e w'' => e = .returned (.int .i64 X) ∧ Keep w' w''))
    (T5 : Hid (∀ w', Keep w w' → Calls Try.prog 14 #[.int .i64 c, .slice a n cap] w' fun e w'' => e = .returned (.int .i64 X) ∧ Keep w' w''))
    (T6 : Hid (∀ w', Keep w w' → Calls Try.prog 15 #[.int .i64 c, .slice a n cap] w' fun e w'' => e = .returned (.agg #[.int .i64 U, .int .i64 V]) ∧ Keep w' w''))
    (T7 : Hid (∀ w', Keep w w' → Calls Try.prog 16 #[.int .i64 c, .slice a n cap] w' fun e w'' => e = .returned (.agg #[.int .i64 U, .int .i64 V]) ∧ Keep w' w''))
    (T8 : Hid (∀ w', Calls Try.prog 17 #[] w' fun e w'' => e = .returned (.bool true) ∧ Keep w' w'')) :
    Calls Try.prog 3 #[.int .i64 c, .slice a n cap] w fun e w' => e = .returned (.bool true) ∧ Below w.heap.size w w' := by
  go_enter Try.func3, Try.ntmps3
  go_wp2_with fail
  (refine ((unhide T0) _ _ (by simp [go_sem])).mono ?_; rintro e w0 ⟨rfl, rfl⟩)
  go_wp2_with fail
  have k0 := hide ((Keep.refl w).alloc (.cells #[.slice a n cap] 22))
  (refine ((unhide T1) _ (unhide k0)).mono ?_; rintro e w1 ⟨v1, rfl, h1, hk⟩; replace k0 := hide ((unhide k0).trans hk); replace h1 := hide h1; clear hk)
  go_wp2_with fail
  (refine ((unhide T2) _ _ (unhide k0) (unhide h1)).mono ?_; rintro e w2 ⟨v2, rfl, h2, hk⟩; replace k0 := hide ((unhide k0).trans hk); replace h2 := hide h2; clear hk)
  go_wp2_with fail
  (refine ((unhide T3) _ _ _ (unhide h2)).mono ?_; rintro e w3 ⟨rfl, hk⟩; replace k0 := hide ((unhide k0).trans hk); clear hk)
  go_wp2_with fail
  (refine ((unhide T4) _ (unhide k0)).mono ?_; rintro e w4 ⟨rfl, hk⟩; replace k0 := hide ((unhide k0).trans hk); clear hk)
  go_wp2_with fail
  (refine ((unhide T5) _ (unhide k0)).mono ?_; rintro e w5 ⟨rfl, hk⟩; replace k0 := hide ((unhide k0).trans hk); clear hk)
  go_wp2_with fail
  (refine ((unhide T6) _ (unhide k0)).mono ?_; rintro e w6 ⟨rfl, hk⟩; replace k0 := hide ((unhide k0).trans hk); clear hk)
  go_wp2_with fail
  (refine ((unhide T7) _ (unhide k0)).mono ?_; rintro e w7 ⟨rfl, hk⟩; replace k0 := hide ((unhide k0).trans hk); clear hk)
  go_wp2_with fail
  (refine ((unhide T8) _).mono ?_; rintro e w8 ⟨rfl, hk⟩; replace k0 := hide ((unhide k0).trans hk); clear hk)
  go_wp2_with fail
  go_ret
  exact ⟨rfl, unhide k0⟩
theorem walk (c : Int) (v0 : Value) (L : List Pr) (w : World) (w0 : (Lit.int .i64 c).wf = true) (hR : Rs w v0 L) :
    Calls Try.prog 3 #[.int .i64 c, v0] w fun e w' => e = .returned (.bool true) ∧ Below w.heap.size w w' := by
  have hc : In c := bounds_i64 w0
  obtain ⟨a, cap, hv⟩ := rs_slice hR
  subst hv
  by_cases hf : L.length ≤ 30 ∧ Few c
  · obtain ⟨M, hM⟩ := fo_ex c (Ta c L) (ta_per c L)
    have one : ∀ N, Fo c (Ta c L) N → N = M := fun N hN => fo_one (ta_per c L) (ta_per c L) hN hM (fun _ _ _ _ => Iff.rfl)
    refine walk1 c a L.length cap w (tk c L) (wd M).1 (wd M).2 (fun w' v => Rs w' v M) (fun w' u v => Rs w' u M ∧ Rs w' v M) (hide fun w' g h => few_yes1 c g _ cap a w' h hf.1 hf.2)
      (hide fun w' hk => ?_) (hide fun w' u hk hu => ?_) (hide fun w' u v h => same_yes u v M w' (by have := fo_len hM; omega) h.1 h.2)
      (hide fun w' hk => total_any c _ L w' (by omega) (hR.keep hk)) (hide fun w' hk => rtotal_any c hf.2 _ L w' (by omega) (hR.keep hk))
      (hide fun w' hk => ?_) (hide fun w' hk => ?_) (hide awake_any)
    · refine (set_any c hc _ L w' (by omega) (hR.keep hk)).mono ?_
      rintro e w'' ⟨v, he, N, h1, h2, _, h3⟩
      rw [one N h2] at h1
      exact ⟨v, he, h1, h3⟩
    · refine (rset_any c hf.2 _ L w' (by omega) (hR.keep hk)).mono ?_
      rintro e w'' ⟨v, he, N, h1, h2, _, h3⟩
      rw [one N h2] at h1
      exact ⟨v, he, ⟨hu.keep h3, h1⟩, h3⟩
    · refine (widest_any c hc _ L w' (by omega) (hR.keep hk)).mono ?_
      rintro e w'' ⟨N, h1, h2, h3⟩
      rw [one N h1] at h2
      exact ⟨h2, h3⟩
    · refine (rwidest_any c hf.2 _ L w' (by omega) (hR.keep hk)).mono ?_
      rintro e w'' ⟨N, h1, h2, h3⟩
      rw [one N h1] at h2
      exact ⟨h2, h3⟩
  · exact walk0 c a L.length cap w (hide fun w' g h => few_no1 c g _ cap a w' h hf)
theorem laidOut : laidOutB Try.prog = true := by kernel_rfl
theorem own : ownKnob Try.prog.godebug = none := by kernel_rfl
set_option maxHeartbeats 400000 in
set_option maxRecDepth 100000 in
theorem lifted (os : Os) (started : os.Started) (H : Type) (enc : TypeId × Value → H) :
    ReturnsInHanded {} Try.checked os 3 .any (Rows.circleSetsSpec.pre6 enc Try.prog Try.f3 Rows.circleSetsRow.domain false) (Rows.circleSetsSpec.post enc Try.prog Try.f3 false true false false) := by
  refine returnsInHanded_of_change (C := Try.checked) own started (by kernel_rfl) Try.func3
    (ChangeSpec.witness6 (enc := enc) (C := Try.checked) false ⟨#[], #[.int .i64 0, .slice none 0 0], []⟩ 8 (by kernel_rfl) (by kernel_rfl) (by kernel_rfl) (by kernel_rfl)) ?_
  intro W base args ds gs before hval0 hW hcnd _
  have hval : ∀ (j : Nat) t v, Try.f3.params[j]? = some t → args[j]? = some v → Value.okWide Try.prog W .any base t v := hval0
  have hW' := hW
  obtain ⟨p, q, hA0, hV, rfl, hfz, hnd⟩ := hW
  have hA : DataW.TrodAll enc Try.prog W 0 (fun _ => true) true Try.f3.params.toList args.toList ds p := hA0
  rw [Try.params3] at hA hval
  obtain ⟨v0, vs0, d0, ds0, p0, q0, hargs, rfl, rfl, h0, r0⟩ := trodAll_cons hA
  obtain ⟨v1, vs1, d1, ds1, p1, q1, rfl, rfl, rfl, h1, r1⟩ := trodAll_cons r0
  obtain ⟨rfl, rfl, rfl⟩ := trodAll_nil r1
  obtain rfl : args = #[v0, v1] := by cases args; simp_all
  obtain ⟨rfl, rfl⟩ := trodVars_none hV
  obtain ⟨a0, rfl, rfl, rfl, w0⟩ := open_int Try.underlying2 (hval 0 2 v0 rfl rfl) h0
  have k1 := h1
  have lt1 : ∀ x ∈ p1, x.block < W.heap.size := by obtain ⟨m, hm⟩ := k1; exact DataW.trod_lt m _ _ _ hm
  obtain ⟨L1, w1⟩ := open_arcs Try.underlying22 Try.underlying29 (by kernel_rfl) (by kernel_rfl) Try.underlying2 Try.underlying2 (hval 1 22 v1 rfl rfl) h1
  clear h1
  clear hA0 hval0
  refine (walk a0 v1 L1 W w0 w1).mono fun e W' ⟨he, bel⟩ => ?_
  subst he
  exact ⟨_, rfl, _, _, _, [], _, [], hW', trodAll_mk1 (shut_bool Try.underlying4 _), (trodAll_cons_mk (shut_int Try.underlying2 w0) (trodAll_cons_mk (Below.trod laidOut (by kernel_rfl) (of_decide_eq_true (by kernel_rfl)) k1 bel lt1) trodAll_mk0)), rfl, bel.frame _, fun h => by cases h⟩
theorem over : Rows.circleSetsRow.holds Try.pinned (OpenSpec.ofChange Rows.circleSetsSpec) :=
  OpenClaim.holds_of_wide 3 Try.f3 rfl rfl rfl rfl rfl rfl rfl ⟨rfl, rfl, rfl, rfl, rfl⟩ rfl rfl rfl rfl rfl (by kernel_rfl) Try.func3 (by kernel_rfl)
    (of_decide_eq_true (by kernel_rfl)) (by unfold Func.isWrapper; first | (rw [if_pos (by decide +kernel)]; kernel_rfl) | (rw [if_neg (by decide +kernel)]; exact ⟨rfl, rfl⟩))
    (fun os started H enc _ => lifted os started H enc)

end Go.Proofs.Ytilafaljlhgbmaa.sets
namespace Go.Proofs.Ytilafaljlhgbmaa
theorem CircleSets_holds : Rows.CircleSetsSaid := sets.over
end Go.Proofs.Ytilafaljlhgbmaa
