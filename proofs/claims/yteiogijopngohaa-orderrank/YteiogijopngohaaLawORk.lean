/- Proved: for every row of numbers (of six at most, or of nine to a hundred), its place, the next one and where each number stands are the document's. -/
import Derived.Test.YteiogijopngohaaRows
import Derived.Test.YteiogijopngohaaOdT
import Derived.Test.YteiogijopngohaaOdS
import Derived.WalkKit
import Derived.ProofKit
import Derived.OpenShut
import Derived.ShutString
import Derived.ChangeOld
import Derived.Below
namespace Go.Proofs.Yteiogijopngohaa.orank
open Go.ChangeShapes Go.WideShapes Go.ChangeAt Go.RowKit
open Go.WideMaps Go.WideElems
attribute [local go_sem ↓] Go.wp_at_zero Go.wp_at_succ
set_option linter.unusedVariables false
set_option linter.unusedSimpArgs false
set_option maxRecDepth 10000
open Od
set_option maxHeartbeats 2000000 in
theorem walk {w : World} {v : Value} {L : List Int} (h : Is w v L) : Calls Try.prog 4 #[v] w fun e w' => e = .returned (.bool true) ∧ Below w.heap.size w w' := by
  have K0 := hide (Keep.refl w)
  have IS := hide h
  obtain ⟨a, cap, rfl, _⟩ := h
  by_cases hm : 6 < L.length ∧ L.length ≤ 8
  · have h1 : (6 : Int) < (L.length : Int) := by omega
    have h2 : (L.length : Int) ≤ 8 := by omega
    clear hm IS
    generalize L.length = n at *
    go_enter Try.func4, Try.ntmps4
    go_wp2_with fail
    go_ret
    exact ⟨rfl, unhide K0⟩
  by_cases hb : 100 < L.length
  · have h1 : (6 : Int) < (L.length : Int) := by omega
    have h2 : ¬ (L.length : Int) ≤ 8 := by omega
    have h3 : (100 : Int) < (L.length : Int) := by omega
    clear hm IS
    generalize L.length = n at *
    go_enter Try.func4, Try.ntmps4
    go_wp2_with fail
    go_ret
    exact ⟨rfl, unhide K0⟩
  · have h6 : L.length ≤ 6 ∨ 8 < L.length := by omega
    have hl : L.length ≤ 100 := by omega
    have TX := hide (fun w (h : Is w (.slice a L.length cap) L) => next_any _ L w h (by omega))
    have TY := hide (fun w (h : Is w (.slice a L.length cap) L) => rnext_any _ L w h (by omega) h6)
    have TR := hide (fun w (h : Is w (.slice a L.length cap) L) => rank_any _ L w h (by omega))
    have TQ := hide (fun w (h : Is w (.slice a L.length cap) L) => rrank_any _ L w h (by omega) h6)
    have TT := hide (fun w (h : Is w (.slice a L.length cap) L) => turned_any _ L w h (by omega))
    have TU := hide (fun w (h : Is w (.slice a L.length cap) L) => rturned_any _ L w h (by omega))
    have hs1 := nxL_short L
    have hs2 := tnL_short L
    have TS1 := hide (fun v u w h g => same_selfR v u (nxL L) w h g (by omega))
    have TS2 := hide (fun v u w h g => same_selfR v u (tnL L) w h g (by omega))
    have hlb : ¬ (100 : Int) < (L.length : Int) := by omega
    have hr1 : (rank L == rank L) = true := by simp
    clear hm hb hs1 hs2
    rcases h6 with hm | hm
    all_goals (
      first | have hq1 : ¬ (6 : Int) < (L.length : Int) := (by omega) | have hq1 : ¬ (L.length : Int) ≤ 8 := (by omega)
      first | have hq2 : (6 : Int) < (L.length : Int) := (by omega) | have hq2 : (L.length : Int) ≤ 6 := (by omega)
      generalize rank L = R at TR TQ hr1
      generalize L.length = n at *
      go_enter Try.func4, Try.ntmps4
      go_wp2_with fail
      (refine ((unhide TX) _ (unhide IS)).mono ?_; rintro e w1 ⟨v1, rfl, hk9, hi9⟩; have K1 := hide hk9; have I1 := hide ((unhide IS).keep hk9); have A1 := hide hi9; clear hk9 hi9)
      go_wp2_with fail
      (refine ((unhide TY) _ (unhide I1)).mono ?_; rintro e w2 ⟨v2, rfl, hk9, hi9⟩; have K2 := hide ((unhide K1).trans hk9); have I2 := hide ((unhide I1).keep hk9); have A2 := hide ((unhide A1).keep hk9); have B2 := hide hi9; clear hk9 hi9 K1 I1 A1)
      go_wp2_with fail
      (refine ((unhide TR) _ (unhide I2)).mono ?_; rintro e w3 ⟨rfl, hk9⟩; have K3 := hide ((unhide K2).trans hk9); have I3 := hide ((unhide I2).keep hk9); have A3 := hide ((unhide A2).keep hk9); have B3 := hide ((unhide B2).keep hk9); clear hk9 K2 I2 A2 B2)
      go_wp2_with fail
      (refine ((unhide TQ) _ (unhide I3)).mono ?_; rintro e w4 ⟨rfl, hk9⟩; have K4 := hide ((unhide K3).trans hk9); have I4 := hide ((unhide I3).keep hk9); have A4 := hide ((unhide A3).keep hk9); have B4 := hide ((unhide B3).keep hk9); clear hk9 K3 I3 A3 B3)
      go_wp2_with fail
      (refine ((unhide TS1) _ _ _ (unhide A4).is (unhide B4).is).mono ?_; rintro e w5 ⟨rfl, hk9⟩; have K5 := hide ((unhide K4).trans hk9); have I5 := hide ((unhide I4).keep hk9); clear hk9 K4 I4 A4 B4)
      go_wp2_with fail
      (refine ((unhide TT) _ (unhide I5)).mono ?_; rintro e w6 ⟨v6, rfl, hk9, hi9⟩; have K6 := hide ((unhide K5).trans hk9); have I6 := hide ((unhide I5).keep hk9); have A6 := hide hi9; clear hk9 hi9 K5 I5)
      go_wp2_with fail
      (refine ((unhide TU) _ (unhide I6)).mono ?_; rintro e w7 ⟨v7, rfl, hk9, hi9⟩; have K7 := hide ((unhide K6).trans hk9); have A7 := hide ((unhide A6).keep hk9); have B7 := hide hi9; clear hk9 hi9 K6 I6 A6)
      go_wp2_with fail
      (refine ((unhide TS2) _ _ _ (unhide A7).is (unhide B7).is).mono ?_; rintro e w8 ⟨rfl, hk9⟩; have K8 := hide ((unhide K7).trans hk9); clear hk9 K7 A7 B7)
      go_wp2_with fail
      (refine (awake_any _).mono ?_; rintro e w9 ⟨rfl, hk9⟩; have K9 := hide ((unhide K8).trans hk9); clear hk9 K8)
      go_wp2_with fail
      go_ret
      exact ⟨rfl, unhide K9⟩)
theorem laidOut : laidOutB Try.prog = true := by kernel_rfl
theorem own : ownKnob Try.prog.godebug = none := by kernel_rfl
set_option maxHeartbeats 400000 in
set_option maxRecDepth 100000 in
theorem lifted (os : Os) (started : os.Started) (H : Type) (enc : TypeId × Value → H) :
    ReturnsInHanded {} Try.checked os 4 .any (Rows.orderRankSpec.pre6 enc Try.prog Try.f4 Rows.orderRankRow.domain false) (Rows.orderRankSpec.post enc Try.prog Try.f4 false true false false) := by
  refine returnsInHanded_of_change (C := Try.checked) own started (by kernel_rfl) Try.func4
    (ChangeSpec.witness6 (enc := enc) (C := Try.checked) false ⟨#[], #[.slice none 0 0], []⟩ 8 (by kernel_rfl) (by kernel_rfl) (by kernel_rfl) (by kernel_rfl)) ?_
  intro W base args ds gs before hval0 hW hcnd _
  have hval : ∀ (j : Nat) t v, Try.f4.params[j]? = some t → args[j]? = some v → Value.okWide Try.prog W .any base t v := hval0
  have hW' := hW
  obtain ⟨p, q, hA0, hV, rfl, hfz, hnd⟩ := hW
  have hA : DataW.TrodAll enc Try.prog W 0 (fun _ => true) true Try.f4.params.toList args.toList ds p := hA0
  rw [Try.params4] at hA hval
  obtain ⟨v0, vs0, d0, ds0, p0, q0, hargs, rfl, rfl, h0, r0⟩ := trodAll_cons hA
  obtain ⟨rfl, rfl, rfl⟩ := trodAll_nil r0
  obtain rfl : args = #[v0] := by cases args; simp_all
  obtain ⟨rfl, rfl⟩ := trodVars_none hV
  have k0 := h0
  have lt0 : ∀ x ∈ p0, x.block < W.heap.size := by obtain ⟨m, hm⟩ := k0; exact DataW.trod_lt m _ _ _ hm
  obtain ⟨s0, x0⟩ := Od.open_nums Try.underlying25 Od.underI (by kernel_rfl) (hval 0 25 v0 rfl rfl) h0
  clear h0
  clear hA0 hval0
  refine (walk x0).mono fun e W' ⟨he, bel⟩ => ?_
  subst he
  exact ⟨_, rfl, _, _, _, [], _, [], hW', trodAll_mk1 (shut_bool Try.underlying4 _), (trodAll_cons_mk (Below.trod laidOut (by kernel_rfl) (of_decide_eq_true (by kernel_rfl)) k0 bel lt0) trodAll_mk0), rfl, bel.frame _, fun h => by cases h⟩
theorem over : Rows.orderRankRow.holds Try.pinned (OpenSpec.ofChange Rows.orderRankSpec) :=
  OpenClaim.holds_of_wide 4 Try.f4 rfl rfl rfl rfl rfl rfl rfl ⟨rfl, rfl, rfl, rfl, rfl⟩ rfl rfl rfl rfl rfl (by kernel_rfl) Try.func4 (by kernel_rfl)
    (of_decide_eq_true (by kernel_rfl)) (by unfold Func.isWrapper; first | (rw [if_pos (by decide +kernel)]; kernel_rfl) | (rw [if_neg (by decide +kernel)]; exact ⟨rfl, rfl⟩))
    (fun os started H enc _ => lifted os started H enc)

end Go.Proofs.Yteiogijopngohaa.orank
namespace Go.Proofs.Yteiogijopngohaa
theorem OrderRank_holds : Rows.OrderRankSaid := orank.over
end Go.Proofs.Yteiogijopngohaa
