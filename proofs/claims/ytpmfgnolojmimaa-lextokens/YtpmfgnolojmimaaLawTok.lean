/- Proved: for every text of at most 5000 bytes the tokens, or the error and its place, are the document's (longer texts are let by). -/
import Derived.Test.YtpmfgnolojmimaaRows
import Derived.Test.YtpmfgnolojmimaaLAwk
import Derived.Test.YtpmfgnolojmimaaLSame
import Derived.Test.YtpmfgnolojmimaaLRToks
import Derived.Test.YtpmfgnolojmimaaLFact
import Derived.Test.YtpmfgnolojmimaaLApp
import Derived.Test.YtpmfgnolojmimaaLOpn
namespace Go.Proofs.Ytpmfgnolojmimaa.tok
open Go.ChangeShapes Go.WideShapes Go.ChangeAt Go.RowKit Go.Joins
attribute [local go_sem ↓] Go.wp_at_zero Go.wp_at_succ
set_option linter.unusedVariables false
set_option linter.unusedSimpArgs false
set_option maxRecDepth 10000
set_option maxHeartbeats 2000000 in
theorem walk0 (a : Option Addr) (n cap : Nat) (w : World) (hn : 5000 < n) :
    Calls Try.prog 3 #[.slice a n cap] w fun e w' => e = .returned (.bool true) ∧ Below w.heap.size w w' := by
  have h : (5000 : Int) < (n : Int) := by omega
  go_enter Try.func3, Try.ntmps3
  go_wp2_with fail
  go_ret
  exact ⟨rfl, Below.refl _ _⟩
set_option maxHeartbeats 2000000 in
theorem walk1 (a : Option Addr) (n cap : Nat) (B : List UInt8) (X : Except (Int × Nat) (List Tok)) (w : World) (hn : ¬ 5000 < n) (hb : B.length = n) (hB : By w (.slice a n cap) B)
    (T1 : Hid (∀ w' v, By w' v B → Calls Try.prog 9 #[v] w' (Tp X w')))
    (T2 : Hid (∀ w', Keep w w' → Calls Try.prog 10 #[.slice a n cap] w' (Tp X w')))
    (T3 : Hid (∀ w' u v, Ts w' u (tl X) → Ts w' v (tl X) → Calls Try.prog 11 #[u, v, .bool true] w' fun e w'' => e = .returned (.bool true) ∧ Keep w' w''))
    (T8 : Hid (∀ w', Calls Try.prog 12 #[] w' fun e w'' => e = .returned (.bool true) ∧ Keep w' w'')) :
    Calls Try.prog 3 #[.slice a n cap] w fun e w' => e = .returned (.bool true) ∧ Below w.heap.size w w' := by
  have h : ¬ (5000 : Int) < (n : Int) := by omega
  have HBY := hide hB
  clear hB
  go_enter Try.func3, Try.ntmps3
  have hrow0 := hide (World.ownsRow_made (base := w.heap.size) (e := 5) (size := 1) w #[] 0 (Nat.le_refl _) (Nat.zero_le _) rfl)
  have k0 := hide ((Keep.refl w).alloc (.cells #[] 5))
  have HB2 := hide ((unhide HBY).keep (unhide k0))
  go_wp2_with (at_builtin; refine wpList_append_by _ rfl _ _ 22 rfl w.heap.size Try.underlying22 _ [] rfl (unhide hrow0) _ B rfl (unhide HB2) (by simp; omega) (by simp) ?_; intro v' w1 hown hgrow; have HBA := hide (by_own hown); have k1 := hide (Below.grown (unhide k0) hgrow (by simp) (fun j ej => ((unhide hrow0).lt j ej).1)); clear hown hgrow)
  simp only [List.nil_append] at HBA
  (refine ((unhide T1) _ _ (unhide HBA)).mono ?_; rintro e w2 ⟨u, rfl, h1, _, hk⟩; have k2 := hide (Keep.trans (unhide k1) hk); have H1 := hide h1; clear hk h1)
  go_wp2_with fail
  (refine ((unhide T2) _ (unhide k2)).mono ?_; rintro e w3 ⟨u2, rfl, h2, _, hk⟩; have k3 := hide (Keep.trans (unhide k2) hk); have H2 := hide h2; replace H1 := hide ((unhide H1).keep hk); clear hk h2)
  go_wp2_with fail
  (refine ((unhide T3) _ _ _ (unhide H1) (unhide H2)).mono ?_; rintro e w4 ⟨rfl, hk⟩; have k4 := hide (Keep.trans (unhide k3) hk); clear hk)
  go_wp2_with fail
  (refine ((unhide T8) _).mono ?_; rintro e w5 ⟨rfl, hk⟩; have k5 := hide (Keep.trans (unhide k4) hk); clear hk)
  go_wp2_with fail
  go_ret
  exact ⟨rfl, unhide k5⟩
theorem walk (v0 : Value) (l : List UInt8) (w : World) (h : By w v0 l) : Calls Try.prog 3 #[v0] w fun e w' => e = .returned (.bool true) ∧ Below w.heap.size w w' := by
  obtain ⟨a, cap, rfl⟩ := h.shape
  by_cases hn : 5000 < l.length
  · exact walk0 a l.length cap w hn
  · refine walk1 a l.length cap l (T l) w hn rfl h (hide fun w' v hv => toks_any v l w' (by omega) hv) (hide fun w' hk => rtoks_any _ l w' (by omega) (h.keep hk)) (hide fun w' u v hu hv => same_all u v _ w' ?_ hu hv) (hide awake_any)
    cases hT : T l with
    | error x => simp [tl]
    | ok L => have := (T_len hT).2; simp only [tl]; omega
theorem laidOut : laidOutB Try.prog = true := by kernel_rfl
theorem own : ownKnob Try.prog.godebug = none := by kernel_rfl
set_option maxHeartbeats 400000 in
set_option maxRecDepth 100000 in
theorem lifted (os : Os) (started : os.Started) (H : Type) (enc : TypeId × Value → H) :
    ReturnsInHanded {} Try.checked os 3 .any (Rows.lexTokensSpec.pre6 enc Try.prog Try.f3 Rows.lexTokensRow.domain false) (Rows.lexTokensSpec.post enc Try.prog Try.f3 false true false false) := by
  refine returnsInHanded_of_change (C := Try.checked) own started (by kernel_rfl) Try.func3
    (ChangeSpec.witness6 (enc := enc) (C := Try.checked) false ⟨#[], #[.slice none 0 0], []⟩ 8 (by kernel_rfl) (by kernel_rfl) (by kernel_rfl) (by kernel_rfl)) ?_
  intro W base args ds gs before hval0 hW hcnd _
  have hval : ∀ (j : Nat) t v, Try.f3.params[j]? = some t → args[j]? = some v → Value.okWide Try.prog W .any base t v := hval0
  have hW' := hW
  obtain ⟨p, q, hA0, hV, rfl, hfz, hnd⟩ := hW
  have hA : DataW.TrodAll enc Try.prog W 0 (fun _ => true) true Try.f3.params.toList args.toList ds p := hA0
  rw [Try.params3] at hA hval
  obtain ⟨v0, vs0, d0, ds0, p0, q0, hargs, rfl, rfl, h0, r0⟩ := trodAll_cons hA
  obtain ⟨rfl, rfl, rfl⟩ := trodAll_nil r0
  obtain rfl : args = #[v0] := by cases args; simp_all
  obtain ⟨rfl, rfl⟩ := trodVars_none hV
  have k0 := h0
  have lt0 : ∀ x ∈ p0, x.block < W.heap.size := by obtain ⟨m, hm⟩ := k0; exact DataW.trod_lt m _ _ _ hm
  obtain ⟨L0, w0⟩ := open_bytes Try.underlying22 Try.underlying5 (by kernel_rfl) (hval 0 22 v0 rfl rfl) h0
  clear h0
  clear hA0 hval0
  refine (walk v0 L0 W w0).mono fun e W' ⟨he, bel⟩ => ?_
  subst he
  exact ⟨_, rfl, _, _, _, [], _, [], hW', trodAll_mk1 (shut_bool Try.underlying4 _), (trodAll_cons_mk (Below.trod laidOut (by kernel_rfl) (of_decide_eq_true (by kernel_rfl)) k0 bel lt0) trodAll_mk0), rfl, bel.frame _, fun h => by cases h⟩
theorem over : Rows.lexTokensRow.holds Try.pinned (OpenSpec.ofChange Rows.lexTokensSpec) :=
  OpenClaim.holds_of_wide 3 Try.f3 rfl rfl rfl rfl rfl rfl rfl ⟨rfl, rfl, rfl, rfl, rfl⟩ rfl rfl rfl rfl rfl (by kernel_rfl) Try.func3 (by kernel_rfl)
    (of_decide_eq_true (by kernel_rfl)) (by unfold Func.isWrapper; first | (rw [if_pos (by decide +kernel)]; kernel_rfl) | (rw [if_neg (by decide +kernel)]; exact ⟨rfl, rfl⟩))
    (fun os started H enc _ => lifted os started H enc)

end Go.Proofs.Ytpmfgnolojmimaa.tok
namespace Go.Proofs.Ytpmfgnolojmimaa
theorem LexTokens_holds : Rows.LexTokensSaid := tok.over
end Go.Proofs.Ytpmfgnolojmimaa
