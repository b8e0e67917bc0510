/- Proved: for every network and every number, which cycle is allowed, and how many are, is the document's answer. -/
import Derived.Test.YtjibbekojbaopaaRows
import Derived.Test.YtjibbekojbaopaaLMath
import Derived.Test.YtjibbekojbaopaaWbS
import Derived.Test.YtjibbekojbaopaaWbL
import Derived.Deep.DrawnRows
import Derived.Deep.RegionHeld
namespace Go.Proofs.Ytjibbekojbaopaa.wallowed
open Go.ChangeShapes Go.WideShapes Go.ChangeAt Go.RowKit
open Go.WideMaps Go.WideElems
attribute [local go_sem ↓] Go.wp_at_zero Go.wp_at_succ
set_option linter.unusedVariables false
set_option linter.unusedSimpArgs false
set_option maxRecDepth 10000
open Wb W
set_option maxHeartbeats 1000000 in
theorem wcore (mn mx st pn pd : Int) (xa : Option Addr) (xn xc : Nat) (ya : Option Addr) (yn yc : Nat) (wo wi : Int) (c a k : Int) (b : Bool) (w : World) (T1 : Hid (∀ w, Calls Try.prog 11 #[.agg #[.int .i64 mn, .int .i64 mx, .int .i64 st, .int .i64 pn, .int .i64 pd, .slice xa xn xc, .slice ya yn yc, .int .i64 wo, .int .i64 wi], .int .i64 c] w fun e w' => e = .returned (.tuple #[.int .i64 a, .bool b]) ∧ Keep w w'))
    (T2 : Hid (∀ w, Calls Try.prog 12 #[.agg #[.int .i64 mn, .int .i64 mx, .int .i64 st, .int .i64 pn, .int .i64 pd, .slice xa xn xc, .slice ya yn yc, .int .i64 wo, .int .i64 wi], .int .i64 c] w fun e w' => e = .returned (.tuple #[.int .i64 a, .bool b]) ∧ Keep w w'))
    (T3 : Hid (∀ w, Calls Try.prog 13 #[.agg #[.int .i64 mn, .int .i64 mx, .int .i64 st, .int .i64 pn, .int .i64 pd, .slice xa xn xc, .slice ya yn yc, .int .i64 wo, .int .i64 wi]] w fun e w' => e = .returned (.int .i64 k) ∧ Keep w w'))
    (T4 : Hid (∀ w, Calls Try.prog 14 #[.agg #[.int .i64 mn, .int .i64 mx, .int .i64 st, .int .i64 pn, .int .i64 pd, .slice xa xn xc, .slice ya yn yc, .int .i64 wo, .int .i64 wi]] w fun e w' => e = .returned (.int .i64 k) ∧ Keep w w'))
    (AW : Hid (∀ w, Calls Try.prog 10 #[] w fun e w' => e = .returned (.bool true) ∧ Keep w w')) :
    Calls Try.prog 4 #[.agg #[.int .i64 mn, .int .i64 mx, .int .i64 st, .int .i64 pn, .int .i64 pd, .slice xa xn xc, .slice ya yn yc, .int .i64 wo, .int .i64 wi], .int .i64 c] w fun e w' => e = .returned (.bool true) ∧ Keep w w' := by
  have HX : Hid (∀ W, Keep (w.alloc (.cells #[.int .i64 mn, .int .i64 mx, .int .i64 st, .int .i64 pn, .int .i64 pd, .slice xa xn xc, .slice ya yn yc, .int .i64 wo, .int .i64 wi] 32)) W → W.cell? ⟨w.heap.size, 0, none⟩ = some (.int .i64 mn) ∧ W.cell? ⟨w.heap.size, 1, none⟩ = some (.int .i64 mx) ∧ W.cell? ⟨w.heap.size, 2, none⟩ = some (.int .i64 st) ∧ W.cell? ⟨w.heap.size, 3, none⟩ = some (.int .i64 pn) ∧ W.cell? ⟨w.heap.size, 4, none⟩ = some (.int .i64 pd) ∧ W.cell? ⟨w.heap.size, 5, none⟩ = some (.slice xa xn xc) ∧ W.cell? ⟨w.heap.size, 6, none⟩ = some (.slice ya yn yc) ∧ W.cell? ⟨w.heap.size, 7, none⟩ = some (.int .i64 wo) ∧ W.cell? ⟨w.heap.size, 8, none⟩ = some (.int .i64 wi)) := by
    intro W hk
    have e : ∀ i, W.cell? ⟨w.heap.size, i, none⟩ = (w.alloc (.cells #[.int .i64 mn, .int .i64 mx, .int .i64 st, .int .i64 pn, .int .i64 pd, .slice xa xn xc, .slice ya yn yc, .int .i64 wo, .int .i64 wi] 32)).cell? ⟨w.heap.size, i, none⟩ := fun i => Below.cell (p := ⟨w.heap.size, i, none⟩) hk (by show w.heap.size < _; rw [World.size_alloc]; omega)
    rw [e, e, e, e, e, e, e, e, e]
    refine ⟨?_, ?_, ?_, ?_, ?_, ?_, ?_, ?_, ?_⟩ <;> simp [go_sem]
  have kw := hide ((Keep.refl w).alloc (.cells #[.int .i64 mn, .int .i64 mx, .int .i64 st, .int .i64 pn, .int .i64 pd, .slice xa xn xc, .slice ya yn yc, .int .i64 wo, .int .i64 wi] 32))
  go_enter Try.func4, Try.ntmps4
  go_wp2_with fail
  (refine ((uq T1) _).mono ?_; rintro e u1 ⟨rfl, k1⟩; obtain ⟨c0, c1, c2, c3, c4, c5, c6, c7, c8⟩ := (uq HX) _ k1; replace k1 := hide k1)
  go_wp2_with fail
  (refine ((uq T2) _).mono ?_; rintro e u2 ⟨rfl, k2⟩; replace k2 := hide ((uq k1).trans k2); clear c0 c1 c2 c3 c4 c5 c6 c7 c8; obtain ⟨c0, c1, c2, c3, c4, c5, c6, c7, c8⟩ := (uq HX) _ (uq k2))
  go_upto_region 3 with fail
  refine wp_region_held_drew (S := fun w' => w'.cell? ⟨w.heap.size, 0, none⟩ = some (.int .i64 mn) ∧ w'.cell? ⟨w.heap.size, 1, none⟩ = some (.int .i64 mx) ∧ w'.cell? ⟨w.heap.size, 2, none⟩ = some (.int .i64 st) ∧ w'.cell? ⟨w.heap.size, 3, none⟩ = some (.int .i64 pn) ∧ w'.cell? ⟨w.heap.size, 4, none⟩ = some (.int .i64 pd) ∧ w'.cell? ⟨w.heap.size, 5, none⟩ = some (.slice xa xn xc) ∧ w'.cell? ⟨w.heap.size, 6, none⟩ = some (.slice ya yn yc) ∧ w'.cell? ⟨w.heap.size, 7, none⟩ = some (.int .i64 wo) ∧ w'.cell? ⟨w.heap.size, 8, none⟩ = some (.int .i64 wi)) (by kernel_rfl) (by exact ⟨c0, c1, c2, c3, c4, c5, c6, c7, c8⟩) (fun hHeld => ?_)
  refine tkk 0 21 hHeld ?_; try simp only [Act.put, Ya, Yb, Yc]
  refine tkk 1 22 hHeld ?_; try simp only [Act.put, Ya, Yb, Yc]
  refine tkk 2 23 hHeld ?_; try simp only [Act.put, Ya, Yb, Yc]
  refine tkk 3 24 hHeld ?_; try simp only [Act.put, Ya, Yb, Yc]
  refine tkk 4 25 hHeld ?_; try simp only [Act.put, Ya, Yb, Yc]
  refine tkk 5 26 hHeld ?_; try simp only [Act.put, Ya, Yb, Yc]
  refine tkk 6 27 hHeld ?_; try simp only [Act.put, Ya, Yb, Yc]
  refine tkk 7 28 hHeld ?_; try simp only [Act.put, Ya, Yb, Yc]
  refine tkk 8 29 hHeld ?_; try simp only [Act.put, Ya, Yb, Yc]
  refine tkk 9 30 hHeld ?_; try simp only [Act.put, Ya, Yb, Yc]
  refine tkk 11 32 hHeld ?_; try simp only [Act.put, Ya, Yb, Yc]
  refine rdyy 10 (fun K hK => ?_)
  go_simp
  clear hHeld
  (refine ((uq T3) _).mono ?_; rintro e u3 ⟨rfl, hk9⟩; have k3 := hide ((uq k2).drew.trans hk9); clear hk9)
  try go_wp2_with fail
  refine hK.out _ _ ?_ (fun hHeld => ?_)
  · exact (uq HX) _ (uq k3)
  clear hK K
  try simp only [Act.put, Ya, Yb, Yc]
  refine rdyy 12 (fun K hK => ?_)
  go_simp
  clear hHeld
  (refine ((uq T4) _).mono ?_; rintro e u4 ⟨rfl, hk9⟩; have k4 := hide ((uq k3).trans hk9); clear hk9)
  try go_wp2_with fail
  refine hK.out _ _ ?_ (fun hHeld => ?_)
  · exact (uq HX) _ (uq k4)
  clear hK K
  try simp only [Act.put, Ya, Yb, Yc]
  refine tkk 13 34 hHeld ?_; try simp only [Act.put, Ya, Yb, Yc]
  refine tkk 14 35 hHeld ?_; try simp only [Act.put, Ya, Yb, Yc]
  refine tkk 15 36 hHeld ?_; try simp only [Act.put, Ya, Yb, Yc]
  refine rdyy 16 (fun K hK => ?_)
  go_simp
  clear hHeld
  (refine ((uq AW) _).mono ?_; rintro e u5 ⟨rfl, hk9⟩; have k5 := hide ((uq k4).trans hk9); clear hk9)
  try go_wp2_with fail
  refine hK.out _ _ ?_ (fun hHeld => ?_)
  · exact (uq HX) _ (uq k5)
  clear hK K
  try simp only [Act.put, Ya, Yb, Yc]
  refine tkk 17 38 hHeld ?_; try simp only [Act.put, Ya, Yb, Yc]
  refine tkk 18 4 hHeld ?_; try simp only [Act.put, Ya, Yb, Yc]
  refine wpAnyH_done (by kernel_rfl) ?_ _
  clear hHeld
  go_wp2_with fail
  go_ret
  exact ⟨rfl, (uq kw).trans (uq k5)⟩
theorem walk {w : World} {ds : List D} {us : List Value} (hs : ShL Wb.wnetT ds) (hr : Rvs w ds us) (c : Int) : Calls Try.prog 4 #[.agg us.toArray, .int .i64 c] w fun e w' => e = .returned (.bool true) ∧ Below w.heap.size w w' := by
  obtain ⟨mn, mx, st, pn, pd, xa, xn, xc, ya, yn, yc, wo, wi, rfl, hst⟩ := nine hs hr
  exact wcore mn mx st pn pd xa xn xc ya yn yc wo wi c _ _ _ w (hide fun w => allowed_any mn mx st pn pd xa xn xc ya yn yc wo wi c w hst) (hide fun w => rallowed_any mn mx st pn pd xa xn xc ya yn yc wo wi c w) (hide fun w => wcount_any mn mx st pn pd xa xn xc ya yn yc wo wi w hst) (hide fun w => rcount_any mn mx st pn pd xa xn xc ya yn yc wo wi w) (hide awake_any)
theorem laidOut : laidOutB Try.prog = true := by kernel_rfl
theorem own : ownKnob Try.prog.godebug = none := by kernel_rfl
set_option maxHeartbeats 400000 in
set_option maxRecDepth 100000 in
theorem lifted (os : Os) (started : os.Started) (H : Type) (enc : TypeId × Value → H) :
    ReturnsInHanded {} Try.checked os 4 .any (Rows.websterAllowedSpec.pre6 enc Try.prog Try.f4 Rows.websterAllowedRow.domain false) (Rows.websterAllowedSpec.post enc Try.prog Try.f4 false true false false) := by
  refine returnsInHanded_of_change (C := Try.checked) own started (by kernel_rfl) Try.func4
    (ChangeSpec.witness6 (enc := enc) (C := Try.checked) false ⟨#[], #[.agg #[.int .i64 0, .int .i64 0, .int .i64 0, .int .i64 0, .int .i64 0, .slice none 0 0, .slice none 0 0, .int .i64 0, .int .i64 0], .int .i64 0], []⟩ 8 (by kernel_rfl) (by kernel_rfl) (by kernel_rfl) (by kernel_rfl)) ?_
  intro W base args ds gs before hval0 hW hcnd _
  have hval : ∀ (j : Nat) t v, Try.f4.params[j]? = some t → args[j]? = some v → Value.okWide Try.prog W .any base t v := hval0
  have hW' := hW
  obtain ⟨p, q, hA0, hV, rfl, hfz, hnd⟩ := hW
  have hA : DataW.TrodAll enc Try.prog W 0 (fun _ => true) true Try.f4.params.toList args.toList ds p := hA0
  rw [Try.params4] at hA hval
  obtain ⟨v0, vs0, d0, ds0, p0, q0, hargs, rfl, rfl, h0, r0⟩ := trodAll_cons hA
  obtain ⟨v1, vs1, d1, ds1, p1, q1, rfl, rfl, rfl, h1, r1⟩ := trodAll_cons r0
  obtain ⟨rfl, rfl, rfl⟩ := trodAll_nil r1
  obtain rfl : args = #[v0, v1] := by cases args; simp_all
  obtain ⟨rfl, rfl⟩ := trodVars_none hV
  have k0 := h0
  have lt0 : ∀ x ∈ p0, x.block < W.heap.size := by obtain ⟨m, hm⟩ := k0; exact DataW.trod_lt m _ _ _ hm
  obtain ⟨es0, us0, rfl, s0, x0⟩ := open_struct Try.underlying32 Wb.wnet_desc (hval 0 32 v0 rfl rfl) h0
  clear h0
  obtain ⟨a1, rfl, rfl, rfl, w1⟩ := open_int Try.underlying2 (hval 1 2 v1 rfl rfl) h1
  clear hA0 hval0
  refine (walk s0 x0 a1).mono fun e W' ⟨he, bel⟩ => ?_
  subst he
  exact ⟨_, rfl, _, _, _, [], _, [], hW', trodAll_mk1 (shut_bool Try.underlying4 _), (trodAll_cons_mk (Below.trod laidOut (by kernel_rfl) (of_decide_eq_true (by kernel_rfl)) k0 bel lt0) (trodAll_cons_mk (shut_int Try.underlying2 w1) trodAll_mk0)), rfl, bel.frame _, fun h => by cases h⟩
theorem over : Rows.websterAllowedRow.holds Try.pinned (OpenSpec.ofChange Rows.websterAllowedSpec) :=
  OpenClaim.holds_of_wide 4 Try.f4 rfl rfl rfl rfl rfl rfl rfl ⟨rfl, rfl, rfl, rfl, rfl⟩ rfl rfl rfl rfl rfl (by kernel_rfl) Try.func4 (by kernel_rfl)
    (of_decide_eq_true (by kernel_rfl)) (by unfold Func.isWrapper; first | (rw [if_pos (by decide +kernel)]; kernel_rfl) | (rw [if_neg (by decide +kernel)]; exact ⟨rfl, rfl⟩))
    (fun os started H enc _ => lifted os started H enc)

end Go.Proofs.Ytjibbekojbaopaa.wallowed
namespace Go.Proofs.Ytjibbekojbaopaa
theorem WebsterAllowed_holds : Rows.WebsterAllowedSaid := wallowed.over
end Go.Proofs.Ytjibbekojbaopaa
