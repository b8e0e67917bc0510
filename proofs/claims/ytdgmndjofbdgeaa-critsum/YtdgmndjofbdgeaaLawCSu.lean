/- Proved: for every node and all ratios, few of each (50), the critical sum, the ring of each group that makes it, and the phases on that way are the document's, or both say why there are none. -/
import Derived.Test.YtdgmndjofbdgeaaCrT
import Derived.Test.YtdgmndjofbdgeaaLMath
import Derived.Test.YtdgmndjofbdgeaaCrR
import Derived.Deep.DrawnRows
import Derived.Deep.RegionHeld3
import Derived.Laws.AppendOwn
import Derived.Laws.OwnMore
import Derived.Laws.MakeOwn
import Derived.OwnWalk
import Derived.Test.YtdgmndjofbdgeaaRows
namespace Go.Proofs.Ytdgmndjofbdgeaa
open Go.RowKit
attribute [local go_sem ↓] Go.wp_at_zero Go.wp_at_succ
set_option linter.unusedVariables false
set_option linter.unusedSimpArgs false
set_option maxRecDepth 10000
namespace Cr
open S
set_option maxHeartbeats 8000000 in
theorem csum_core (s : ByteArray) (x1 : Option Addr) (n1 c1 : Nat) (x2 : Option Addr) (n2 c2 : Nat) (x3 : Option Addr) (n3 c3 : Nat) (x4 : Option Addr) (n4 c4 : Nat) (x5 : Option Addr) (n5 c5 : Nat) (p : Int) (xf : Option Addr) (nf cf : Nat) (P : Prop) (X Y z : Int) (I L : List Int) (w : World) (hL : L.length ≤ 100000)
    (TF : Hid (∀ w', Keep w w' → Calls Try.prog 6 #[.agg #[.string s, .slice x1 n1 c1, .slice x2 n2 c2, .slice x3 n3 c3, .slice x4 n4 c4, .slice x5 n5 c5, .int .i64 p], .slice xf nf cf] w' (Ak3 P w')))
    (T1 : Hid (P → ∀ w', Keep w w' → Calls Try.prog 7 #[.agg #[.string s, .slice x1 n1 c1, .slice x2 n2 c2, .slice x3 n3 c3, .slice x4 n4 c4, .slice x5 n5 c5, .int .i64 p], .slice xf nf cf] w' fun e w'' => ∃ va vc, e = .returned (.tuple #[.agg #[.int .i64 X, .int .i64 Y, .slice va I.length vc], .int .i64 z]) ∧ Keep w' w'' ∧ Is w'' (.slice va I.length vc) I))
    (T2 : Hid (P → ∀ w', Keep w w' → Calls Try.prog 8 #[.agg #[.string s, .slice x1 n1 c1, .slice x2 n2 c2, .slice x3 n3 c3, .slice x4 n4 c4, .slice x5 n5 c5, .int .i64 p], .slice xf nf cf] w' fun e w'' => ∃ va vc, e = .returned (.tuple #[.agg #[.int .i64 X, .int .i64 Y, .slice va I.length vc], .int .i64 z]) ∧ Keep w' w'' ∧ Is w'' (.slice va I.length vc) I))
    (T3 : Hid (P → ∀ w', Keep w w' → Calls Try.prog 9 #[.agg #[.string s, .slice x1 n1 c1, .slice x2 n2 c2, .slice x3 n3 c3, .slice x4 n4 c4, .slice x5 n5 c5, .int .i64 p], .slice xf nf cf] w' fun e w'' => ∃ va vc, e = .returned (.slice va L.length vc) ∧ Keep w' w'' ∧ Is w'' (.slice va L.length vc) L))
    (T4 : Hid (P → ∀ w', Keep w w' → Calls Try.prog 10 #[.agg #[.string s, .slice x1 n1 c1, .slice x2 n2 c2, .slice x3 n3 c3, .slice x4 n4 c4, .slice x5 n5 c5, .int .i64 p], .slice xf nf cf] w' fun e w'' => ∃ va vc, e = .returned (.slice va L.length vc) ∧ Keep w' w'' ∧ Is w'' (.slice va L.length vc) L))
    (TM : Hid (∀ v u w', Is w' v I → Is w' u I → Calls Try.prog 11 #[.agg #[.int .i64 X, .int .i64 Y, v], .agg #[.int .i64 X, .int .i64 Y, u]] w' fun e w'' => e = .returned (.bool true) ∧ Keep w' w''))
    (TA : Hid (∀ w', Calls Try.prog 12 #[] w' fun e w'' => e = .returned (.bool true) ∧ Keep w' w'')) :
    Calls Try.prog 3 #[.agg #[.string s, .slice x1 n1 c1, .slice x2 n2 c2, .slice x3 n3 c3, .slice x4 n4 c4, .slice x5 n5 c5, .int .i64 p], .slice xf nf cf] w fun e w' => e = .returned (.bool true) ∧ Keep w w' := by
  have hnw0 := heap_alloc_new w (.cells #[.string s, .slice x1 n1 c1, .slice x2 n2 c2, .slice x3 n3 c3, .slice x4 n4 c4, .slice x5 n5 c5, .int .i64 p] 28)
  have K0 := hide ((Keep.refl w).alloc (.cells #[.string s, .slice x1 n1 c1, .slice x2 n2 c2, .slice x3 n3 c3, .slice x4 n4 c4, .slice x5 n5 c5, .int .i64 p] 28))
  go_enter Try.func3, Try.ntmps3
  go_upto_region 1 with fail
  generalize w.alloc (.cells #[.string s, .slice x1 n1 c1, .slice x2 n2 c2, .slice x3 n3 c3, .slice x4 n4 c4, .slice x5 n5 c5, .int .i64 p] 28) = w0 at hnw0 K0 ⊢
  obtain ⟨q0, HQ0⟩ : ∃ q, Hid (w.heap.size = q) := ⟨_, hide rfl⟩
  rw [uq HQ0] at hnw0 ⊢
  have HX0 : Hid (∀ w' : World, Keep w0 w' → w'.cell? ⟨q0, 0, none⟩ = some (.string s) ∧ w'.cell? ⟨q0, 1, none⟩ = some (.slice x1 n1 c1) ∧ w'.cell? ⟨q0, 2, none⟩ = some (.slice x2 n2 c2) ∧ w'.cell? ⟨q0, 3, none⟩ = some (.slice x3 n3 c3) ∧ w'.cell? ⟨q0, 4, none⟩ = some (.slice x4 n4 c4) ∧ w'.cell? ⟨q0, 5, none⟩ = some (.slice x5 n5 c5) ∧ w'.cell? ⟨q0, 6, none⟩ = some (.int .i64 p)) := hide (fun w' k9 => by
    have h1 := k9.block q0 (Array.getElem?_eq_some_iff.1 hnw0).1
    rw [hnw0] at h1
    refine ⟨?_, ?_, ?_, ?_, ?_, ?_, ?_⟩ <;> simp [World.cell?, h1])
  clear hnw0
  obtain ⟨z0, z1, z2, z3, z4, z5, z6⟩ := (uq HX0) w0 (Keep.refl _)
  go_wp2_with fail
  (refine ((uq TF) _ (uq K0)).mono ?_; rintro e w2 ⟨b, rfl, hk9, hp9⟩; have K2 := hide hk9; have HP := hide hp9; clear hk9 hp9)
  clear z0 z1 z2 z3 z4 z5 z6
  cases b
  · go_wp2_with fail
    go_ret
    exact ⟨rfl, (uq K0).trans (uq K2)⟩
  · have hp := (uq HP) rfl
    replace T1 := hide ((uq T1) hp)
    replace T2 := hide ((uq T2) hp)
    replace T3 := hide ((uq T3) hp)
    replace T4 := hide ((uq T4) hp)
    clear HP hp TF
    obtain ⟨z0, z1, z2, z3, z4, z5, z6⟩ := (uq HX0) w2 (uq K2)
    go_wp2_with fail
    (refine ((uq T1) _ ((uq K0).trans (uq K2))).mono ?_; rintro e w3 ⟨va, vc, rfl, hk9, hi9⟩; have K3 := hide ((uq K2).trans hk9); have A3 := hide hi9; clear hk9 hi9)
    clear z0 z1 z2 z3 z4 z5 z6
    have hb3 := heap_alloc_new w3 (.cells #[.int .i64 X, .int .i64 Y, .slice va I.length vc] 35)
    have K4 := hide ((uq K3).alloc (.cells #[.int .i64 X, .int .i64 Y, .slice va I.length vc] 35))
    have A4 := hide ((uq A3).keep ((Keep.refl w3).alloc (.cells #[.int .i64 X, .int .i64 Y, .slice va I.length vc] 35)))
    go_upto_region 4 with fail
    generalize w3.alloc (.cells #[.int .i64 X, .int .i64 Y, .slice va I.length vc] 35) = w4 at hb3 K4 A4 ⊢
    generalize w3.heap.size = qa at hb3 ⊢
    have B4 := hide hb3
    clear hb3
    obtain ⟨z0, z1, z2, z3, z4, z5, z6⟩ := (uq HX0) w4 (uq K4)
    go_wp2_with fail
    (refine ((uq T2) _ ((uq K0).trans (uq K4))).mono ?_; rintro e w5 ⟨ua, uc, rfl, hk9, hi9⟩; have K5 := hide ((uq K4).trans hk9); have A5 := hide ((uq A4).keep hk9); have C5 := hide hi9; have B5 : Hid (w5.heap[qa]? = some (.cells #[.int .i64 X, .int .i64 Y, .slice va I.length vc] 35 (0, 0))) := hide (by rw [hk9.block qa (Array.getElem?_eq_some_iff.1 (uq B4)).1]; exact uq B4); clear hk9 hi9)
    clear z0 z1 z2 z3 z4 z5 z6
    have hb5 := heap_alloc_new w5 (.cells #[.int .i64 X, .int .i64 Y, .slice ua I.length uc] 35)
    have M6 := hide ((Keep.refl w5).alloc (.cells #[.int .i64 X, .int .i64 Y, .slice ua I.length uc] 35))
    go_upto_region 5 with fail
    generalize w5.alloc (.cells #[.int .i64 X, .int .i64 Y, .slice ua I.length uc] 35) = w6 at hb5 M6 ⊢
    generalize w5.heap.size = qb at hb5 ⊢
    have D6 := hide hb5
    clear hb5
    have K6 := hide ((uq K5).trans (uq M6))
    have A6 := hide ((uq A5).keep (uq M6))
    have C6 := hide ((uq C5).keep (uq M6))
    have B6 : Hid (w6.heap[qa]? = some (.cells #[.int .i64 X, .int .i64 Y, .slice va I.length vc] 35 (0, 0))) := hide (by rw [(uq M6).block qa (Array.getElem?_eq_some_iff.1 (uq B5)).1]; exact uq B5)
    obtain ⟨z0, z1, z2, z3, z4, z5, z6⟩ := (uq HX0) w6 (uq K6)
    go_wp2_with fail
    (refine ((uq T3) _ ((uq K0).trans (uq K6))).mono ?_; rintro e w7 ⟨pa, pc, rfl, hk9, hi9⟩; have M7 := hide hk9; have P7 := hide hi9; clear hk9 hi9)
    clear z0 z1 z2 z3 z4 z5 z6
    have K7 := hide ((uq K6).trans (uq M7))
    obtain ⟨z0, z1, z2, z3, z4, z5, z6⟩ := (uq HX0) w7 (uq K7)
    go_wp2_with fail
    (refine ((uq T4) _ ((uq K0).trans (uq K7))).mono ?_; rintro e w8 ⟨ra, rc, rfl, hk9, hi9⟩; have M8 := hide ((uq M7).trans hk9); have P8 := hide ((uq P7).keep hk9); have R8 := hide hi9; clear hk9 hi9)
    clear z0 z1 z2 z3 z4 z5 z6
    have K8 := hide ((uq K6).trans (uq M8))
    have HPC : Hid (∀ k, k < L.length → ∃ ad bd, pa = some ad ∧ ra = some bd ∧ w8.cell? (ad.add k) = some (.int .i64 (L.getD k 0)) ∧ w8.cell? (bd.add k) = some (.int .i64 (L.getD k 0))) := hide (fun k hk => by
      obtain ⟨a1, c1, e1, h1⟩ := uq P8
      obtain ⟨a2, c2, e2, h2⟩ := uq R8
      injection e1 with e1
      injection e2 with e2
      subst e1 e2
      obtain ⟨ad, f1, _, f2⟩ := h1 k hk
      obtain ⟨bd, g1, _, g2⟩ := h2 k hk
      exact ⟨ad, bd, f1, g1, f2, g2⟩)
    obtain ⟨nl, hnl⟩ : ∃ n, L.length = n := ⟨_, rfl⟩
    rw [hnl] at HPC hL ⊢
    clear hnl
    go_wp2_with fail
    go_loopw [11] (fun vi wr => ∃ k : Nat, k ≤ nl ∧ vi = .int .i64 (k : Int) ∧ Hid (Keep w8 wr)) (fun vi _ => nl - (intOf vi).toNat)
    case atStart => exact ⟨0, Nat.zero_le _, rfl, hide (Keep.refl _)⟩
    case round =>
      obtain ⟨k, hk, rfl, KW⟩ := hrel
      by_cases hlt : k < nl
      · have li : (k : Int) < (nl : Int) := by omega
        obtain ⟨ad, bd, rfl, rfl, e1, e2⟩ := (uq HPC) k hlt
        have y1 := kcl (uq KW) e1
        have y2 := kcl (uq KW) e2
        clear e1 e2
        generalize L.getD k 0 = x at y1 y2
        go_upto_region 12 with fail
        refine wp_region_held_drew (S := fun w' => w'.cell? (ad.add k) = some (.int .i64 x) ∧ w'.cell? (bd.add k) = some (.int .i64 x)) (by kernel_rfl) (by exact ⟨y1, y2⟩) (fun hHeld => ?_)
        refine tkk 0 45 hHeld ?_; try simp only [Act.put, Ya, Yb, Yc]
        refine tkk 1 46 hHeld ?_; try simp only [Act.put, Ya, Yb, Yc]
        refine tkk 2 47 hHeld ?_; try simp only [Act.put, Ya, Yb, Yc]
        refine tkk 3 48 hHeld ?_; try simp only [Act.put, Ya, Yb, Yc]
        refine tkk 4 49 hHeld ?_; try simp only [Act.put, Ya, Yb, Yc]
        refine tkk 5 50 hHeld ?_; try simp only [Act.put, Ya, Yb, Yc]
        refine tkk 6 51 hHeld ?_; try simp only [Act.put, Ya, Yb, Yc]
        refine tkk 7 52 hHeld ?_; try simp only [Act.put, Ya, Yb, Yc]
        refine tkk 8 53 hHeld ?_; try simp only [Act.put, Ya, Yb, Yc]
        refine wpAnyH_done (by kernel_rfl) ?_ _
        clear hHeld
        go_wp2_with fail
        go_roundw
        case rel => exact ⟨k + 1, hlt, by go_num, hide ((uq KW).drew)⟩
        case measure => simp [intOf]; omega
      · have li : ¬ (k : Int) < (nl : Int) := by omega
        have K9 := hide ((uq M8).trans (uq KW))
        have Ba := (uq K9).block qa (Array.getElem?_eq_some_iff.1 (uq B6)).1
        rw [uq B6] at Ba
        have Bb := (uq K9).block qb (Array.getElem?_eq_some_iff.1 (uq D6)).1
        rw [uq D6] at Bb
        have x0 : wr.cell? ⟨qa, 0, none⟩ = some (.int .i64 X) := by simp [World.cell?, Ba]
        have x1 : wr.cell? ⟨qa, 1, none⟩ = some (.int .i64 Y) := by simp [World.cell?, Ba]
        have x2 : wr.cell? ⟨qa, 2, none⟩ = some (.slice va I.length vc) := by simp [World.cell?, Ba]
        have y0 : wr.cell? ⟨qb, 0, none⟩ = some (.int .i64 X) := by simp [World.cell?, Bb]
        have y1 : wr.cell? ⟨qb, 1, none⟩ = some (.int .i64 Y) := by simp [World.cell?, Bb]
        have y2 : wr.cell? ⟨qb, 2, none⟩ = some (.slice ua I.length uc) := by simp [World.cell?, Bb]
        clear Ba Bb
        have TMM := hide ((uq TM) _ _ wr ((uq A6).keep (uq K9)) ((uq C6).keep (uq K9)))
        go_wp2_with fail
        (refine (uq TMM).mono ?_; rintro e w9 ⟨rfl, hk9⟩; have K10 := hide ((uq K9).trans hk9); clear hk9)
        go_wp2_with fail
        (refine ((uq TA) _).mono ?_; rintro e w10 ⟨rfl, hk9⟩; have K11 := hide ((uq K10).trans hk9); clear hk9)
        go_wp2_with fail
        go_ret
        exact ⟨rfl, (uq K0).trans ((uq K6).trans (uq K11))⟩
end Cr
end Go.Proofs.Ytdgmndjofbdgeaa

namespace Go.Proofs.Ytdgmndjofbdgeaa.csum
open Go.ChangeShapes Go.WideShapes Go.ChangeAt Go.RowKit
open Go.WideMaps Go.WideElems
set_option linter.unusedVariables false
set_option linter.unusedSimpArgs false
set_option maxRecDepth 10000
open Cr S
theorem walk {w : World} {ds : List D} {us : List Value} (hs : ShL nodeT ds) (hr : Rvs w ds us) {es : List D} {v : Value} (gs : ShL fracsT es) (gr : Rvs w es [v]) : Calls Try.prog 3 #[.agg us.toArray, v] w fun e w' => e = .returned (.bool true) ∧ Below w.heap.size w w' := by
  obtain ⟨s, x1, n1, c1, x2, n2, c2, x3, n3, c3, x4, n4, c4, x5, n5, c5, p, XG, NG, CG, FR, XR, T, CR, A, rfl, _, _, hN⟩ := nin_of hs hr
  obtain ⟨xf, cf, R, rfl, _, _, hR⟩ := fracs gs gr
  obtain ⟨X, Y, z, I, hI, _, _, _, hd⟩ := sq_det (Qr R A T) NG n3 n4 R.length
  by_cases hP : R.length ≤ 50 ∧ FewN ds
  · have hi := hN hP.2
    have hr9 := hR hP.1
    obtain ⟨L, hL, hq⟩ := rq_det (Qr R A T) A T NG n3 n4 R.length
    have hlen : L.length ≤ 100000 := by
      rcases hL with ⟨ho, rfl⟩ | rfl
      · have := wayL_len (A := A) (T := T) (G := gR (Qr R A T) NG) (NG := NG) hi.b4 (fun k hk => gR_lt (ho.2 k hk)) hi.bt
        omega
      · simp
    exact csum_core s x1 n1 c1 x2 n2 c2 x3 n3 c3 x4 n4 c4 x5 n5 c5 p xf R.length cf _ X Y z I L w hlen (hide fun w' k' => few_law s x1 n1 c1 x2 n2 c2 x3 n3 c3 x4 n4 c4 x5 n5 c5 p hs (Rvs.keep k' _ _ hr) xf R.length cf)
      (hide fun _ w' k' => (sum_any (hi.keep k') cf (hr9.keep k')).mono fun e w'' h => hd w' e w'' h) (hide fun _ w' k' => (rsum_any (hi.keep k') cf (hr9.keep k')).mono fun e w'' h => hd w' e w'' h)
      (hide fun _ w' k' => (rank_any (hi.keep k') cf (hr9.keep k')).mono fun e w'' h => hq w' e w'' h) (hide fun _ w' k' => (rrank_any (hi.keep k') cf (hr9.keep k')).mono fun e w'' h => hq w' e w'' h)
      (hide fun v u w' h1 h2 => same_core X Y v u I w' (by rcases hI with h | h <;> rw [h] <;> first | (have := hi.b4; omega) | simp) h1 h2) (hide awake_any)
  · exact csum_core s x1 n1 c1 x2 n2 c2 x3 n3 c3 x4 n4 c4 x5 n5 c5 p xf R.length cf _ 0 0 0 [] [] w (by simp) (hide fun w' k' => few_law s x1 n1 c1 x2 n2 c2 x3 n3 c3 x4 n4 c4 x5 n5 c5 p hs (Rvs.keep k' _ _ hr) xf R.length cf)
      (hide fun h => absurd h hP) (hide fun h => absurd h hP) (hide fun h => absurd h hP) (hide fun h => absurd h hP) (hide fun v u w' h1 h2 => same_core 0 0 v u [] w' (by simp) h1 h2) (hide awake_any)
theorem laidOut : laidOutB Try.prog = true := by kernel_rfl
theorem own : ownKnob Try.prog.godebug = none := by kernel_rfl
set_option maxHeartbeats 400000 in
set_option maxRecDepth 100000 in
theorem lifted (os : Os) (started : os.Started) (H : Type) (enc : TypeId × Value → H) :
    ReturnsInHanded {} Try.checked os 3 .any (Rows.critSumSpec.pre6 enc Try.prog Try.f3 Rows.critSumRow.domain false) (Rows.critSumSpec.post enc Try.prog Try.f3 false true false false) := by
  refine returnsInHanded_of_change (C := Try.checked) own started (by kernel_rfl) Try.func3
    (ChangeSpec.witness6 (enc := enc) (C := Try.checked) false ⟨#[], #[.agg #[.string ⟨#[]⟩, .slice none 0 0, .slice none 0 0, .slice none 0 0, .slice none 0 0, .slice none 0 0, .int .i64 0], .slice none 0 0], []⟩ 8 (by kernel_rfl) (by kernel_rfl) (by kernel_rfl) (by kernel_rfl)) ?_
  intro W base args ds gs before hval0 hW hcnd _
  have hval : ∀ (j : Nat) t v, Try.f3.params[j]? = some t → args[j]? = some v → Value.okWide Try.prog W .any base t v := hval0
  have hW' := hW
  obtain ⟨p, q, hA0, hV, rfl, hfz, hnd⟩ := hW
  have hA : DataW.TrodAll enc Try.prog W 0 (fun _ => true) true Try.f3.params.toList args.toList ds p := hA0
  rw [Try.params3] at hA hval
  obtain ⟨v0, vs0, d0, ds0, p0, q0, hargs, rfl, rfl, h0, r0⟩ := trodAll_cons hA
  obtain ⟨v1, vs1, d1, ds1, p1, q1, rfl, rfl, rfl, h1, r1⟩ := trodAll_cons r0
  obtain ⟨rfl, rfl, rfl⟩ := trodAll_nil r1
  obtain rfl : args = #[v0, v1] := by cases args; simp_all
  obtain ⟨rfl, rfl⟩ := trodVars_none hV
  have k0 := h0
  have lt0 : ∀ x ∈ p0, x.block < W.heap.size := by obtain ⟨m, hm⟩ := k0; exact DataW.trod_lt m _ _ _ hm
  obtain ⟨es0, us0, rfl, s0, x0⟩ := open_struct Try.underlying28 Cr.node_desc (hval 0 28 v0 rfl rfl) h0
  clear h0
  have k1 := h1
  have lt1 : ∀ x ∈ p1, x.block < W.heap.size := by obtain ⟨m, hm⟩ := k1; exact DataW.trod_lt m _ _ _ hm
  obtain ⟨es1, s1, x1⟩ := Cr.open_row Try.underlying29 Cr.fracs_desc (hval 1 29 v1 rfl rfl) h1
  clear h1
  clear hA0 hval0
  refine (walk s0 x0 s1 x1).mono fun e W' ⟨he, bel⟩ => ?_
  subst he
  exact ⟨_, rfl, _, _, _, [], _, [], hW', trodAll_mk1 (shut_bool Try.underlying4 _), (trodAll_cons_mk (Below.trod laidOut (by kernel_rfl) (of_decide_eq_true (by kernel_rfl)) k0 bel lt0) (trodAll_cons_mk (Below.trod laidOut (by kernel_rfl) (of_decide_eq_true (by kernel_rfl)) k1 bel lt1) trodAll_mk0)), rfl, bel.frame _, fun h => by cases h⟩
theorem over : Rows.critSumRow.holds Try.pinned (OpenSpec.ofChange Rows.critSumSpec) :=
  OpenClaim.holds_of_wide 3 Try.f3 rfl rfl rfl rfl rfl rfl rfl ⟨rfl, rfl, rfl, rfl, rfl⟩ rfl rfl rfl rfl rfl (by kernel_rfl) Try.func3 (by kernel_rfl)
    (of_decide_eq_true (by kernel_rfl)) (by unfold Func.isWrapper; first | (rw [if_pos (by decide +kernel)]; kernel_rfl) | (rw [if_neg (by decide +kernel)]; exact ⟨rfl, rfl⟩))
    (fun os started H enc _ => lifted os started H enc)

end Go.Proofs.Ytdgmndjofbdgeaa.csum
namespace Go.Proofs.Ytdgmndjofbdgeaa
theorem CritSum_holds : Rows.CritSumSaid := csum.over
end Go.Proofs.Ytdgmndjofbdgeaa
