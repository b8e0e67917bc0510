/- NetParse: any bytes are the network that the document says, or the error that it says, at its place. For every text (those of more than 6000 bytes are let by) the law's call returns true, and the text reads behind it as it read before. -/
import Derived.Test.YtmplckdpddmifaaGreatDoorCards
import Derived.Test.YtmplckdpddmifaaGreatDoorTie
import Derived.Test.YtmplckdpddmifaaGreatDoorNAw
import Derived.Test.YtmplckdpddmifaaGreatDoorNWt
import Derived.Test.YtmplckdpddmifaaGreatDoorMTx
import Derived.Test.YtmplckdpddmifaaGreatDoorQParse
import Derived.Test.YtmplckdpddmifaaGreatDoorLApp
import Derived.Test.YtmplckdpddmifaaGreatDoorLOpn
import Derived.LaidLaws
import Derived.LaidHandle
import Derived.SevenTiedAt
namespace Go.Proofs.YtmplckdpddmifaaGreatDoor.par
open Go.ChangeShapes Go.WideShapes Go.ChangeAt Go.RowKit
open Go.WideMaps Go.WideElems
attribute [local go_sem ↓] Go.wp_at_zero Go.wp_at_succ
set_option linter.unusedVariables false
set_option linter.unusedSimpArgs false
set_option maxRecDepth 10000
theorem rparse_any (v : Value) (l : List UInt8) (w : World) (hl : l.length ≤ 65536) (h : By w v l) : Calls Tryz.prog 6 #[v] w (PQ (tr (N l)) (nE (N l)) (nP (N l)) w) := by
  have key : Calls Tryz.prog 6 #[v] w (Q.Pp (N l) w) := by
    cases hT : T l with
    | error x =>
      have eN : N l = .error (x.1, (x.2 : Int)) := by unfold N; rw [hT]
      rw [eN]
      refine Q.parse_err v x.1 x.2 w (by have := (T_err (e := x.1) (a := x.2) hT).1; simp; omega) (hide fun w' hk => (rtoks_any v l w' (by omega) (h.keep hk)).mono ?_)
      rw [hT]
      rintro e w2 ⟨v', rfl, _, _, hk2⟩
      exact ⟨v', rfl, hk2⟩
    | ok L =>
      have eN : N l = Q.fstE (pNet L) := by
        unfold N; rw [hT]
        show (match pNet L with | .error x => Except.error x | .ok (c, _) => Except.ok c) = _
        rcases pNet L with x | ⟨c, r⟩ <;> rfl
      rw [eN]
      refine Q.parse_ok v L w (hide (Q.T_wq hl hT)) (hide fun w' hk => ?_)
      have := rtoks_any v l w' (by omega) (h.keep hk)
      rwa [hT] at this
  refine key.mono ?_
  cases hN : N l with
  | error x =>
    rintro e w' ⟨hk, u0, u1, u2, u3, u4, a5, n5, c5, a6, n6, c6, u7, u8, rfl, rfl, rfl, rfl, rfl, rfl, rfl, rfl, rfl, rfl, rfl, rfl, rfl, rfl⟩
    exact ⟨hk, 0, 0, 0, 0, 0, none, 0, 0, none, 0, 0, 0, 0, rfl, z0_rv w'⟩
  | ok cs =>
    rintro e w' ⟨hk, u0, u1, u2, u3, u4, a5, n5, c5, a6, n6, c6, u7, u8, rfl, hr⟩
    exact ⟨hk, u0, u1, u2, u3, u4, a5, n5, c5, a6, n6, c6, u7, u8, rfl, Rds.rv _ _ _ hr⟩
set_option maxHeartbeats 1000000 in
theorem long (a : Option Addr) (n cap : Nat) (w : World) (hn : 6000 < n) : Calls Tryz.prog 3 #[.slice a n cap] w fun e w' => e = .returned (.bool true) ∧ w' = w := by
  have h : (6000 : Int) < (n : Int) := by omega
  go_enter Tryz.func3, Tryz.ntmps3
  go_wp2_with fail
  go_ret
  exact ⟨rfl, rfl⟩
set_option maxHeartbeats 8000000 in
theorem body (a : Option Addr) (n cap : Nat) (E P : Int) (cs : List D) (l : List UInt8) (w : World) (hn : n ≤ 6000) (hl : l.length = n) (hB : By w (.slice a n cap) l)
    (T1 : Hid (∀ w' v, Keep w w' → By w' v l → Calls Tryz.prog 5 #[v] w' (PQ cs E P w')))
    (T2 : Hid (∀ w', Keep w w' → Calls Tryz.prog 6 #[.slice a n cap] w' (PQ cs E P w')))
    (T4 : Hid (∀ w' us vs, Rvs w' cs us → Rvs w' cs vs → Calls Tryz.prog 7 #[.agg us.toArray, .agg vs.toArray, .bool true] w' fun e w'' => e = .returned (.bool true) ∧ Keep w' w''))
    (T5 : Hid (∀ w', Keep w w' → Calls Tryz.prog 8 #[] w' fun e w'' => e = .returned (.bool true) ∧ Keep w' w'')) :
    Calls Tryz.prog 3 #[.slice a n cap] w fun e w' => e = .returned (.bool true) ∧ Keep w w' := by
  have h : ¬ (6000 : Int) < (n : Int) := by omega
  have eE : (E == E) = true := by simp
  have eP : (P == P) = true := by simp
  have HBY := hide hB
  have HLN := hide hl
  have HNN := hide hn
  clear hB hl hn
  go_enter Tryz.func3, Tryz.ntmps3
  have hrow0 := hide (World.ownsRow_made (base := w.heap.size) (e := 5) (size := 1) w #[] 0 (Nat.le_refl _) (Nat.zero_le _) rfl)
  have k0 := hide ((Keep.refl w).alloc (.cells #[] 5))
  have HB2 := hide ((uq HBY).keep (uq k0))
  go_wp2_with (at_builtin; refine wpList_append_by _ rfl _ _ 22 rfl w.heap.size Tryz.underlying22 _ [] rfl (uq hrow0) _ l rfl (uq HB2) (by have := uq HLN; have := uq HNN; simp; omega) (by simp) ?_; intro v' w1 hown hgrow; have HBA := hide (by_own hown); have k1 := hide (Below.grown (uq k0) hgrow (by simp) (fun j ej => ((uq hrow0).lt j ej).1)); clear hown hgrow)
  simp only [List.nil_append] at HBA
  (refine ((uq T1) _ _ (uq k1) (uq HBA)).mono ?_; rintro e w4 ⟨hk, a0, a1, a2, a3, a4, aN, nN, cN, aS, nS, cS, a5, a6, rfl, hr⟩; have HK4 := hide (Keep.trans (uq k1) hk); have HR := hide hr; clear hk hr)
  clear k0 HB2 hrow0 k1 HBA
  go_upto_region 4 with fail
  have n1 := heap_alloc_new w4 (.cells #[.int .i64 a0, .int .i64 a1, .int .i64 a2, .int .i64 a3, .int .i64 a4, .slice aN nN cN, .slice aS nS cS, .int .i64 a5, .int .i64 a6] 28)
  have HK5 := hide ((uq HK4).alloc (.cells #[.int .i64 a0, .int .i64 a1, .int .i64 a2, .int .i64 a3, .int .i64 a4, .slice aN nN cN, .slice aS nS cS, .int .i64 a5, .int .i64 a6] 28))
  have HR5 := hide (Rvs.keep ((Keep.refl w4).alloc (.cells #[.int .i64 a0, .int .i64 a1, .int .i64 a2, .int .i64 a3, .int .i64 a4, .slice aN nN cN, .slice aS nS cS, .int .i64 a5, .int .i64 a6] 28)) _ _ (uq HR))
  generalize w4.alloc (.cells #[.int .i64 a0, .int .i64 a1, .int .i64 a2, .int .i64 a3, .int .i64 a4, .slice aN nN cN, .slice aS nS cS, .int .i64 a5, .int .i64 a6] 28) = w5 at n1 HK5 HR5 ⊢
  generalize w4.heap.size = xb at n1 ⊢
  have N1 := hide n1
  clear n1 HK4 HR
  go_wp2_with fail
  (refine ((uq T2) _ (uq HK5)).mono ?_; rintro e w6 ⟨hk, b0, b1, b2, b3, b4, bN, mN, dN, bS, mS, dS, b5, b6, rfl, hr⟩; have HX7 := hide hk; have HR7 := hide hr; clear hk hr)
  go_upto_region 5 with fail
  have n2 := heap_alloc_new w6 (.cells #[.int .i64 b0, .int .i64 b1, .int .i64 b2, .int .i64 b3, .int .i64 b4, .slice bN mN dN, .slice bS mS dS, .int .i64 b5, .int .i64 b6] 28)
  have HX8 := hide ((uq HX7).alloc (.cells #[.int .i64 b0, .int .i64 b1, .int .i64 b2, .int .i64 b3, .int .i64 b4, .slice bN mN dN, .slice bS mS dS, .int .i64 b5, .int .i64 b6] 28))
  have HR8 := hide (Rvs.keep ((Keep.refl w6).alloc (.cells #[.int .i64 b0, .int .i64 b1, .int .i64 b2, .int .i64 b3, .int .i64 b4, .slice bN mN dN, .slice bS mS dS, .int .i64 b5, .int .i64 b6] 28)) _ _ (uq HR7))
  generalize w6.alloc (.cells #[.int .i64 b0, .int .i64 b1, .int .i64 b2, .int .i64 b3, .int .i64 b4, .slice bN mN dN, .slice bS mS dS, .int .i64 b5, .int .i64 b6] 28) = w8 at n2 HX8 HR8 ⊢
  generalize w6.heap.size = yb at n2 ⊢
  have n1 := ((uq HX8).block xb (by rcases Nat.lt_or_ge xb w5.heap.size with h | h; exact h; have := uq N1; rw [Array.getElem?_eq_none h] at this; cases this)).trans (uq N1)
  have HS8 := hide ((uq T4) w8 _ _ (Rvs.keep (uq HX8) _ _ (uq HR5)) (uq HR8))
  have HK8 := hide ((uq HK5).trans (uq HX8))
  have ca0 : w8.cell? ⟨xb, 0, none⟩ = some (.int .i64 a0) := by simp [World.cell?, n1]
  have cb0 : w8.cell? ⟨yb, 0, none⟩ = some (.int .i64 b0) := by simp [World.cell?, n2]
  have ca1 : w8.cell? ⟨xb, 1, none⟩ = some (.int .i64 a1) := by simp [World.cell?, n1]
  have cb1 : w8.cell? ⟨yb, 1, none⟩ = some (.int .i64 b1) := by simp [World.cell?, n2]
  have ca2 : w8.cell? ⟨xb, 2, none⟩ = some (.int .i64 a2) := by simp [World.cell?, n1]
  have cb2 : w8.cell? ⟨yb, 2, none⟩ = some (.int .i64 b2) := by simp [World.cell?, n2]
  have ca3 : w8.cell? ⟨xb, 3, none⟩ = some (.int .i64 a3) := by simp [World.cell?, n1]
  have cb3 : w8.cell? ⟨yb, 3, none⟩ = some (.int .i64 b3) := by simp [World.cell?, n2]
  have ca4 : w8.cell? ⟨xb, 4, none⟩ = some (.int .i64 a4) := by simp [World.cell?, n1]
  have cb4 : w8.cell? ⟨yb, 4, none⟩ = some (.int .i64 b4) := by simp [World.cell?, n2]
  have ca5 : w8.cell? ⟨xb, 5, none⟩ = some (.slice aN nN cN) := by simp [World.cell?, n1]
  have cb5 : w8.cell? ⟨yb, 5, none⟩ = some (.slice bN mN dN) := by simp [World.cell?, n2]
  have ca6 : w8.cell? ⟨xb, 6, none⟩ = some (.slice aS nS cS) := by simp [World.cell?, n1]
  have cb6 : w8.cell? ⟨yb, 6, none⟩ = some (.slice bS mS dS) := by simp [World.cell?, n2]
  have ca7 : w8.cell? ⟨xb, 7, none⟩ = some (.int .i64 a5) := by simp [World.cell?, n1]
  have cb7 : w8.cell? ⟨yb, 7, none⟩ = some (.int .i64 b5) := by simp [World.cell?, n2]
  have ca8 : w8.cell? ⟨xb, 8, none⟩ = some (.int .i64 a6) := by simp [World.cell?, n1]
  have cb8 : w8.cell? ⟨yb, 8, none⟩ = some (.int .i64 b6) := by simp [World.cell?, n2]
  clear n1 n2 N1 HX7 HR7 HX8 HR8 HR5 HK5
  go_wp2_with fail
  (refine (uq HS8).mono ?_; rintro e w9 ⟨rfl, hk⟩; have HK9 := hide ((uq HK8).trans hk); clear hk)
  go_wp2_with fail
  (refine ((uq T5) _ (uq HK9)).mono ?_; rintro e w10 ⟨rfl, hk⟩; have HK10 := hide ((uq HK9).trans hk); clear hk)
  go_wp2_with fail
  go_ret
  exact ⟨rfl, uq HK10⟩
theorem walk (v : Value) (l : List UInt8) (w : World) (h : By w v l) (hg : Gl w) : Calls Tryz.prog 3 #[v] w fun e w' => e = .returned (.bool true) ∧ Below w.heap.size w w' := by
  obtain ⟨a, cap, rfl⟩ := h.shape
  by_cases hl : 6000 < l.length
  · refine (long a l.length cap w hl).mono ?_
    rintro e w' ⟨rfl, rfl⟩
    exact ⟨rfl, Keep.refl _⟩
  · refine body a l.length cap (nE (N l)) (nP (N l)) (tr (N l)) l w (by omega) rfl h (hide fun w' v hk hb => pq_of (parse_any v l w' (by omega) hb (hg.keep hk))) (hide fun w' hk => rparse_any _ l w' (by omega) (h.keep hk)) (hide fun w' us vs h1 h2 => ?_) (hide fun w' hk => awake_any w' (hg.keep hk))
    obtain ⟨r, hr, hc⟩ := same_tree_true (tr_sh l) (tr_sh l) h1 h2
    have := hc w' (Keep.refl _)
    rw [hr.2 rfl] at this
    exact this
theorem laidOut : laidOutB Tryz.prog = true := by kernel_rfl
theorem own : ownKnob Tryz.prog.godebug = none := by kernel_rfl
theorem et : Tryz.prog.globalNamed "errors.errorType" = some 0 := by kernel_rfl
theorem rt : (Tryz.prog.cutTypes.find? (·.1 == "internal/reflectlite.rtype")).map (·.2) = some 132 := by kernel_rfl
theorem oneRow : ((List.range 224).filter fun t => Tryz.prog.rowNamed t [101, 114, 114, 111, 114]) = [40] := by kernel_rfl
theorem tsize : Tryz.prog.types.size = 224 := by kernel_rfl
theorem gl_of {W : World} (h : laidMetH Tryz.prog Rows.netParseRow.laid W) : Gl W := by
  have h' : laidMet Tryz.prog [] W ∧ handlesMet Tryz.prog Rows.netParseRow.laid W := h
  obtain ⟨name, u, ty, e1, e2, e3, e4, e5⟩ := h'.2 _ (List.mem_singleton.2 rfl)
  have en : name = [101, 114, 114, 111, 114] := (Option.some.inj e1).symm
  subst en
  obtain rfl := Option.some.inj (rt.symm.trans e2)
  have hm : ty ∈ (List.range 224).filter fun t => Tryz.prog.rowNamed t [101, 114, 114, 111, 114] := List.mem_filter.2 ⟨List.mem_range.2 (by rw [← tsize]; exact e3), e4⟩
  rw [oneRow] at hm
  obtain rfl := List.mem_singleton.1 hm
  have hh : typeHandle Tryz.prog 40 = .pointer (some ⟨1, 40, none⟩) := by kernel_rfl
  rw [hh] at e5
  simpa [Gl] using World.var?_cell et e5 0
noncomputable def laidWorld (os : Os) : World :=
  let w0 := World.holding Tryz.prog os ⟨#[], #[], []⟩
  { w0 with heap := w0.heap.modify 0 fun
      | .cells _ t frozen => .cells #[.iface 132 (.agg #[.pointer (some ⟨1, 40, none⟩)])] t frozen
      | o => o }
theorem laidWorld_met (os : Os) (args : Array Value) : laidMetH Tryz.prog Rows.netParseRow.laid ((laidWorld os).forCall (fun _ _ => 0) ⟨#[], args, []⟩).memory :=
  laidMetH_of_parts (laidMet_nil _ _) (by kernel_rfl)
set_option maxHeartbeats 400000 in
set_option maxRecDepth 100000 in
theorem lifted (os : Os) (started : os.Started) (H : Type) (enc : TypeId × Value → H) :
    ReturnsInHanded {} Tryz.checked os 3 .any (fun w args => (Rows.netParseSpec.pre enc Tryz.prog Tryz.f3 [] false w args ∧ laidMetH Tryz.prog Rows.netParseRow.laid w) ∧ sizedMet enc Tryz.prog Tryz.f3 (OpenSpec.ofChange Rows.netParseSpec) false w args)
      (Rows.netParseSpec.post enc Tryz.prog Tryz.f3 false true false false) := by
  refine returnsInHanded_of_change_and (C := Tryz.checked) (X := fun w _ => laidMetH Tryz.prog Rows.netParseRow.laid w) (fun _ _ _ hh h => h.of_heap hh) own started (by kernel_rfl) Tryz.func3
    (ChangeSpec.witness_at (enc := enc) (C := Tryz.checked) (os := os) (X := fun w _ => laidMetH Tryz.prog Rows.netParseRow.laid w) false (laidWorld os) #[.slice none 0 0] 8 rfl (by kernel_rfl) (by kernel_rfl) (by kernel_rfl) (by kernel_rfl) (by kernel_rfl) (laidWorld_met os _)) ?_
  intro W base args ds gs before hval0 hW _ _ hL _
  have hval : ∀ (j : Nat) t v, Tryz.f3.params[j]? = some t → args[j]? = some v → Value.okWide Tryz.prog W .any base t v := hval0
  have hW' := hW
  obtain ⟨p, q, hA0, hV, rfl, hfz, hnd⟩ := hW
  have hA : DataW.TrodAll enc Tryz.prog W 0 (fun _ => true) true Tryz.f3.params.toList args.toList ds p := hA0
  rw [Tryz.params3] at hA hval
  obtain ⟨v0, vs0, d0, ds0, p0, q0, hargs, rfl, rfl, h0, r0⟩ := trodAll_cons hA
  obtain ⟨rfl, rfl, rfl⟩ := trodAll_nil r0
  obtain rfl : args = #[v0] := by cases args; simp_all
  obtain ⟨rfl, rfl⟩ := trodVars_none hV
  have k0 := h0
  have lt0 : ∀ x ∈ p0, x.block < W.heap.size := by obtain ⟨m, hm⟩ := k0; exact DataW.trod_lt m _ _ _ hm
  obtain ⟨L0, w0⟩ := open_bytes Tryz.underlying22 Tryz.underlying5 (by kernel_rfl) (hval 0 22 v0 rfl rfl) h0
  clear h0
  clear hA0 hval0
  refine (walk v0 L0 W w0 (gl_of hL)).mono fun e W' ⟨he, bel⟩ => ?_
  subst he
  exact ⟨_, rfl, _, _, _, [], _, [], hW', trodAll_mk1 (shut_bool Tryz.underlying4 _), (trodAll_cons_mk (Below.trod laidOut (by kernel_rfl) (of_decide_eq_true (by kernel_rfl)) k0 bel lt0) trodAll_mk0), rfl, bel.frame _, fun h => by cases h⟩
theorem over : Rows.netParseRow.holds Tryz.pinned (OpenSpec.ofChange Rows.netParseSpec) :=
  OpenClaim.holds_of_wide 3 Tryz.f3 rfl rfl rfl rfl rfl rfl rfl ⟨rfl, rfl, rfl, rfl, rfl⟩ rfl rfl rfl rfl rfl (by kernel_rfl) Tryz.func3 (by kernel_rfl)
    (of_decide_eq_true (by kernel_rfl)) (by unfold Func.isWrapper; first | (rw [if_pos (by decide +kernel)]; kernel_rfl) | (rw [if_neg (by decide +kernel)]; exact ⟨rfl, rfl⟩))
    (fun os started H enc _ => lifted os started H enc)
theorem card : Claim7.holds Tryz.pinned (.plain (OpenSpec.ofChange Rows.netParseSpec)) Rows.netParseCard :=
  Claim7.holds_tied_plain_at .later [] [.handle] true _ true
    over (fun _ h => by cases h) (by kernel_rfl) (fun _ h => by cases h) netParse_row_tie rfl ⟨rfl, rfl⟩ (by kernel_rfl) rfl
    (fun f fn hf hfn => by
      obtain rfl : f = 3 := Option.some.inj ((show Tryz.prog.funcNamed Rows.netParseRow.func = some 3 by kernel_rfl).symm.trans hf) |>.symm
      obtain rfl : fn = Tryz.f3 := (Option.some.inj (Tryz.func3.symm.trans hfn)).symm
      exact ⟨by kernel_rfl, fun j t ht => by
        rw [Tryz.params3] at ht
        have hm : t ∈ [22] := by simpa using Array.mem_of_getElem? ht
        have hall : ([22].all fun u => !Tryz.prog.wantsStandIn u) = true := by kernel_rfl
        exact (show Tryz.prog.wantsStandIn t = false by simpa using List.all_eq_true.1 hall t hm)⟩)
    (by kernel_rfl)

end Go.Proofs.YtmplckdpddmifaaGreatDoor.par
namespace Go.Proofs.YtmplckdpddmifaaGreatDoor
theorem NetParse_holds : Rows.NetParseCardSaid := par.card
end Go.Proofs.YtmplckdpddmifaaGreatDoor
