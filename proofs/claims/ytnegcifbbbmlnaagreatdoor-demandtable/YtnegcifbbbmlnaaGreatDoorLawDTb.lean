/- Proved: for every network (greater ones than the law's Few lets in are let by): the flow ratios of all heads of all nodes, or the first error, are the document's. -/
import Derived.Test.YtnegcifbbbmlnaaGreatDoorDLaw
import Derived.Test.YtnegcifbbbmlnaaGreatDoorDAwk
import Derived.Test.YtnegcifbbbmlnaaGreatDoorDRfV
import Derived.Test.YtnegcifbbbmlnaaGreatDoorVFw2
import Derived.Test.YtnegcifbbbmlnaaGreatDoorVCl
import Derived.Test.YtnegcifbbbmlnaaGreatDoorCards
import Derived.Test.YtnegcifbbbmlnaaGreatDoorTie
import Derived.WalkKit
import Derived.ProofKit
import Derived.OpenShut
import Derived.ShutString
import Derived.ChangeOld
import Derived.ChangeMaps5
import Derived.Below
import Derived.Lib.SmallJoins
import Derived.SevenTiedAt
import Derived.LaidHandle
import Derived.LaidLaws
import Derived.LaidMore
import Derived.LaidOnce
import Derived.JoinedOf
import Derived.Stop.Joined
namespace Go.Proofs.YtnegcifbbbmlnaaGreatDoor
open Go.RowKit
set_option linter.unusedVariables false
set_option linter.unusedSimpArgs false
set_option maxRecDepth 10000
namespace S
/-- a number of a head -/
def hq (L : List (List D)) (i k j : Nat) : Int := fI (gt ((fL (gt (L.getD i []) 1)).getD k []) j)
def hqs (L : List (List D)) (i k : Nat) : ByteArray := sv (tS (gt ((fL (gt (L.getD i []) 1)).getD k []) 0))
def rX (L : List (List D)) (p q : Int) (i k : Nat) : Int := (W.ratF (hq L i k 1) (hq L i k 2) (hq L i k 3) (hq L i k 4) p q).1
def rY (L : List (List D)) (p q : Int) (i k : Nat) : Int := (W.ratF (hq L i k 1) (hq L i k 2) (hq L i k 3) (hq L i k 4) p q).2.1
def rZ (L : List (List D)) (p q : Int) (i k : Nat) : Int := (W.ratF (hq L i k 1) (hq L i k 2) (hq L i k 3) (hq L i k 4) p q).2.2
theorem head_in {ds : List D} (hs : ShL headT ds) : W.i64 (fI (gt ds 1)) ∧ W.i64 (fI (gt ds 2)) ∧ W.i64 (fI (gt ds 3)) ∧ W.i64 (fI (gt ds 4)) := by
  simp only [ShL, Sh1, headT] at hs
  obtain ⟨_, _, rfl, ⟨s0, rfl, _⟩, ⟨_, _, rfl, ⟨v1, rfl, b1⟩, ⟨_, _, rfl, ⟨v2, rfl, b2⟩, ⟨_, _, rfl, ⟨v3, rfl, b3⟩, ⟨_, _, rfl, ⟨v4, rfl, b4⟩, _⟩⟩⟩⟩⟩ := hs
  exact ⟨b1, b2, b3, b4⟩
theorem table_any {w w' : World} (a0 a1 a2 a3 a4 : Int) (aN : Option Addr) (cN : Nat) (aS : Option Addr) (nS cS : Nat) (a5 a6 : Int) (LN : List (List D)) (qN : ∀ ds ∈ LN, ShL nodeT ds) (mN : Rvss w aN 7 LN 0) (h3 : W.i64 a3) (h4 : W.i64 a4) (hp : LN.length ≤ 15 ∧ ∀ k, k < LN.length → sN w aN 7 1 k ≤ 50) (kk : Keep w w') :
    Calls Tryz.prog 5 #[.agg #[.int .i64 a0, .int .i64 a1, .int .i64 a2, .int .i64 a3, .int .i64 a4, .slice aN LN.length cN, .slice aS nS cS, .int .i64 a5, .int .i64 a6]] w' (W.Tq LN.length (sN w aN 7 1) (rX LN a3 a4) (rY LN a3 a4) (rZ LN a3 a4) w') := by
  refine W.table_core a0 a1 a2 a3 a4 aN LN.length cN aS nS cS a5 a6 (fun k => sv (tS (gt (LN.getD k []) 0))) (sA w aN 7 1) (sA w aN 7 2) (sA w aN 7 3) (sA w aN 7 4) (sA w aN 7 5) (sN w aN 7 1) (sC w aN 7 1) (sN w aN 7 2) (sC w aN 7 2) (sN w aN 7 3) (sC w aN 7 3) (sN w aN 7 4) (sC w aN 7 4) (sN w aN 7 5) (sC w aN 7 5) (fun k => fI (gt (LN.getD k []) 6)) _ _ _ w' (by omega) (hide fun k hk => ?_) (hide fun i hi w2 k2 => ?_)
  · obtain ⟨ad, e, hb, h⟩ := clNode kk qN mN k hk
    exact ⟨ad, e, Nat.lt_of_lt_of_le hb kk.size, h⟩
  · obtain ⟨r1, r2, r3, r4⟩ := (rsNode qN mN i hi).1
    have hn := hp.2 i hi
    refine W.ratios_core _ _ _ _ _ _ _ _ _ _ _ _ _ _ _ _ _ _ _ (hqs LN i) (fun j => hq LN i j 1) (fun j => hq LN i j 2) (fun j => hq LN i j 3) (fun j => hq LN i j 4) (fun j => hq LN i j 5) (fun j => hq LN i j 6) (fun j => hq LN i j 7) (fun j => hq LN i j 8) (fun j => hq LN i j 9) (fun j => hq LN i j 10) _ _ _ w2 (by omega) (hide fun j hj => ?_) (hide fun j hj w3 => ?_)
    · rw [r1] at hj
      obtain ⟨ad, e, hb, h⟩ := clHead (kk.trans k2) r4 r3 j hj
      exact ⟨ad, e, Nat.lt_of_lt_of_le hb (kk.trans k2).size, h⟩
    · rw [r1] at hj
      obtain ⟨i1, i2, i3, i4⟩ := head_in (r4 _ (at_mem hj))
      exact W.ratio_any _ _ _ _ _ _ _ i1 i2 i3 i4 h3 h4 w3
theorem rtable_any {w w' : World} (a0 a1 a2 a3 a4 : Int) (aN : Option Addr) (cN : Nat) (aS : Option Addr) (nS cS : Nat) (a5 a6 : Int) (LN : List (List D)) (qN : ∀ ds ∈ LN, ShL nodeT ds) (mN : Rvss w aN 7 LN 0) (h3 : W.i64 a3) (h4 : W.i64 a4) (hp : LN.length ≤ 15 ∧ ∀ k, k < LN.length → sN w aN 7 1 k ≤ 50) (kk : Keep w w') :
    Calls Tryz.prog 6 #[.agg #[.int .i64 a0, .int .i64 a1, .int .i64 a2, .int .i64 a3, .int .i64 a4, .slice aN LN.length cN, .slice aS nS cS, .int .i64 a5, .int .i64 a6]] w' (W.Tq LN.length (sN w aN 7 1) (rX LN a3 a4) (rY LN a3 a4) (rZ LN a3 a4) w') := by
  refine W.rtable_core a0 a1 a2 a3 a4 aN LN.length cN aS nS cS a5 a6 (sA w aN 7 1) (sN w aN 7 1) (sC w aN 7 1) (hqs LN) (fun i j => hq LN i j 1) (fun i j => hq LN i j 2) (fun i j => hq LN i j 3) (fun i j => hq LN i j 4) (fun i j => hq LN i j 5) (fun i j => hq LN i j 6) (fun i j => hq LN i j 7) (fun i j => hq LN i j 8) (fun i j => hq LN i j 9) (fun i j => hq LN i j 10) _ _ _ w' (by omega) (hide fun i hi => by have := hp.2 i hi; omega) (hide fun k hk => ?_) (hide fun i hi j hj => ?_) (hide fun i hi j hj w3 => ?_)
  · obtain ⟨ad, e, hb, _, h, _⟩ := clNode kk qN mN k hk
    exact ⟨ad, e, Nat.lt_of_lt_of_le hb kk.size, h⟩
  · obtain ⟨r1, r2, r3, r4⟩ := (rsNode qN mN i hi).1
    rw [r1] at hj
    obtain ⟨ad, e, hb, h⟩ := clHead kk r4 r3 j hj
    exact ⟨ad, e, Nat.lt_of_lt_of_le hb kk.size, h⟩
  · obtain ⟨r1, r2, r3, r4⟩ := (rsNode qN mN i hi).1
    rw [r1] at hj
    obtain ⟨i1, i2, i3, i4⟩ := head_in (r4 _ (at_mem hj))
    exact W.rratio_any _ _ _ _ _ _ _ i1 i2 i3 i4 h3 h4 w3
theorem dtable_walk {w : World} {ds : List D} {us : List Value} (hs : ShL netT ds) (hr : Rvs w ds us)
    (TA : ∀ w', Keep w w' → Calls Tryz.prog 7 #[] w' fun e w'' => e = .returned (.bool true) ∧ Keep w' w'') :
    Calls Tryz.prog 3 #[.agg us.toArray] w fun e w' => e = .returned (.bool true) ∧ Keep w w' := by
  simp only [ShL, Sh1, netT] at hs
  obtain ⟨_, _, rfl, ⟨a0, rfl, i0⟩, ⟨_, _, rfl, ⟨a1, rfl, i1⟩, ⟨_, _, rfl, ⟨a2, rfl, i2⟩, ⟨_, _, rfl, ⟨a3, rfl, i3⟩, ⟨_, _, rfl, ⟨a4, rfl, i4⟩, ⟨_, _, rfl, ⟨LN, rfl, bN, qN⟩, ⟨_, _, rfl, ⟨LS, rfl, bS, qS⟩, ⟨_, _, rfl, ⟨a5, rfl, i5⟩, ⟨_, _, rfl, ⟨a6, rfl, i6⟩, rfl⟩⟩⟩⟩⟩⟩⟩⟩⟩ := hs
  simp only [Rvs, Rv, dS, dI, dB] at hr
  obtain ⟨_, _, rfl, rfl, ⟨_, _, rfl, rfl, ⟨_, _, rfl, rfl, ⟨_, _, rfl, rfl, ⟨_, _, rfl, rfl, ⟨_, _, rfl, ⟨aN, cN, rfl, yN, mN⟩, ⟨_, _, rfl, ⟨aS, cS, rfl, yS, mS⟩, ⟨_, _, rfl, rfl, ⟨_, _, rfl, rfl, rfl⟩⟩⟩⟩⟩⟩⟩⟩⟩ := hr
  refine W.dtable_core a0 a1 a2 a3 a4 aN LN.length cN aS LS.length cS a5 a6 (sN w aN 7 1) (rX LN a3 a4) (rY LN a3 a4) (rZ LN a3 a4) (LN.length ≤ 15 ∧ ∀ k, k < LN.length → sN w aN 7 1 k ≤ 50) w (fun h => h) (hide fun w' k => ?_) (hide fun hp w' k => table_any _ _ _ _ _ _ _ _ _ _ _ _ LN qN mN i3 i4 hp k) (hide fun hp w' k => rtable_any _ _ _ _ _ _ _ _ _ _ _ _ LN qN mN i3 i4 hp k) (hide TA)
  have mN' := Rvss.keep k _ _ _ _ mN
  refine (few_any2 a0 a1 a2 a3 a4 aN cN aS cS a5 a6 LN LS qN qS mN' (Rvss.keep k _ _ _ _ mS)).mono ?_
  rintro e w'' ⟨b, rfl, hk, hp⟩
  refine ⟨b, rfl, hk, fun h => ⟨(hp h).1, fun j hj => ?_⟩⟩
  have e1 := (rsNode qN mN j hj).1.1
  have e2 := (rsNode qN mN' j hj).1.1
  have := (hp h).2 j hj
  omega
end S
end Go.Proofs.YtnegcifbbbmlnaaGreatDoor

namespace Go.Proofs.YtnegcifbbbmlnaaGreatDoor.dtbl
open Go.ChangeShapes Go.WideShapes Go.ChangeAt Go.RowKit Go.Joins
open Go.WideMaps Go.WideElems
set_option linter.unusedVariables false
set_option maxRecDepth 10000
theorem walk {w : World} {ds : List D} {us : List Value} (hs : ShL S.netT ds) (hr : Rvs w ds us) (ht : Tab w) : Calls Tryz.prog 3 #[.agg us.toArray] w fun e w' => e = .returned (.bool true) ∧ Below w.heap.size w w' :=
  S.dtable_walk hs hr (fun w' k => W.awake_any w' (ht.keep k))
theorem laidOut : laidOutB Tryz.prog = true := by kernel_rfl
theorem own : ownKnob Tryz.prog.godebug = none := by kernel_rfl
theorem tab_of {W : World} (h : laidMetH Tryz.prog Rows.demandTableRow.laid W) : Tab W := by
  have h' : laidMet Tryz.prog Rows.demandTableRow.laid W := h
  obtain ⟨g, t, cs, fuel, p, hg, ht, hv, hd⟩ := Lib.laidMet.reads h' (n := "internal/strconv.uint64pow10") (d := Rows.laid_internal_strconv_uint64pow10) (.tail _ (.tail _ (.head _)))
  have hg2 : Tryz.prog.globalNamed "internal/strconv.uint64pow10" = some 2 := by kernel_rfl
  obtain rfl : g = 2 := (Option.some.inj (hg2.symm.trans hg)).symm
  have ht2 : (Tryz.prog.globals[2]?).map (·.type) = some 150 := by kernel_rfl
  obtain rfl : t = 150 := (Option.some.inj (ht2.symm.trans ht)).symm
  have e : (Rows.laid_internal_strconv_uint64pow10 : DataW Unit) = Lib.tabData .u64 Lib.pow10Tab := by rfl
  rw [e] at hd
  have hc := Lib.cells_of_tab Tryz.underlying150 Tryz.underlying83 (by kernel_rfl) (by kernel_rfl) hd
  unfold Tab Lib.TabIs
  rw [hv, ← hc]
theorem door_met (os : Os) (args : Array Value) : laidMetH Tryz.prog Rows.demandTableRow.laid ((World.doorLaid Tryz.prog 24 os).forCall (fun _ _ => 0) ⟨#[], args, []⟩).memory :=
  laidMetH_of_parts3 (fuel := 8) (laidMet_of_run' 8 (by kernel_rfl) (by kernel_rfl)) (by kernel_rfl) (by kernel_rfl)
set_option maxHeartbeats 400000 in
set_option maxRecDepth 100000 in
theorem lifted (os : Os) (started : os.Started) (H : Type) (enc : TypeId × Value → H) :
    ReturnsInHanded {} Tryz.checked os 3 .any (fun w args => (Rows.demandTableSpec.pre enc Tryz.prog Tryz.f3 [] false w args ∧ laidMetH Tryz.prog Rows.demandTableRow.laid w) ∧ sizedMet enc Tryz.prog Tryz.f3 (OpenSpec.ofChange Rows.demandTableSpec) false w args)
      (Rows.demandTableSpec.post enc Tryz.prog Tryz.f3 false true false false) := by
  refine returnsInHanded_of_change_and (C := Tryz.checked) (X := fun w _ => laidMetH Tryz.prog Rows.demandTableRow.laid w) (fun _ _ _ hh h => h.of_heap hh) own started (by kernel_rfl) Tryz.func3
    (ChangeSpec.witness_shaped (enc := enc) (C := Tryz.checked) (os := os) (X := fun w _ => laidMetH Tryz.prog Rows.demandTableRow.laid w) false (World.doorLaid Tryz.prog 24 os) #[.agg #[.int .i64 0, .int .i64 0, .int .i64 0, .int .i64 0, .int .i64 0, .slice none 0 0, .slice none 0 0, .int .i64 0, .int .i64 0]] 8 rfl (World.shaped_of_RefB (by kernel_rfl) (by kernel_rfl)) (by kernel_rfl) (by kernel_rfl) (by kernel_rfl) (door_met os _)) ?_
  intro W base args ds gs before hval0 hW _ _ hL _
  have hval : ∀ (j : Nat) t v, Tryz.f3.params[j]? = some t → args[j]? = some v → Value.okWide Tryz.prog W .any base t v := hval0
  have hW' := hW
  obtain ⟨p, q, hA0, hV, rfl, hfz, hnd⟩ := hW
  have hA : DataW.TrodAll enc Tryz.prog W 0 (fun _ => true) true Tryz.f3.params.toList args.toList ds p := hA0
  rw [Tryz.params3] at hA hval
  obtain ⟨v0, vs0, d0, ds0, p0, q0, hargs, rfl, rfl, h0, r0⟩ := trodAll_cons hA
  obtain ⟨rfl, rfl, rfl⟩ := trodAll_nil r0
  obtain rfl : args = #[v0] := by cases args; simp_all
  obtain ⟨rfl, rfl⟩ := trodVars_none hV
  have k0 := h0
  have lt0 : ∀ x ∈ p0, x.block < W.heap.size := by obtain ⟨m, hm⟩ := k0; exact DataW.trod_lt m _ _ _ hm
  obtain ⟨es0, us0, rfl, s0, x0⟩ := open_struct Tryz.underlying27 S.net_desc (hval 0 27 v0 rfl rfl) h0
  clear h0
  clear hA0 hval0
  refine (walk s0 x0 (tab_of hL)).mono fun e W' ⟨he, bel⟩ => ?_
  subst he
  exact ⟨_, rfl, _, _, _, [], _, [], hW', trodAll_mk1 (shut_bool Tryz.underlying4 _), (trodAll_cons_mk (Below.trod laidOut (by kernel_rfl) (of_decide_eq_true (by kernel_rfl)) k0 bel lt0) trodAll_mk0), rfl, bel.frame _, fun h => by cases h⟩
theorem over : Rows.demandTableRow.holds Tryz.pinned (OpenSpec.ofChange Rows.demandTableSpec) :=
  OpenClaim.holds_of_wide 3 Tryz.f3 rfl rfl rfl rfl rfl rfl rfl ⟨rfl, rfl, rfl, rfl, rfl⟩ rfl rfl rfl rfl rfl (by kernel_rfl) Tryz.func3 (by kernel_rfl)
    (of_decide_eq_true (by kernel_rfl)) (by unfold Func.isWrapper; first | (rw [if_pos (by decide +kernel)]; kernel_rfl) | (rw [if_neg (by decide +kernel)]; exact ⟨rfl, rfl⟩))
    (fun os started H enc _ => lifted os started H enc)
theorem card : Claim7.holds Tryz.pinned (.plain (OpenSpec.ofChange Rows.demandTableSpec)) Rows.demandTableCard :=
  Claim7.holds_tied_plain_at .later [] [.data, .data, .data] true _ false
    over (fun _ h => by cases h) (by kernel_rfl) (fun _ h => by cases h) demandTable_row_tie rfl ⟨rfl, rfl⟩ (by kernel_rfl) rfl
    (fun f fn hf hfn => by
      obtain rfl : f = 3 := Option.some.inj ((show Tryz.prog.funcNamed Rows.demandTableRow.func = some 3 by kernel_rfl).symm.trans hf) |>.symm
      obtain rfl : fn = Tryz.f3 := (Option.some.inj (Tryz.func3.symm.trans hfn)).symm
      exact ⟨by kernel_rfl, fun j t ht => by
        rw [Tryz.params3] at ht
        have hm : t ∈ [27] := by simpa using Array.mem_of_getElem? ht
        have hall : ([27].all fun u => !Tryz.prog.wantsStandIn u) = true := by kernel_rfl
        exact (show Tryz.prog.wantsStandIn t = false by simpa using List.all_eq_true.1 hall t hm)⟩)
    (by kernel_rfl)

end Go.Proofs.YtnegcifbbbmlnaaGreatDoor.dtbl
namespace Go.Proofs.YtnegcifbbbmlnaaGreatDoor
theorem DemandTable_holds : Rows.DemandTableCardSaid := dtbl.card
end Go.Proofs.YtnegcifbbbmlnaaGreatDoor
