/- The library's iterator over a slice, at pieces. -/
import Derived.Test.YtcllijjmjmfedaaCRow
import Derived.RangeFuncBox
import Derived.RangeFuncNested
import Derived.RangeFuncBound
import Derived.RangeFuncCalls
import Derived.RangeFuncLeaves
import Derived.Shelf.Abstract
import Derived.Shelf.RegionOpen
import Derived.WalkKit
import Derived.OwnWalkIn
import Derived.TacticsInMore
import Derived.LoopNIn
import Derived.LoopIn
import Derived.Maps.AppendAt
namespace Go.Proofs.Ytcllijjmjmfedaa
open Go.RowKit Go.Shelf
attribute [local go_sem] Oper.semAt_some
set_option linter.unusedVariables false
set_option linter.unusedSimpArgs false
/-- a region that draws its order and never panics, met in a fence that asks nothing -/
def OnlyN (Q : Exit → Act → World → Prop) : Exit → Act → World → Prop
  | .normal, a, w => Q .normal a w
  | _, _, _ => False
theorem OnlyN.imp {Q : Exit → Act → World → Prop} : ∀ e a w, OnlyN Q e a w → Q e a w
  | .normal, _, _, h => h
  | .exit _, _, _, h => h.elim
  | .goto _, _, _, h => h.elim
  | .ret, _, _, h => h.elim
  | .panic _, _, _, h => h.elim
  | .outgrown, _, _, h => h.elim
theorem wpIn_drawn {n : Nat} {P : Program} {c : Code} {Q : Exit → Act → World → Prop} {a : Act} {w : World} (h : c.wp P (OnlyN Q) a w) : c.wpIn Fence.wide n P Q a w :=
  wpIn_mono (wpIn_wide.2 h) OnlyN.imp
/-- a piece: its numbers rise -/
abbrev Pc := { p : Pr // 0 ≤ p.1 ∧ p.1 < p.2 ∧ p.2 ≤ 9223372036854775807 }
def ev (x : Pc) : Array Value := #[.agg #[.int .i64 x.1.1, .int .i64 x.1.2]]
def vals (l : List Pc) : List Pr := l.map Subtype.val
/-- each of them is a piece -/
def Pcs (L : List Pr) : Prop := ∀ p, p ∈ L → 0 ≤ p.1 ∧ p.1 < p.2 ∧ p.2 ≤ 9223372036854775807
theorem vals_snoc (l : List Pc) (x : Pc) : vals (l ++ [x]) = vals l ++ [x.1] := by simp [vals]
theorem pcs_ok' {c : Int} (hc : c ≤ 9223372036854775807) {L : List Pr} (h : Ok c L) : Pcs L := fun p hp => by have := h p hp; omega
theorem pcs_inp {L : List Pr} (h : Pcs L) : ∀ p, p ∈ L → InP p := fun p hp => by have := h p hp; unfold InP In; omega
theorem take_snoc {L : List Pr} {k : Nat} (h : k < L.length) : L.take (k + 1) = L.take k ++ [L.getD k (0, 0)] := by
  rw [List.take_add_one, List.getD_eq_getElem?_getD, List.getElem?_eq_getElem h]
  rfl
theorem getD_mem {L : List Pr} {k : Nat} (h : k < L.length) : L.getD k (0, 0) ∈ L := by
  rw [List.getD_eq_getElem?_getD, List.getElem?_eq_getElem h]
  exact List.getElem_mem h
set_option maxRecDepth 100000 in
set_option maxHeartbeats 2000000 in
theorem values1_in (n : Nat) (l Bs n₀ : Nat) (v : Value) (L : List Pr) (hP : Pcs L) (J Jx : List Pc → World → Prop)
    (W : World) (hJ : AbidesFrom W.heap.size J)
    (hY : ∀ pre x W1, J pre W1 → pre.length < L.length → YieldAt Fence.wide (n - 1) Try.prog l (ev x) W1 fun e W' =>
      (e = .returned (.bool true) ∧ J (pre ++ [x]) W' ∧ Below n₀ W1 W') ∨ (e = .returned (.bool false) ∧ Jx (pre ++ [x]) W'))
    (hn : n₀ ≤ W.heap.size) (hBs : W.cell? ⟨Bs, 0, none⟩ = some v) (hR : Rb n₀ W v L) (hl : L.length ≤ 100000) (h0 : J [] W) :
    CallsIn Fence.wide n Try.prog 32 #[.func (.yield l) #[] #[], .pointer (some ⟨Bs, 0, none⟩)] W fun e W' => (∃ v, e = .returned v) ∧
      ((∃ ys, vals ys = L ∧ J ys W') ∨ (∃ pre, True ∧ Jx pre W')) := by
  have HR := hide hR
  obtain ⟨a, cap, rfl, hcap, hc⟩ := hR
  have HC := hide hc
  clear hc
  refine callsIn_of_wp Try.func32 rfl trivial ?_ rfl
  simp only [Try.ntmps32, List.size_toArray, List.length_cons, List.length_nil, Nat.reduceAdd, Nat.reduceSub, Array.replicate_succ, Array.replicate_zero, List.push_toArray, List.append_toArray, List.nil_append, List.cons_append]
  gi_wp2
  gi_loopw [7] (fun i wr => ∃ (k : Nat) (pre : List Pc), k ≤ L.length ∧ i = .int .i64 k ∧ vals pre = L.take k ∧ J pre wr ∧ Below n₀ W wr ∧ W.heap.size ≤ wr.heap.size)
    (fun i _ => L.length - (intOf i).toNat)
  case atStart => exact ⟨0, [], Nat.zero_le _, rfl, by simp [vals], h0, Below.refl _ _, Nat.le_refl _⟩
  case round =>
    obtain ⟨k, pre, hk, rfl, hv, hJs, hnx, hsz⟩ := hrel
    by_cases hlt : k < L.length
    · obtain ⟨ad, rfl, hb, hi, c0, c1⟩ := (unhide HC) k hlt
      rw [← Below.cell hnx (by rw [add_block]; exact hb)] at c0
      rw [← Below.cell (p := ⟨(ad.add (k * 2)).block, (ad.add (k * 2)).off + 1, none⟩) hnx (by show (ad.add (k * 2)).block < _; rw [add_block]; exact hb)] at c1
      have hx := hP _ (getD_mem hlt)
      have ht := take_snoc hlt
      generalize L.getD k (0, 0) = p at *
      obtain ⟨x, y⟩ := p
      have hpl : pre.length = k := by have := congrArg List.length hv; simpa [vals, Nat.min_eq_left hk] using this
      have hJa : ∀ o, J pre (wr.alloc o) := fun o => hJ pre wr _ none hJs (World.grownBy_alloc wr o none) (fun r e => by cases e)
      obtain ⟨fn, tmps, assign, body, hy, hRo⟩ := hY pre ⟨(x, y), hx⟩ (wr.alloc (.cells #[.int .i64 x, .int .i64 y] 45)) (hJa _) (by omega)
      dsimp only [ev] at hy
      have HV : Hid (vals (pre ++ [⟨(x, y), hx⟩]) = L.take (k + 1)) := hide (by rw [vals_snoc, hv, ht])
      have HB2 : Hid (Below n₀ wr (wr.alloc (.cells #[.int .i64 x, .int .i64 y] 45))) := hide ((Below.refl _ _).alloc (by omega) _)
      simp only at c0 c1
      clear ht hJa
      gi_wp2
      refine ⟨fun h => (by simp [Fence.wide] at h), hRo.mono ?_⟩
      rintro e W3 (⟨rfl, hJ3, hk3⟩ | ⟨rfl, hJx3⟩)
      · gi_wp2
        go_roundw
        case rel => exact ⟨k + 1, _, by omega, by simp, unhide HV, hJ3, hnx.trans ((unhide HB2).trans hk3), by have := hk3.size; simp at this; omega⟩
        case measure => simp [intOf]; omega
      · gi_wp2
        refine bodyPost_ret (results_none rfl _ _ _) rfl ?_
        exact ⟨⟨_, rfl⟩, .inr ⟨_, trivial, hJx3⟩⟩
    · obtain rfl : k = L.length := by omega
      gi_wp2
      go_end0
      exact ⟨⟨_, rfl⟩, .inl ⟨pre, by rw [hv, List.take_length], hJs⟩⟩
set_option maxHeartbeats 1000000 in
theorem values_new (a : Option Addr) (m cap : Nat) (w : World) :
    Calls Try.prog 23 #[.slice a m cap] w fun e w' => e = .returned (.func (.func 32) #[] #[.pointer (some ⟨w.heap.size, 0, none⟩)]) ∧ w' = w.alloc (.cells #[.slice a m cap] 42) := by
  go_enter Try.func23, Try.ntmps23
  go_wp2
  go_ret
  exact ⟨rfl, rfl⟩
/-- an iterator that gives the pieces L, whatever each round does with new blocks -/
def Sq (w : World) (fv : Value) (L : List Pr) : Prop := ∃ gf lb, fv = .func (.func gf) #[] lb ∧ (∀ args w, (callFunc gf args).run Try.prog w = .ok (.enter gf args) w) ∧
  ∀ n, SeqStopsK Fence.wide n Try.prog gf lb ev (Below w.heap.size) (fun ys => vals ys = L) (fun _ => True) L.length w
theorem values_any (v : Value) (L : List Pr) (w : World) (hR : Rs w v L) (hP : Pcs L) (hl : L.length ≤ 100000) :
    Calls Try.prog 23 #[v] w fun e w' => ∃ fv, e = .returned fv ∧ Sq w' fv L ∧ Keep w w' := by
  obtain ⟨a, cap, hv⟩ : ∃ a cap, v = .slice a L.length cap := by obtain ⟨a, cap, h, _⟩ := hR; exact ⟨a, cap, h⟩
  subst hv
  refine (values_new a _ cap w).mono ?_
  rintro e w' ⟨rfl, rfl⟩
  have hk : Keep w (w.alloc (.cells #[.slice a L.length cap] 42)) := (Keep.refl w).alloc _
  refine ⟨_, rfl, ⟨_, _, rfl, enters_of Try.func32 (by kernel_rfl) rfl, fun n l J Jx W hW hJ hJx hY h0 => ?_⟩, hk⟩
  have hc : (w.alloc (.cells #[.slice a L.length cap] 42)).cell? ⟨w.heap.size, 0, none⟩ = some (.slice a L.length cap) := (Boxed.new w 42 (.slice a L.length cap)).cell
  have hR' : Rs (w.alloc (.cells #[.slice a L.length cap] 42)) (.slice a L.length cap) L := hR.keep hk
  exact values1_in n l w.heap.size _ _ L hP J Jx W hJ hY hW.size ((hW.cell (p := ⟨w.heap.size, 0, none⟩) (by simp)).trans hc) (Rb.below hR' hW (Nat.le_refl _)) hl h0
end Go.Proofs.Ytcllijjmjmfedaa
