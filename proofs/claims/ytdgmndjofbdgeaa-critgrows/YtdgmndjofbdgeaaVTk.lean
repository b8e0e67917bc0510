/- Package valid: a node, by its tree. -/
import Derived.Test.YtdgmndjofbdgeaaVCl
import Derived.Deep.DrawnRows
import Derived.Deep.RegionHeld3
import Derived.Test.YtdgmndjofbdgeaaVHd
import Derived.Maps.OwnOps
import Derived.Maps.AppendAt
import Derived.Test.YtdgmndjofbdgeaaLToks
import Derived.LoopTactic
import Derived.Defers
import Derived.Recover
namespace Go.Proofs.Ytdgmndjofbdgeaa
open Go.RowKit
set_option linter.unusedVariables false
set_option linter.unusedSimpArgs false
set_option maxRecDepth 10000
namespace V
open S
/-- of a row's things: the name; the j-th number; how long the j-th row is; the names of the j-th row -/
def tn (L : List (List D)) (k : Nat) : List UInt8 := tS (S.gt (L.getD k []) 0)
def iv (L : List (List D)) (j k : Nat) : Int := fI (S.gt (L.getD k []) j)
def sub (L : List (List D)) (j k : Nat) : List (List D) := fL (S.gt (L.getD k []) j)
def ln (L : List (List D)) (j k : Nat) : Nat := (sub L j k).length
theorem mem_at {L : List (List D)} {k : Nat} (hk : k < L.length) : L.getD k [] ∈ L := by rw [List.getD_eq_getElem?_getD, List.getElem?_eq_getElem hk]; exact List.getElem_mem hk
theorem clName {w : World} {a : Option Addr} {L : List (List D)} (hL : ∀ ds ∈ L, ShL nameT ds) (HA : Rvss w a 1 L 0) (k : Nat) (hk : k < L.length) : ∃ ad, a = some ad ∧ ad.block < w.heap.size ∧ w.cell? (ad.add k) = some (.string (sv (tn L k))) ∧ (tn L k).length ≤ maxLen := by
  obtain ⟨ad, us, rfl, hb, h1, h2, h3⟩ := rvss_at L 0 HA k hk
  have hs := hL _ (mem_at hk)
  unfold tn
  generalize L.getD k [] = ds at h1 hs ⊢
  simp only [ShL, Sh1, nameT] at hs
  obtain ⟨_, _, rfl, ⟨s0, rfl, hl⟩, rfl⟩ := hs
  simp only [Rvs, Rv, dS] at h1
  obtain ⟨_, _, rfl, rfl, rfl⟩ := h1
  have := h3 0 _ rfl
  rw [Nat.zero_add, Nat.mul_one] at this
  exact ⟨ad, rfl, hb, this, hl⟩
end V
end Go.Proofs.Ytdgmndjofbdgeaa

namespace Go.Proofs.Ytdgmndjofbdgeaa
open Go.RowKit
set_option linter.unusedVariables false
set_option linter.unusedSimpArgs false
set_option maxRecDepth 10000
namespace V
open S
theorem row_len {L : List (List D)} (hL : ∀ ds ∈ L, ShL rowT ds) (k : Nat) (hk : k < L.length) : ln L 1 k ≤ maxLen := by
  have hs := hL _ (mem_at hk)
  unfold ln sub
  generalize L.getD k [] = ds at hs ⊢
  simp only [ShL, Sh1, rowT] at hs
  obtain ⟨_, _, rfl, _, ⟨_, _, rfl, ⟨L1, rfl, hl, _⟩, _⟩⟩ := hs
  exact hl
end V
end Go.Proofs.Ytdgmndjofbdgeaa

namespace Go.Proofs.Ytdgmndjofbdgeaa
open Go.RowKit
attribute [local go_sem ↓] Go.wp_at_zero Go.wp_at_succ
set_option linter.unusedVariables false
set_option linter.unusedSimpArgs false
set_option maxRecDepth 10000
theorem sv_list (l : List UInt8) : (sv l).toList = l := ByteArray.toList_mk l
end Go.Proofs.Ytdgmndjofbdgeaa

namespace Go.Proofs.Ytdgmndjofbdgeaa
open Go.RowKit
set_option linter.unusedVariables false
set_option linter.unusedSimpArgs false
set_option maxRecDepth 10000
namespace V
/-- the first k from there on that is so; -1 if none is -/
def ix (B : Nat → Bool) : Nat → Nat → Int
  | _, 0 => -1
  | k, m + 1 => if B k then (k : Int) else ix B (k + 1) m
theorem ix_yes {B : Nat → Bool} {k n : Nat} {r : Int} (h : ix B k (n - k) = r) (hk : k < n) (hb : B k = true) : r = (k : Int) := by
  rw [show n - k = (n - (k + 1)) + 1 by omega, ix, if_pos hb] at h; exact h.symm
theorem ix_no {B : Nat → Bool} {k n : Nat} {r : Int} (h : ix B k (n - k) = r) (hk : k < n) (hb : B k = false) : ix B (k + 1) (n - (k + 1)) = r := by
  rw [show n - k = (n - (k + 1)) + 1 by omega, ix, if_neg (by rw [hb]; decide)] at h; exact h
theorem ix_end {B : Nat → Bool} {k n : Nat} {r : Int} (h : ix B k (n - k) = r) (hk : n ≤ k) : r = -1 := by
  rw [show n - k = 0 by omega] at h; exact h.symm
-- END OF HEAD
theorem sv_beq (a b : List UInt8) : ((sv a).toList == (sv b).toList) = (a == b) := by rw [sv_list, sv_list]
set_option maxHeartbeats 1000000 in
theorem clPhase (t nm : List UInt8) (u1 u2 : Value) (c : Nat) (w : World) (hc : w.cell? ⟨c, 0, none⟩ = some (.string (sv nm))) (hcl : c < w.heap.size) :
    Calls Try.prog 60 #[.agg #[.string (sv t), u1, u2], .pointer (some ⟨c, 0, none⟩)] w fun e w' => e = .returned (.bool (t == nm)) ∧ Keep w w' := by
  rw [← sv_beq]
  go_enter Try.func60, Try.ntmps60
  go_wp2_with fail
  go_ret
  exact ⟨rfl, (Keep.refl w).alloc _⟩
theorem ix_range (B : Nat → Bool) : ∀ m k, ix B k m = -1 ∨ (k : Int) ≤ ix B k m ∧ ix B k m < (k : Int) + (m : Int)
  | 0, k => .inl rfl
  | m + 1, k => by
    unfold ix
    split
    · right; omega
    · rcases ix_range B m (k + 1) with h | ⟨h1, h2⟩
      · exact .inl h
      · right; omega
set_option maxHeartbeats 2000000 in
theorem ixfPhase (a : Option Addr) (n cap c : Nat) (T : Nat → List UInt8) (A : Nat → Option Addr) (N C : Nat → Nat) (P : Nat → Int) (B : Nat → Bool) (r : Int) (w : World) (hn : n ≤ 9223372036854775807)
    (HC : Hid (∀ k, k < n → ∃ ad, a = some ad ∧ ad.block < w.heap.size ∧ w.cell? (ad.add (k * 3)) = some (.string (sv (T k))) ∧ w.cell? ⟨(ad.add (k * 3)).block, (ad.add (k * 3)).off + 1, none⟩ = some (.slice (A k) (N k) (C k)) ∧ w.cell? ⟨(ad.add (k * 3)).block, (ad.add (k * 3)).off + 2, none⟩ = some (.int .i64 (P k))))
    (TF : Hid (∀ k, k < n → ∀ w', Keep w w' → Calls Try.prog 60 #[.agg #[.string (sv (T k)), .slice (A k) (N k) (C k), .int .i64 (P k)], .pointer (some ⟨c, 0, none⟩)] w' fun e w'' => e = .returned (.bool (B k)) ∧ Keep w' w''))
    (HI : Hid (ix B 0 n = r)) :
    Calls Try.prog 59 #[.slice a n cap, .func (.func 60) #[] #[.pointer (some ⟨c, 0, none⟩)]] w fun e w' => e = .returned (.int .i64 r) ∧ Keep w w' := by
  go_enter Try.func59, Try.ntmps59
  go_wp2_with fail
  go_loopw [8] (fun vi wr => ∃ k : Nat, vi = .int .i64 (k : Int) ∧ k ≤ n ∧ Hid (Keep w wr) ∧ Hid (ix B k (n - k) = r)) (fun vi _ => n - (intOf vi).toNat)
  case atStart => exact ⟨0, rfl, Nat.zero_le _, hide (Keep.refl _), HI⟩
  case round =>
    obtain ⟨k, rfl, hk, KW, HF⟩ := hrel
    by_cases hlt : k < n
    · have li : (k : Int) < (n : Int) := by omega
      obtain ⟨ad, rfl, hb, e0, e1, e2⟩ := (uq HC) k hlt
      have x0 := far_cell (uq KW) (by rw [add_block9]; exact hb) e0
      have x1 := far_cell (uq KW) (by show (ad.add (k * 3)).block < _; rw [add_block9]; exact hb) e1
      have x2 := far_cell (uq KW) (by show (ad.add (k * 3)).block < _; rw [add_block9]; exact hb) e2
      clear e0 e1 e2
      have TK := hide ((uq TF) k hlt _ (uq KW))
      cases hB : B k
      · have HF2 := hide (ix_no (uq HF) hlt hB)
        rw [hB] at TK
        clear hB HF
        go_wp2_with fail
        (refine (uq TK).mono ?_; rintro e w2 ⟨rfl, hk9⟩; have K2 := hide ((uq KW).trans hk9); clear hk9)
        go_wp2_with fail
        go_roundw
        case rel => exact ⟨k + 1, by go_num, by omega, K2, HF2⟩
        case measure => simp [intOf]; omega
      · have hr := ix_yes (uq HF) hlt hB
        rw [hB] at TK
        subst hr
        clear hB HF
        go_wp2_with fail
        (refine (uq TK).mono ?_; rintro e w2 ⟨rfl, hk9⟩; have K2 := hide ((uq KW).trans hk9); clear hk9)
        go_wp2_with fail
        go_ret
        exact ⟨rfl, uq K2⟩
    · have li : ¬ (k : Int) < (n : Int) := by omega
      have hr := ix_end (uq HF) (by omega)
      subst hr
      go_wp2_with fail
      go_ret
      exact ⟨rfl, uq KW⟩
set_option maxHeartbeats 2000000 in
theorem findPhase (s : ByteArray) (x1 : Option Addr) (n1 c1 : Nat) (x2 : Option Addr) (n2 c2 : Nat) (x3 : Option Addr) (n3 c3 : Nat) (x4 : Option Addr) (n4 c4 : Nat) (x5 : Option Addr) (n5 c5 : Nat) (p : Int) (nm : List UInt8) (r : Int) (w : World)
    (TI : Hid (∀ w' c, Keep w w' → c < w'.heap.size → w'.cell? ⟨c, 0, none⟩ = some (.string (sv nm)) → Calls Try.prog 59 #[.slice x3 n3 c3, .func (.func 60) #[] #[.pointer (some ⟨c, 0, none⟩)]] w' fun e w'' => e = .returned (.int .i64 r) ∧ Keep w' w'')) :
    Calls Try.prog 49 #[.agg #[.string s, .slice x1 n1 c1, .slice x2 n2 c2, .slice x3 n3 c3, .slice x4 n4 c4, .slice x5 n5 c5, .int .i64 p], .string (sv nm)] w fun e w' => e = .returned (.int .i64 r) ∧ Keep w w' := by
  have hmf : ∀ (fn : Fn) (first cap : Array Value) (w : World), (Instr.makeFunc fn first cap).run Try.prog w = .ok (.func fn first cap) w := fun _ _ _ _ => rfl
  have K := hide (((Keep.refl w).alloc (.cells #[.string s, .slice x1 n1 c1, .slice x2 n2 c2, .slice x3 n3 c3, .slice x4 n4 c4, .slice x5 n5 c5, .int .i64 p] 28)).alloc (.cells #[.string (sv nm)] 9))
  go_enter Try.func49, Try.ntmps49
  go_wp2_with fail
  (refine ((uq TI) _ _ (uq K) (by simp) (by simp [go_sem])).mono ?_; rintro e w1 ⟨rfl, hk⟩)
  go_wp2_with fail
  go_ret
  exact ⟨rfl, (uq K).trans hk⟩
end V
end Go.Proofs.Ytdgmndjofbdgeaa

namespace Go.Proofs.Ytdgmndjofbdgeaa
open Go.RowKit
attribute [local go_sem ↓] Go.wp_at_zero Go.wp_at_succ
set_option linter.unusedVariables false
set_option linter.unusedSimpArgs false
set_option maxRecDepth 10000
namespace V
def Fq (b g : Nat) (c p : Int) (w : World) (e : Exit) (a : Act) (W : World) : Prop := match e with
  | .normal => a.defers = [] ∧ W.cell? ⟨b, 0, none⟩ = some (.int .i64 c) ∧ W.cell? ⟨g, 0, none⟩ = some (.int .i64 p) ∧ ∀ B, B ≤ b → B ≤ g → Below B w W
  | _ => False
end V
end Go.Proofs.Ytdgmndjofbdgeaa

namespace Go.Proofs.Ytdgmndjofbdgeaa
open Go.RowKit
attribute [local go_sem ↓] Go.wp_at_zero Go.wp_at_succ
set_option linter.unusedVariables false
set_option linter.unusedSimpArgs false
set_option maxRecDepth 10000
namespace V
/-- what a world that has grown since the boxes were laid holds of them -/
def Bx3 (w W : World) (b g : Nat) : Prop := b < W.heap.size ∧ g < W.heap.size ∧ W.cell? ⟨b, 0, none⟩ = some (.int .i64 0) ∧ W.frozen? ⟨b, 0, none⟩ = false ∧ W.cell? ⟨g, 0, none⟩ = some (.int .i64 0) ∧ W.frozen? ⟨g, 0, none⟩ = false ∧ w.heap.size ≤ b ∧ w.heap.size ≤ g ∧ ¬ b = g ∧ ¬ g = b
theorem Bx3.keep {w W W' : World} {b g : Nat} (h : Bx3 w W b g) (k : Keep W W') : Bx3 w W' b g := by
  obtain ⟨h1, h2, h3, h4, h5, h6, h7⟩ := h
  have hs := k.size
  exact ⟨by omega, by omega, by rw [Below.cell (p := ⟨b, 0, none⟩) k h1]; exact h3, by rw [Below.frozen (p := ⟨b, 0, none⟩) k h1]; exact h4, by rw [Below.cell (p := ⟨g, 0, none⟩) k h2]; exact h5, by rw [Below.frozen (p := ⟨g, 0, none⟩) k h2]; exact h6, h7⟩
end V
end Go.Proofs.Ytdgmndjofbdgeaa

namespace Go.Proofs.Ytdgmndjofbdgeaa
open Go.RowKit
set_option linter.unusedVariables false
set_option linter.unusedSimpArgs false
set_option maxRecDepth 10000
namespace V
open S
theorem node_rv {w0 : World} {a : Option Addr} {L : List (List D)} (hL : ∀ ds ∈ L, ShL nodeT ds) (HA : Rvss w0 a 7 L 0) (k : Nat) (hk : k < L.length) : Rvs w0 (L.getD k []) [.string (sv (tS (S.gt (L.getD k []) 0))), .slice (sA w0 a 7 1 k) (sN w0 a 7 1 k) (sC w0 a 7 1 k), .slice (sA w0 a 7 2 k) (sN w0 a 7 2 k) (sC w0 a 7 2 k), .slice (sA w0 a 7 3 k) (sN w0 a 7 3 k) (sC w0 a 7 3 k), .slice (sA w0 a 7 4 k) (sN w0 a 7 4 k) (sC w0 a 7 4 k), .slice (sA w0 a 7 5 k) (sN w0 a 7 5 k) (sC w0 a 7 5 k), .int .i64 (fI (S.gt (L.getD k []) 6))] := by
  obtain ⟨ad, us, rfl, hb, h1, h2, h3⟩ := rvss_at L 0 HA k hk
  have hs := hL (L.getD k []) (mem_at hk)
  generalize L.getD k [] = ds at h1 hs ⊢
  simp only [ShL, Sh1, nodeT] at hs
  obtain ⟨_, _, rfl, ⟨s0, rfl, _⟩, ⟨_, _, rfl, ⟨L1, rfl, _, q1⟩, ⟨_, _, rfl, ⟨L2, rfl, _, q2⟩, ⟨_, _, rfl, ⟨L3, rfl, _, q3⟩, ⟨_, _, rfl, ⟨L4, rfl, _, q4⟩, ⟨_, _, rfl, ⟨L5, rfl, _, q5⟩, ⟨_, _, rfl, ⟨v6, rfl, _, _⟩, rfl⟩⟩⟩⟩⟩⟩⟩ := hs
  have hr := h1
  simp only [Rvs, Rv, dS, dI, dB] at h1
  obtain ⟨_, _, rfl, rfl, ⟨_, _, rfl, ⟨x1, z1, rfl, y1, m1⟩, ⟨_, _, rfl, ⟨x2, z2, rfl, y2, m2⟩, ⟨_, _, rfl, ⟨x3, z3, rfl, y3, m3⟩, ⟨_, _, rfl, ⟨x4, z4, rfl, y4, m4⟩, ⟨_, _, rfl, ⟨x5, z5, rfl, y5, m5⟩, ⟨_, _, rfl, rfl, rfl⟩⟩⟩⟩⟩⟩⟩ := h1
  rw [Nat.zero_add] at h3
  have e1 := h3 1 _ rfl
  have g1 : (.slice (sA w0 (some ad) 7 1 k) (sN w0 (some ad) 7 1 k) (sC w0 (some ad) 7 1 k) : Value) = .slice x1 L1.length z1 := by have e := e1; simp only [sA, sN, sC, slA, slN, slC, adO, Option.getD_some, e]
  have e2 := h3 2 _ rfl
  have g2 : (.slice (sA w0 (some ad) 7 2 k) (sN w0 (some ad) 7 2 k) (sC w0 (some ad) 7 2 k) : Value) = .slice x2 L2.length z2 := by have e := e2; simp only [sA, sN, sC, slA, slN, slC, adO, Option.getD_some, e]
  have e3 := h3 3 _ rfl
  have g3 : (.slice (sA w0 (some ad) 7 3 k) (sN w0 (some ad) 7 3 k) (sC w0 (some ad) 7 3 k) : Value) = .slice x3 L3.length z3 := by have e := e3; simp only [sA, sN, sC, slA, slN, slC, adO, Option.getD_some, e]
  have e4 := h3 4 _ rfl
  have g4 : (.slice (sA w0 (some ad) 7 4 k) (sN w0 (some ad) 7 4 k) (sC w0 (some ad) 7 4 k) : Value) = .slice x4 L4.length z4 := by have e := e4; simp only [sA, sN, sC, slA, slN, slC, adO, Option.getD_some, e]
  have e5 := h3 5 _ rfl
  have g5 : (.slice (sA w0 (some ad) 7 5 k) (sN w0 (some ad) 7 5 k) (sC w0 (some ad) 7 5 k) : Value) = .slice x5 L5.length z5 := by have e := e5; simp only [sA, sN, sC, slA, slN, slC, adO, Option.getD_some, e]
  rw [g1, g2, g3, g4, g5]
  exact hr
/-- the place of a name in a row; of the thing whose row has a name -/
def nI (L : List (List D)) (nm : List UInt8) : Int := ix (fun k => tn L k == nm) 0 L.length
theorem phase_at {w : World} {s : ByteArray} {x1 : Option Addr} {n1 c1 : Nat} {x2 : Option Addr} {n2 c2 : Nat} {x3 : Option Addr} {c3 : Nat} {x4 : Option Addr} {n4 c4 : Nat} {x5 : Option Addr} {n5 c5 : Nat} {p : Int} {L : List (List D)} (nm : List UInt8)
    (hL : ∀ ds ∈ L, ShL phaseT ds) (HA : Rvss w x3 3 L 0) (hn : L.length ≤ maxLen) : Calls Try.prog 49 #[.agg #[.string s, .slice x1 n1 c1, .slice x2 n2 c2, .slice x3 L.length c3, .slice x4 n4 c4, .slice x5 n5 c5, .int .i64 p], .string (sv nm)] w fun e w' => e = .returned (.int .i64 (nI L nm)) ∧ Keep w w' :=
  findPhase s x1 n1 c1 x2 n2 c2 x3 L.length c3 x4 n4 c4 x5 n5 c5 p nm _ w (hide fun w' c k hc hcell => ixfPhase x3 L.length c3 c (tn L) (sA w' x3 3 1) (sN w' x3 3 1) (sC w' x3 3 1) (iv L 2) (fun k => tn L k == nm) _ w' hn
    (hide fun j hj => S.clPhase (Keep.refl w') hL (Rvss.keep k _ _ _ _ HA) j hj)
    (hide fun j hj w'' k' => V.clPhase (tn L j) nm _ _ c w'' (by rw [Below.cell (p := ⟨c, 0, none⟩) k' hc]; exact hcell) (Nat.lt_of_lt_of_le hc k'.size)) (hide rfl))
end V
end Go.Proofs.Ytdgmndjofbdgeaa
