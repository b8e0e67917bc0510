/- Package valid: where a name stands. -/
import Derived.Test.YtdgmndjofbdgeaaLIn
import Derived.LoopTactic
import Derived.Defers
import Derived.Recover
import Derived.Deep.DrawnRows
import Derived.Deep.RegionHeld3
import Derived.Maps.OwnOps
import Derived.Maps.AppendAt
import Derived.Test.YtdgmndjofbdgeaaLMath
import Derived.Test.YtdgmndjofbdgeaaProg
import Derived.WalkKit
import Derived.ProofKit
namespace Go.Proofs.Ytdgmndjofbdgeaa
open Go.RowKit
set_option linter.unusedVariables false
set_option linter.unusedSimpArgs false
set_option maxRecDepth 10000
namespace V
/-- the first k from there on that is so; -1 if none is -/
def ix (B : Nat → Bool) : Nat → Nat → Int
  | _, 0 => -1
  | k, m + 1 => if B k then (k : Int) else ix B (k + 1) m
theorem ix_yes {B : Nat → Bool} {k n : Nat} {r : Int} (h : ix B k (n - k) = r) (hk : k < n) (hb : B k = true) : r = (k : Int) := by
  rw [show n - k = (n - (k + 1)) + 1 by omega, ix, if_pos hb] at h; exact h.symm
theorem ix_no {B : Nat → Bool} {k n : Nat} {r : Int} (h : ix B k (n - k) = r) (hk : k < n) (hb : B k = false) : ix B (k + 1) (n - (k + 1)) = r := by
  rw [show n - k = (n - (k + 1)) + 1 by omega, ix, if_neg (by rw [hb]; decide)] at h; exact h
theorem ix_end {B : Nat → Bool} {k n : Nat} {r : Int} (h : ix B k (n - k) = r) (hk : n ≤ k) : r = -1 := by
  rw [show n - k = 0 by omega] at h; exact h.symm
-- END OF HEAD
theorem sv_beq (a b : List UInt8) : ((sv a).toList == (sv b).toList) = (a == b) := by rw [sv_list, sv_list]
set_option maxHeartbeats 1000000 in
theorem clPhase (t nm : List UInt8) (u1 u2 : Value) (c : Nat) (w : World) (hc : w.cell? ⟨c, 0, none⟩ = some (.string (sv nm))) (hcl : c < w.heap.size) :
    Calls Try.prog 60 #[.agg #[.string (sv t), u1, u2], .pointer (some ⟨c, 0, none⟩)] w fun e w' => e = .returned (.bool (t == nm)) ∧ Keep w w' := by
  rw [← sv_beq]
  go_enter Try.func60, Try.ntmps60
  go_wp2_with fail
  go_ret
  exact ⟨rfl, (Keep.refl w).alloc _⟩
theorem ix_range (B : Nat → Bool) : ∀ m k, ix B k m = -1 ∨ (k : Int) ≤ ix B k m ∧ ix B k m < (k : Int) + (m : Int)
  | 0, k => .inl rfl
  | m + 1, k => by
    unfold ix
    split
    · right; omega
    · rcases ix_range B m (k + 1) with h | ⟨h1, h2⟩
      · exact .inl h
      · right; omega
set_option maxHeartbeats 2000000 in
theorem ixfPhase (a : Option Addr) (n cap c : Nat) (T : Nat → List UInt8) (A : Nat → Option Addr) (N C : Nat → Nat) (P : Nat → Int) (B : Nat → Bool) (r : Int) (w : World) (hn : n ≤ 9223372036854775807)
    (HC : Hid (∀ k, k < n → ∃ ad, a = some ad ∧ ad.block < w.heap.size ∧ w.cell? (ad.add (k * 3)) = some (.string (sv (T k))) ∧ w.cell? ⟨(ad.add (k * 3)).block, (ad.add (k * 3)).off + 1, none⟩ = some (.slice (A k) (N k) (C k)) ∧ w.cell? ⟨(ad.add (k * 3)).block, (ad.add (k * 3)).off + 2, none⟩ = some (.int .i64 (P k))))
    (TF : Hid (∀ k, k < n → ∀ w', Keep w w' → Calls Try.prog 60 #[.agg #[.string (sv (T k)), .slice (A k) (N k) (C k), .int .i64 (P k)], .pointer (some ⟨c, 0, none⟩)] w' fun e w'' => e = .returned (.bool (B k)) ∧ Keep w' w''))
    (HI : Hid (ix B 0 n = r)) :
    Calls Try.prog 59 #[.slice a n cap, .func (.func 60) #[] #[.pointer (some ⟨c, 0, none⟩)]] w fun e w' => e = .returned (.int .i64 r) ∧ Keep w w' := by
  go_enter Try.func59, Try.ntmps59
  go_wp2_with fail
  go_loopw [8] (fun vi wr => ∃ k : Nat, vi = .int .i64 (k : Int) ∧ k ≤ n ∧ Hid (Keep w wr) ∧ Hid (ix B k (n - k) = r)) (fun vi _ => n - (intOf vi).toNat)
  case atStart => exact ⟨0, rfl, Nat.zero_le _, hide (Keep.refl _), HI⟩
  case round =>
    obtain ⟨k, rfl, hk, KW, HF⟩ := hrel
    by_cases hlt : k < n
    · have li : (k : Int) < (n : Int) := by omega
      obtain ⟨ad, rfl, hb, e0, e1, e2⟩ := (uq HC) k hlt
      have x0 := far_cell (uq KW) (by rw [add_block9]; exact hb) e0
      have x1 := far_cell (uq KW) (by show (ad.add (k * 3)).block < _; rw [add_block9]; exact hb) e1
      have x2 := far_cell (uq KW) (by show (ad.add (k * 3)).block < _; rw [add_block9]; exact hb) e2
      clear e0 e1 e2
      have TK := hide ((uq TF) k hlt _ (uq KW))
      cases hB : B k
      · have HF2 := hide (ix_no (uq HF) hlt hB)
        rw [hB] at TK
        clear hB HF
        go_wp2_with fail
        (refine (uq TK).mono ?_; rintro e w2 ⟨rfl, hk9⟩; have K2 := hide ((uq KW).trans hk9); clear hk9)
        go_wp2_with fail
        go_roundw
        case rel => exact ⟨k + 1, by go_num, by omega, K2, HF2⟩
        case measure => simp [intOf]; omega
      · have hr := ix_yes (uq HF) hlt hB
        rw [hB] at TK
        subst hr
        clear hB HF
        go_wp2_with fail
        (refine (uq TK).mono ?_; rintro e w2 ⟨rfl, hk9⟩; have K2 := hide ((uq KW).trans hk9); clear hk9)
        go_wp2_with fail
        go_ret
        exact ⟨rfl, uq K2⟩
    · have li : ¬ (k : Int) < (n : Int) := by omega
      have hr := ix_end (uq HF) (by omega)
      subst hr
      go_wp2_with fail
      go_ret
      exact ⟨rfl, uq KW⟩
set_option maxHeartbeats 2000000 in
theorem findPhase (s : ByteArray) (x1 : Option Addr) (n1 c1 : Nat) (x2 : Option Addr) (n2 c2 : Nat) (x3 : Option Addr) (n3 c3 : Nat) (x4 : Option Addr) (n4 c4 : Nat) (x5 : Option Addr) (n5 c5 : Nat) (p : Int) (nm : List UInt8) (r : Int) (w : World)
    (TI : Hid (∀ w' c, Keep w w' → c < w'.heap.size → w'.cell? ⟨c, 0, none⟩ = some (.string (sv nm)) → Calls Try.prog 59 #[.slice x3 n3 c3, .func (.func 60) #[] #[.pointer (some ⟨c, 0, none⟩)]] w' fun e w'' => e = .returned (.int .i64 r) ∧ Keep w' w'')) :
    Calls Try.prog 49 #[.agg #[.string s, .slice x1 n1 c1, .slice x2 n2 c2, .slice x3 n3 c3, .slice x4 n4 c4, .slice x5 n5 c5, .int .i64 p], .string (sv nm)] w fun e w' => e = .returned (.int .i64 r) ∧ Keep w w' := by
  have hmf : ∀ (fn : Fn) (first cap : Array Value) (w : World), (Instr.makeFunc fn first cap).run Try.prog w = .ok (.func fn first cap) w := fun _ _ _ _ => rfl
  have K := hide (((Keep.refl w).alloc (.cells #[.string s, .slice x1 n1 c1, .slice x2 n2 c2, .slice x3 n3 c3, .slice x4 n4 c4, .slice x5 n5 c5, .int .i64 p] 28)).alloc (.cells #[.string (sv nm)] 9))
  go_enter Try.func49, Try.ntmps49
  go_wp2_with fail
  (refine ((uq TI) _ _ (uq K) (by simp) (by simp [go_sem])).mono ?_; rintro e w1 ⟨rfl, hk⟩)
  go_wp2_with fail
  go_ret
  exact ⟨rfl, (uq K).trans hk⟩
end V
end Go.Proofs.Ytdgmndjofbdgeaa

namespace Go.Proofs.Ytdgmndjofbdgeaa
open Go.RowKit
attribute [local go_sem ↓] Go.wp_at_zero Go.wp_at_succ
set_option linter.unusedVariables false
set_option linter.unusedSimpArgs false
set_option maxRecDepth 10000
namespace V
def Fq (b g : Nat) (c p : Int) (w : World) (e : Exit) (a : Act) (W : World) : Prop := match e with
  | .normal => a.defers = [] ∧ W.cell? ⟨b, 0, none⟩ = some (.int .i64 c) ∧ W.cell? ⟨g, 0, none⟩ = some (.int .i64 p) ∧ ∀ B, B ≤ b → B ≤ g → Below B w W
  | _ => False
end V
end Go.Proofs.Ytdgmndjofbdgeaa

namespace Go.Proofs.Ytdgmndjofbdgeaa
open Go.RowKit
attribute [local go_sem ↓] Go.wp_at_zero Go.wp_at_succ
set_option linter.unusedVariables false
set_option linter.unusedSimpArgs false
set_option maxRecDepth 10000
namespace V
/-- what a world that has grown since the boxes were laid holds of them -/
def Bx3 (w W : World) (b g : Nat) : Prop := b < W.heap.size ∧ g < W.heap.size ∧ W.cell? ⟨b, 0, none⟩ = some (.int .i64 0) ∧ W.frozen? ⟨b, 0, none⟩ = false ∧ W.cell? ⟨g, 0, none⟩ = some (.int .i64 0) ∧ W.frozen? ⟨g, 0, none⟩ = false ∧ w.heap.size ≤ b ∧ w.heap.size ≤ g ∧ ¬ b = g ∧ ¬ g = b
theorem Bx3.keep {w W W' : World} {b g : Nat} (h : Bx3 w W b g) (k : Keep W W') : Bx3 w W' b g := by
  obtain ⟨h1, h2, h3, h4, h5, h6, h7⟩ := h
  have hs := k.size
  exact ⟨by omega, by omega, by rw [Below.cell (p := ⟨b, 0, none⟩) k h1]; exact h3, by rw [Below.frozen (p := ⟨b, 0, none⟩) k h1]; exact h4, by rw [Below.cell (p := ⟨g, 0, none⟩) k h2]; exact h5, by rw [Below.frozen (p := ⟨g, 0, none⟩) k h2]; exact h6, h7⟩
end V
end Go.Proofs.Ytdgmndjofbdgeaa

namespace Go.Proofs.Ytdgmndjofbdgeaa
open Go.RowKit
set_option linter.unusedVariables false
set_option linter.unusedSimpArgs false
set_option maxRecDepth 10000
namespace V
open S
theorem node_rv {w0 : World} {a : Option Addr} {L : List (List D)} (hL : ∀ ds ∈ L, ShL nodeT ds) (HA : Rvss w0 a 7 L 0) (k : Nat) (hk : k < L.length) : Rvs w0 (L.getD k []) [.string (sv (tS (S.gt (L.getD k []) 0))), .slice (sA w0 a 7 1 k) (sN w0 a 7 1 k) (sC w0 a 7 1 k), .slice (sA w0 a 7 2 k) (sN w0 a 7 2 k) (sC w0 a 7 2 k), .slice (sA w0 a 7 3 k) (sN w0 a 7 3 k) (sC w0 a 7 3 k), .slice (sA w0 a 7 4 k) (sN w0 a 7 4 k) (sC w0 a 7 4 k), .slice (sA w0 a 7 5 k) (sN w0 a 7 5 k) (sC w0 a 7 5 k), .int .i64 (fI (S.gt (L.getD k []) 6))] := by
  obtain ⟨ad, us, rfl, hb, h1, h2, h3⟩ := rvss_at L 0 HA k hk
  have hs := hL (L.getD k []) (mem_at hk)
  generalize L.getD k [] = ds at h1 hs ⊢
  simp only [ShL, Sh1, nodeT] at hs
  obtain ⟨_, _, rfl, ⟨s0, rfl, _⟩, ⟨_, _, rfl, ⟨L1, rfl, _, q1⟩, ⟨_, _, rfl, ⟨L2, rfl, _, q2⟩, ⟨_, _, rfl, ⟨L3, rfl, _, q3⟩, ⟨_, _, rfl, ⟨L4, rfl, _, q4⟩, ⟨_, _, rfl, ⟨L5, rfl, _, q5⟩, ⟨_, _, rfl, ⟨v6, rfl, _, _⟩, rfl⟩⟩⟩⟩⟩⟩⟩ := hs
  have hr := h1
  simp only [Rvs, Rv, dS, dI, dB] at h1
  obtain ⟨_, _, rfl, rfl, ⟨_, _, rfl, ⟨x1, z1, rfl, y1, m1⟩, ⟨_, _, rfl, ⟨x2, z2, rfl, y2, m2⟩, ⟨_, _, rfl, ⟨x3, z3, rfl, y3, m3⟩, ⟨_, _, rfl, ⟨x4, z4, rfl, y4, m4⟩, ⟨_, _, rfl, ⟨x5, z5, rfl, y5, m5⟩, ⟨_, _, rfl, rfl, rfl⟩⟩⟩⟩⟩⟩⟩ := h1
  rw [Nat.zero_add] at h3
  have e1 := h3 1 _ rfl
  have g1 : (.slice (sA w0 (some ad) 7 1 k) (sN w0 (some ad) 7 1 k) (sC w0 (some ad) 7 1 k) : Value) = .slice x1 L1.length z1 := by have e := e1; simp only [sA, sN, sC, slA, slN, slC, adO, Option.getD_some, e]
  have e2 := h3 2 _ rfl
  have g2 : (.slice (sA w0 (some ad) 7 2 k) (sN w0 (some ad) 7 2 k) (sC w0 (some ad) 7 2 k) : Value) = .slice x2 L2.length z2 := by have e := e2; simp only [sA, sN, sC, slA, slN, slC, adO, Option.getD_some, e]
  have e3 := h3 3 _ rfl
  have g3 : (.slice (sA w0 (some ad) 7 3 k) (sN w0 (some ad) 7 3 k) (sC w0 (some ad) 7 3 k) : Value) = .slice x3 L3.length z3 := by have e := e3; simp only [sA, sN, sC, slA, slN, slC, adO, Option.getD_some, e]
  have e4 := h3 4 _ rfl
  have g4 : (.slice (sA w0 (some ad) 7 4 k) (sN w0 (some ad) 7 4 k) (sC w0 (some ad) 7 4 k) : Value) = .slice x4 L4.length z4 := by have e := e4; simp only [sA, sN, sC, slA, slN, slC, adO, Option.getD_some, e]
  have e5 := h3 5 _ rfl
  have g5 : (.slice (sA w0 (some ad) 7 5 k) (sN w0 (some ad) 7 5 k) (sC w0 (some ad) 7 5 k) : Value) = .slice x5 L5.length z5 := by have e := e5; simp only [sA, sN, sC, slA, slN, slC, adO, Option.getD_some, e]
  rw [g1, g2, g3, g4, g5]
  exact hr
/-- the place of a name in a row; of the thing whose row has a name -/
def nI (L : List (List D)) (nm : List UInt8) : Int := ix (fun k => tn L k == nm) 0 L.length
def cI (L : List (List D)) (nm : List UInt8) : Bool := decide (0 ≤ ix (fun k => nm == tn L k) 0 L.length)
def hI (L : List (List D)) (nm : List UInt8) : Int := ix (fun k => cI (sub L 1 k) nm) 0 L.length
theorem phase_at {w : World} {s : ByteArray} {x1 : Option Addr} {n1 c1 : Nat} {x2 : Option Addr} {n2 c2 : Nat} {x3 : Option Addr} {c3 : Nat} {x4 : Option Addr} {n4 c4 : Nat} {x5 : Option Addr} {n5 c5 : Nat} {p : Int} {L : List (List D)} (nm : List UInt8)
    (hL : ∀ ds ∈ L, ShL phaseT ds) (HA : Rvss w x3 3 L 0) (hn : L.length ≤ maxLen) : Calls Try.prog 49 #[.agg #[.string s, .slice x1 n1 c1, .slice x2 n2 c2, .slice x3 L.length c3, .slice x4 n4 c4, .slice x5 n5 c5, .int .i64 p], .string (sv nm)] w fun e w' => e = .returned (.int .i64 (nI L nm)) ∧ Keep w w' :=
  findPhase s x1 n1 c1 x2 n2 c2 x3 L.length c3 x4 n4 c4 x5 n5 c5 p nm _ w (hide fun w' c k hc hcell => ixfPhase x3 L.length c3 c (tn L) (sA w' x3 3 1) (sN w' x3 3 1) (sC w' x3 3 1) (iv L 2) (fun k => tn L k == nm) _ w' hn
    (hide fun j hj => S.clPhase (Keep.refl w') hL (Rvss.keep k _ _ _ _ HA) j hj)
    (hide fun j hj w'' k' => V.clPhase (tn L j) nm _ _ c w'' (by rw [Below.cell (p := ⟨c, 0, none⟩) k' hc]; exact hcell) (Nat.lt_of_lt_of_le hc k'.size)) (hide rfl))
end V
end Go.Proofs.Ytdgmndjofbdgeaa

namespace Go.Proofs.Ytdgmndjofbdgeaa
open Go.RowKit
set_option linter.unusedVariables false

/-- is a fraction right? -/
def rt (n d : Int) : Bool := decide (1 ≤ d ∧ Int.gcd n d = 1)
/-- what a fraction counts as -/
def cn (n d : Int) : Int := if rt n d then n else 0
def cd (n d : Int) : Int := if rt n d then d else 1
/-- the two numbers of a right fraction -/
def Rt (n d : Int) : Prop := 1 ≤ d ∧ Int.gcd n d = 1 ∧ -9223372036854775808 ≤ n ∧ n ≤ 9223372036854775807 ∧ d ≤ 9223372036854775807
theorem rt_counted (n d : Int) (h1 : -9223372036854775808 ≤ n) (h2 : n ≤ 9223372036854775807) (h4 : d ≤ 9223372036854775807) : Rt (cn n d) (cd n d) := by
  unfold cn cd
  by_cases h : rt n d = true
  · have h' := h
    simp only [rt, decide_eq_true_eq] at h'
    simp only [h, if_true]
    exact ⟨h'.1, h'.2, h1, h2, h4⟩
  · simp only [h, if_false, Bool.false_eq_true]
    exact ⟨by omega, by simp, by omega, by omega, by omega⟩
theorem Rt.rt {n d : Int} (h : Rt n d) : rt n d = true := by simp only [Proofs.Ytdgmndjofbdgeaa.rt, decide_eq_true_eq]; exact ⟨h.1, h.2.1⟩
theorem Rt.cn {n d : Int} (h : Rt n d) : cn n d = n := by simp [Proofs.Ytdgmndjofbdgeaa.cn, h.rt]
theorem Rt.cd {n d : Int} (h : Rt n d) : cd n d = d := by simp [Proofs.Ytdgmndjofbdgeaa.cd, h.rt]
/-- lowest terms -/
def rn (N D : Int) : Int := N / (Int.gcd N D : Int)
def rd (N D : Int) : Int := D / (Int.gcd N D : Int)
/-- the answer of two exact numbers: both, where both fit; else the zero fraction and 2 -/
def pN (n d : Int) : Int := if fit n && fit d then n else 0
def pD (n d : Int) : Int := if fit n && fit d then d else 0
def pE (n d : Int) : Int := if fit n && fit d then 0 else 2
/-- a fraction as a value -/
def fr (n d : Int) : Value := .agg #[.int .i64 n, .int .i64 d]
/-- an answer as a value: a fraction and an error -/
def fv (n d : Int) : Value := .tuple #[.agg #[.int .i64 (pN n d), .int .i64 (pD n d)], .int .i64 (pE n d)]

theorem nat_low {n d N D : Nat} (hd : 0 < d) (hD : 0 < D) (hg : Nat.gcd n d = 1) (h : n * D = N * d) : ∃ k, 0 < k ∧ N = n * k ∧ D = d * k ∧ Nat.gcd N D = k := by
  have h1 : d ∣ n * D := ⟨N, by rw [h, Nat.mul_comm]⟩
  have h2 : d ∣ D := Nat.Coprime.dvd_of_dvd_mul_left (Nat.Coprime.symm hg) h1
  obtain ⟨k, rfl⟩ := h2
  have hk : 0 < k := Nat.pos_of_mul_pos_left hD
  have e : N = n * k := by
    have : N * d = (n * k) * d := by rw [← h, Nat.mul_assoc, Nat.mul_comm d k]
    exact Nat.eq_of_mul_eq_mul_right hd this
  subst e
  refine ⟨k, hk, rfl, rfl, ?_⟩
  rw [Nat.gcd_mul_right, hg, Nat.one_mul]
theorem int_low {n d N D : Int} (hd : 0 < d) (hD : 0 < D) (hg : Int.gcd n d = 1) (h : n * D = N * d) : ∃ k : Int, 0 < k ∧ N = n * k ∧ D = d * k ∧ (Int.gcd N D : Int) = k := by
  have e : n.natAbs * D.natAbs = N.natAbs * d.natAbs := by rw [← Int.natAbs_mul, ← Int.natAbs_mul, h]
  obtain ⟨k, hk, e1, e2, e3⟩ := nat_low (n := n.natAbs) (d := d.natAbs) (N := N.natAbs) (D := D.natAbs) (by omega) (by omega) hg e
  have eD : D = d * k := by
    have := congrArg (Nat.cast (R := Int)) e2
    rw [Int.natCast_mul, Int.natAbs_of_nonneg (by omega), Int.natAbs_of_nonneg (by omega)] at this
    exact this
  refine ⟨k, by omega, ?_, eD, by rw [Int.gcd]; omega⟩
  rw [eD, Int.mul_comm d, ← Int.mul_assoc] at h
  exact (Int.eq_of_mul_eq_mul_right (by omega) h).symm
/-- lowest terms are one pair alone -/
theorem red_one {n d N D : Int} (hd : 0 < d) (hD : 0 < D) (hg : Int.gcd n d = 1) (h : n * D = N * d) : rn N D = n ∧ rd N D = d := by
  obtain ⟨k, hk, e1, e2, e3⟩ := int_low hd hD hg h
  unfold rn rd
  rw [e3, e1, e2]
  exact ⟨Int.mul_ediv_cancel _ (by omega), Int.mul_ediv_cancel _ (by omega)⟩
theorem red_spec {N D : Int} (hD : 0 < D) : 0 < rd N D ∧ Int.gcd (rn N D) (rd N D) = 1 ∧ rn N D * D = N * rd N D := by
  have hg : 0 < Int.gcd N D := Int.gcd_pos_of_ne_zero_right _ (by omega)
  obtain ⟨a, ha⟩ := Int.gcd_dvd_left N D
  obtain ⟨b, hb⟩ := Int.gcd_dvd_right N D
  obtain ⟨g, eg⟩ : ∃ g : Int, g = (Int.gcd N D : Int) := ⟨_, rfl⟩
  have hg' : 0 < g := by omega
  rw [← eg] at ha hb
  have e1 : rn N D = a := by
    unfold rn
    rw [← eg]
    conv => lhs; rw [ha]
    exact Int.mul_ediv_cancel_left _ (by omega)
  have e2 : rd N D = b := by
    unfold rd
    rw [← eg]
    conv => lhs; rw [hb]
    exact Int.mul_ediv_cancel_left _ (by omega)
  rw [e1, e2]
  refine ⟨?_, ?_, ?_⟩
  · rcases Int.lt_trichotomy b 0 with h | h | h
    · have := Int.mul_neg_of_pos_of_neg hg' h
      omega
    · rw [h, Int.mul_zero] at hb
      omega
    · exact h
  · have h3 : Int.gcd (g * a) (g * b) = g.natAbs * Int.gcd a b := Int.gcd_mul_left ..
    rw [← ha, ← hb] at h3
    have h4 : g.natAbs * 1 = g.natAbs * Int.gcd a b := by rw [← h3]; omega
    exact (Nat.eq_of_mul_eq_mul_left (by omega) h4).symm
  · conv => lhs; rw [hb]
    conv => rhs; rw [ha]
    rw [Int.mul_left_comm, Int.mul_assoc]
/-! ### products -/
/-! ### sums -/
theorem cop_sum {x y : Int} {A B : Nat} (hAB : Nat.gcd A B = 1) (hy : Nat.gcd y.natAbs A = 1) : Nat.gcd (x * A + y * B).natAbs A = 1 := by
  have h1 := Nat.gcd_dvd_left (x * A + y * B).natAbs A
  have h2 := Nat.gcd_dvd_right (x * A + y * B).natAbs A
  generalize Nat.gcd (x * A + y * B).natAbs A = g at h1 h2
  have h3 : (g : Int) ∣ x * A + y * B := Int.ofNat_dvd_left.2 h1
  have h4 : (g : Int) ∣ x * A := Int.dvd_trans (Int.natCast_dvd_natCast.2 h2) (Int.dvd_mul_left _ _)
  have h5 : (g : Int) ∣ y * B := (Int.dvd_iff_dvd_of_dvd_add h3).1 h4
  have h6 : g ∣ y.natAbs * B := by
    have := Int.ofNat_dvd_left.1 h5
    rwa [Int.natAbs_mul, Int.natAbs_natCast] at this
  have h7 : Nat.gcd (y.natAbs * B) A = 1 := Nat.Coprime.mul_left hy (Nat.Coprime.symm hAB)
  exact Nat.eq_one_of_dvd_one (h7 ▸ Nat.dvd_gcd h6 h2)
theorem plus_low {x y : Int} {pd qd c L : Nat} (hc : Nat.gcd pd qd = c) (hL : Nat.gcd (x * (qd / c : Nat) + y * (pd / c : Nat)).natAbs c = L) (hp : Nat.gcd x.natAbs pd = 1) (hq : Nat.gcd y.natAbs qd = 1) (h1 : 0 < pd) (h2 : 0 < qd) :
    Nat.gcd ((x * (qd / c : Nat) + y * (pd / c : Nat)).natAbs / L) ((pd / c) * (qd / L)) = 1
    ∧ (x * (qd / c : Nat) + y * (pd / c : Nat)) / (L : Int) * ((pd : Int) * qd) = (x * qd + y * pd) * (((pd / c) * (qd / L) : Nat) : Int)
    ∧ 0 < (pd / c) * (qd / L) ∧ 0 < L ∧ 0 < c ∧ (L : Int) ∣ (x * (qd / c : Nat) + y * (pd / c : Nat)) := by
  have c0 : 0 < c := by rw [← hc]; exact Nat.gcd_pos_of_pos_left _ h1
  have ca : c ∣ pd := by rw [← hc]; exact Nat.gcd_dvd_left pd qd
  have cb : c ∣ qd := by rw [← hc]; exact Nat.gcd_dvd_right pd qd
  have cc : Nat.gcd (pd / c) (qd / c) = 1 := by
    have := Nat.coprime_div_gcd_div_gcd (m := pd) (n := qd) (by rw [hc]; exact c0)
    rwa [hc] at this
  obtain ⟨B, rfl⟩ := ca
  obtain ⟨A, rfl⟩ := cb
  rw [Nat.mul_div_cancel_left _ c0] at *
  rw [Nat.mul_div_cancel_left _ c0] at *
  have a1 : Nat.gcd x.natAbs B = 1 := Nat.Coprime.coprime_mul_left_right (k := c) hp
  have a2 : Nat.gcd y.natAbs A = 1 := Nat.Coprime.coprime_mul_left_right (k := c) hq
  have n1 := cop_sum (x := x) (y := y) (A := A) (B := B) (Nat.Coprime.symm cc) a2
  have n2 := cop_sum (x := y) (y := x) (A := B) (B := A) cc a1
  rw [Int.add_comm] at n2
  obtain ⟨N, hN⟩ : ∃ N : Int, N = x * A + y * B := ⟨_, rfl⟩
  rw [← hN] at n1 n2 hL ⊢
  have L0 : 0 < L := by rw [← hL]; exact Nat.gcd_pos_of_pos_right _ c0
  have la : L ∣ N.natAbs := by rw [← hL]; exact Nat.gcd_dvd_left _ _
  have lb : L ∣ c := by rw [← hL]; exact Nat.gcd_dvd_right _ _
  have lc : Nat.gcd (N.natAbs / L) (c / L) = 1 := by
    have := Nat.coprime_div_gcd_div_gcd (m := N.natAbs) (n := c) (by rw [hL]; exact L0)
    rwa [hL] at this
  have n3 : Nat.gcd (N.natAbs / L) A = 1 := Nat.Coprime.coprime_div_left n1 la
  have n4 : Nat.gcd (N.natAbs / L) B = 1 := Nat.Coprime.coprime_div_left n2 la
  have li : (L : Int) ∣ N := Int.ofNat_dvd_left.2 la
  obtain ⟨m, rfl⟩ := lb
  rw [Nat.mul_div_cancel_left _ L0] at lc
  have e : L * m * A / L = m * A := by rw [Nat.mul_assoc]; exact Nat.mul_div_cancel_left _ L0
  rw [e]
  have B0 : 0 < B := Nat.pos_of_mul_pos_left h1
  have A0 : 0 < A := Nat.pos_of_mul_pos_left h2
  have m0 : 0 < m := Nat.pos_of_mul_pos_left c0
  refine ⟨Nat.Coprime.mul_right n4 (Nat.Coprime.mul_right lc n3), ?_, Nat.mul_pos B0 (Nat.mul_pos m0 A0), L0, c0, li⟩
  obtain ⟨T, hT⟩ := li
  have e2 : N / (L : Int) = T := by rw [hT]; exact Int.mul_ediv_cancel_left _ (by omega)
  rw [e2]
  have e3 : x * ((L * m * A : Nat) : Int) + y * ((L * m * B : Nat) : Int) = (L * m : Nat) * (L * T) := by
    rw [← hT, hN]
    simp only [Int.natCast_mul, Int.mul_add, Int.mul_left_comm]
  rw [e3]
  simp only [Int.natCast_mul]
  ac_rfl
end Go.Proofs.Ytdgmndjofbdgeaa

namespace Go.Proofs.Ytdgmndjofbdgeaa
open Go.RowKit
set_option linter.unusedVariables false

/-- the greatest whole number that is not above a / b -/
def fl (a b : Int) : Int := if 0 < b then a / b else (-a) / (-b)
/-- the least whole number that is not below a / b -/
def ce (a b : Int) : Int := -(fl (-a) b)
/-! ### the walks -/
end Go.Proofs.Ytdgmndjofbdgeaa
