/- Package valid: where a name stands. -/
import Derived.Test.YtjincjlalopbfaaVPh
import Derived.LoopTactic
import Derived.Test.YtjincjlalopbfaaLIn
import Derived.Test.YtjincjlalopbfaaVSt
import Derived.Test.YtjincjlalopbfaaVNs
import Derived.Defers
import Derived.Recover
import Derived.Deep.DrawnRows
import Derived.Deep.RegionHeld3
import Derived.Test.YtjincjlalopbfaaLMath
namespace Go.Proofs.Ytjincjlalopbfaa
open Go.RowKit
set_option linter.unusedVariables false
set_option linter.unusedSimpArgs false
set_option maxRecDepth 10000
namespace V
/-- the first k from there on that is so; -1 if none is -/
def ix (B : Nat → Bool) : Nat → Nat → Int
  | _, 0 => -1
  | k, m + 1 => if B k then (k : Int) else ix B (k + 1) m
theorem ix_yes {B : Nat → Bool} {k n : Nat} {r : Int} (h : ix B k (n - k) = r) (hk : k < n) (hb : B k = true) : r = (k : Int) := by
  rw [show n - k = (n - (k + 1)) + 1 by omega, ix, if_pos hb] at h; exact h.symm
theorem ix_no {B : Nat → Bool} {k n : Nat} {r : Int} (h : ix B k (n - k) = r) (hk : k < n) (hb : B k = false) : ix B (k + 1) (n - (k + 1)) = r := by
  rw [show n - k = (n - (k + 1)) + 1 by omega, ix, if_neg (by rw [hb]; decide)] at h; exact h
theorem ix_end {B : Nat → Bool} {k n : Nat} {r : Int} (h : ix B k (n - k) = r) (hk : n ≤ k) : r = -1 := by
  rw [show n - k = 0 by omega] at h; exact h.symm
-- END OF HEAD
theorem sv_beq (a b : List UInt8) : ((sv a).toList == (sv b).toList) = (a == b) := by rw [sv_list, sv_list]
set_option maxHeartbeats 1000000 in
theorem clHead (t nm : List UInt8) (u1 u2 u3 u4 u5 u6 u7 u8 u9 u10 : Value) (c : Nat) (w : World) (hc : w.cell? ⟨c, 0, none⟩ = some (.string (sv nm))) (hcl : c < w.heap.size) :
    Calls Try.prog 52 #[.agg #[.string (sv t), u1, u2, u3, u4, u5, u6, u7, u8, u9, u10], .pointer (some ⟨c, 0, none⟩)] w fun e w' => e = .returned (.bool (t == nm)) ∧ Keep w w' := by
  rw [← sv_beq]
  go_enter Try.func52, Try.ntmps52
  go_wp2_with fail
  go_ret
  exact ⟨rfl, (Keep.refl w).alloc _⟩
set_option maxHeartbeats 1000000 in
theorem index_core (a : Option Addr) (n cap : Nat) (H : Nat → List UInt8) (nm : List UInt8) (r : Int) (w : World) (hn : n ≤ 9223372036854775807)
    (HC : Hid (∀ k, k < n → ∃ ad, a = some ad ∧ w.cell? (ad.add k) = some (.string (sv (H k))))) (HI : Hid (ix (fun k => nm == H k) 0 n = r)) :
    Calls Try.prog 38 #[.slice a n cap, .string (sv nm)] w fun e w' => e = .returned (.int .i64 r) ∧ w' = w := by
  go_enter Try.func38, Try.ntmps38
  go_wp2_with fail
  go_loop [8] (fun vi => ∃ k : Nat, k ≤ n ∧ vi = .int .i64 (k : Int) ∧ Hid (ix (fun k => nm == H k) k (n - k) = r)) (fun vi => n - (intOf vi).toNat)
  case atStart => exact ⟨0, Nat.zero_le _, rfl, HI⟩
  case round =>
    obtain ⟨k, hk, rfl, HF⟩ := hrel
    by_cases hlt : k < n
    · have li : (k : Int) < (n : Int) := by omega
      obtain ⟨ad, rfl, ck⟩ := (uq HC) k hlt
      have e := sv_beq nm (H k)
      cases hb : (nm == H k)
      · have HF2 := hide (ix_no (uq HF) hlt hb)
        rw [hb] at e
        clear hb HF
        go_wp2_with fail
        exact ⟨⟨k + 1, hlt, by go_num, HF2⟩, by simp [intOf]; omega⟩
      · have hr := ix_yes (uq HF) hlt hb
        rw [hb] at e
        subst hr
        clear hb HF
        go_wp2_with fail
        go_ret
        exact ⟨rfl, rfl⟩
    · have li : ¬ (k : Int) < (n : Int) := by omega
      have hr := ix_end (uq HF) (by omega)
      subst hr
      go_wp2_with fail
      go_ret
      exact ⟨rfl, rfl⟩
theorem ix_range (B : Nat → Bool) : ∀ m k, ix B k m = -1 ∨ (k : Int) ≤ ix B k m ∧ ix B k m < (k : Int) + (m : Int)
  | 0, k => .inl rfl
  | m + 1, k => by
    unfold ix
    split
    · right; omega
    · rcases ix_range B m (k + 1) with h | ⟨h1, h2⟩
      · exact .inl h
      · right; omega
set_option maxHeartbeats 1000000 in
theorem contains_core (a : Option Addr) (n cap : Nat) (H : Nat → List UInt8) (nm : List UInt8) (w : World) (hn : n ≤ 9223372036854775807)
    (HC : Hid (∀ k, k < n → ∃ ad, a = some ad ∧ w.cell? (ad.add k) = some (.string (sv (H k))))) :
    Calls Try.prog 17 #[.slice a n cap, .string (sv nm)] w fun e w' => e = .returned (.bool (decide (0 ≤ ix (fun k => nm == H k) 0 n))) ∧ w' = w := by
  have T := hide (index_core a n cap H nm _ w hn HC (hide rfl))
  generalize ix (fun k => nm == H k) 0 n = r at T ⊢
  go_enter Try.func17, Try.ntmps17
  go_wp2_with fail
  (refine (uq T).mono ?_; rintro e w1 ⟨rfl, rfl⟩)
  go_wp2_with fail
  go_ret
  exact ⟨rfl, rfl⟩
set_option maxHeartbeats 1000000 in
theorem clHome (t : ByteArray) (a : Option Addr) (n cap : Nat) (p : Int) (nm : List UInt8) (r : Bool) (c : Nat) (w : World) (hc : w.cell? ⟨c, 0, none⟩ = some (.string (sv nm))) (hcl : c < w.heap.size)
    (T : Hid (∀ w', Keep w w' → Calls Try.prog 17 #[.slice a n cap, .string (sv nm)] w' fun e w'' => e = .returned (.bool r) ∧ w'' = w')) :
    Calls Try.prog 16 #[.agg #[.string t, .slice a n cap, .int .i64 p], .pointer (some ⟨c, 0, none⟩)] w fun e w' => e = .returned (.bool r) ∧ Keep w w' := by
  go_enter Try.func16, Try.ntmps16
  go_wp2_with fail
  (refine ((uq T) _ ((Keep.refl w).alloc _)).mono ?_; rintro e w1 ⟨rfl, rfl⟩)
  go_wp2_with fail
  go_ret
  exact ⟨rfl, (Keep.refl w).alloc _⟩
set_option maxHeartbeats 2000000 in
theorem ixfHead (a : Option Addr) (n cap c : Nat) (T : Nat → List UInt8) (V1 V2 V3 V4 V5 V6 V7 V8 V9 V10 : Nat → Int) (B : Nat → Bool) (r : Int) (w : World) (hn : n ≤ 9223372036854775807)
    (HC : Hid (∀ k, k < n → ∃ ad, a = some ad ∧ ad.block < w.heap.size ∧ w.cell? (ad.add (k * 11)) = some (.string (sv (T k))) ∧ w.cell? ⟨(ad.add (k * 11)).block, (ad.add (k * 11)).off + 1, none⟩ = some (.int .i64 (V1 k)) ∧ w.cell? ⟨(ad.add (k * 11)).block, (ad.add (k * 11)).off + 2, none⟩ = some (.int .i64 (V2 k)) ∧ w.cell? ⟨(ad.add (k * 11)).block, (ad.add (k * 11)).off + 3, none⟩ = some (.int .i64 (V3 k)) ∧ w.cell? ⟨(ad.add (k * 11)).block, (ad.add (k * 11)).off + 4, none⟩ = some (.int .i64 (V4 k)) ∧ w.cell? ⟨(ad.add (k * 11)).block, (ad.add (k * 11)).off + 5, none⟩ = some (.int .i64 (V5 k)) ∧ w.cell? ⟨(ad.add (k * 11)).block, (ad.add (k * 11)).off + 6, none⟩ = some (.int .i64 (V6 k)) ∧ w.cell? ⟨(ad.add (k * 11)).block, (ad.add (k * 11)).off + 7, none⟩ = some (.int .i64 (V7 k)) ∧ w.cell? ⟨(ad.add (k * 11)).block, (ad.add (k * 11)).off + 8, none⟩ = some (.int .i64 (V8 k)) ∧ w.cell? ⟨(ad.add (k * 11)).block, (ad.add (k * 11)).off + 9, none⟩ = some (.int .i64 (V9 k)) ∧ w.cell? ⟨(ad.add (k * 11)).block, (ad.add (k * 11)).off + 10, none⟩ = some (.int .i64 (V10 k))))
    (TF : Hid (∀ k, k < n → ∀ w', Keep w w' → Calls Try.prog 52 #[.agg #[.string (sv (T k)), .int .i64 (V1 k), .int .i64 (V2 k), .int .i64 (V3 k), .int .i64 (V4 k), .int .i64 (V5 k), .int .i64 (V6 k), .int .i64 (V7 k), .int .i64 (V8 k), .int .i64 (V9 k), .int .i64 (V10 k)], .pointer (some ⟨c, 0, none⟩)] w' fun e w'' => e = .returned (.bool (B k)) ∧ Keep w' w''))
    (HI : Hid (ix B 0 n = r)) :
    Calls Try.prog 51 #[.slice a n cap, .func (.func 52) #[] #[.pointer (some ⟨c, 0, none⟩)]] w fun e w' => e = .returned (.int .i64 r) ∧ Keep w w' := by
  go_enter Try.func51, Try.ntmps51
  go_wp2_with fail
  go_loopw [8] (fun vi wr => ∃ k : Nat, vi = .int .i64 (k : Int) ∧ k ≤ n ∧ Hid (Keep w wr) ∧ Hid (ix B k (n - k) = r)) (fun vi _ => n - (intOf vi).toNat)
  case atStart => exact ⟨0, rfl, Nat.zero_le _, hide (Keep.refl _), HI⟩
  case round =>
    obtain ⟨k, rfl, hk, KW, HF⟩ := hrel
    by_cases hlt : k < n
    · have li : (k : Int) < (n : Int) := by omega
      obtain ⟨ad, rfl, hb, e0, e1, e2, e3, e4, e5, e6, e7, e8, e9, e10⟩ := (uq HC) k hlt
      have x0 := far_cell (uq KW) (by rw [add_block9]; exact hb) e0
      have x1 := far_cell (uq KW) (by show (ad.add (k * 11)).block < _; rw [add_block9]; exact hb) e1
      have x2 := far_cell (uq KW) (by show (ad.add (k * 11)).block < _; rw [add_block9]; exact hb) e2
      have x3 := far_cell (uq KW) (by show (ad.add (k * 11)).block < _; rw [add_block9]; exact hb) e3
      have x4 := far_cell (uq KW) (by show (ad.add (k * 11)).block < _; rw [add_block9]; exact hb) e4
      have x5 := far_cell (uq KW) (by show (ad.add (k * 11)).block < _; rw [add_block9]; exact hb) e5
      have x6 := far_cell (uq KW) (by show (ad.add (k * 11)).block < _; rw [add_block9]; exact hb) e6
      have x7 := far_cell (uq KW) (by show (ad.add (k * 11)).block < _; rw [add_block9]; exact hb) e7
      have x8 := far_cell (uq KW) (by show (ad.add (k * 11)).block < _; rw [add_block9]; exact hb) e8
      have x9 := far_cell (uq KW) (by show (ad.add (k * 11)).block < _; rw [add_block9]; exact hb) e9
      have x10 := far_cell (uq KW) (by show (ad.add (k * 11)).block < _; rw [add_block9]; exact hb) e10
      clear e0 e1 e2 e3 e4 e5 e6 e7 e8 e9 e10
      have TK := hide ((uq TF) k hlt _ (uq KW))
      cases hB : B k
      · have HF2 := hide (ix_no (uq HF) hlt hB)
        rw [hB] at TK
        clear hB HF
        go_wp2_with fail
        (refine (uq TK).mono ?_; rintro e w2 ⟨rfl, hk9⟩; have K2 := hide ((uq KW).trans hk9); clear hk9)
        go_wp2_with fail
        go_roundw
        case rel => exact ⟨k + 1, by go_num, by omega, K2, HF2⟩
        case measure => simp [intOf]; omega
      · have hr := ix_yes (uq HF) hlt hB
        rw [hB] at TK
        subst hr
        clear hB HF
        go_wp2_with fail
        (refine (uq TK).mono ?_; rintro e w2 ⟨rfl, hk9⟩; have K2 := hide ((uq KW).trans hk9); clear hk9)
        go_wp2_with fail
        go_ret
        exact ⟨rfl, uq K2⟩
    · have li : ¬ (k : Int) < (n : Int) := by omega
      have hr := ix_end (uq HF) (by omega)
      subst hr
      go_wp2_with fail
      go_ret
      exact ⟨rfl, uq KW⟩
set_option maxHeartbeats 2000000 in
theorem findHead (s : ByteArray) (x1 : Option Addr) (n1 c1 : Nat) (x2 : Option Addr) (n2 c2 : Nat) (x3 : Option Addr) (n3 c3 : Nat) (x4 : Option Addr) (n4 c4 : Nat) (x5 : Option Addr) (n5 c5 : Nat) (p : Int) (nm : List UInt8) (r : Int) (w : World)
    (TI : Hid (∀ w' c, Keep w w' → c < w'.heap.size → w'.cell? ⟨c, 0, none⟩ = some (.string (sv nm)) → Calls Try.prog 51 #[.slice x1 n1 c1, .func (.func 52) #[] #[.pointer (some ⟨c, 0, none⟩)]] w' fun e w'' => e = .returned (.int .i64 r) ∧ Keep w' w'')) :
    Calls Try.prog 25 #[.agg #[.string s, .slice x1 n1 c1, .slice x2 n2 c2, .slice x3 n3 c3, .slice x4 n4 c4, .slice x5 n5 c5, .int .i64 p], .string (sv nm)] w fun e w' => e = .returned (.int .i64 r) ∧ Keep w w' := by
  have hmf : ∀ (fn : Fn) (first cap : Array Value) (w : World), (Instr.makeFunc fn first cap).run Try.prog w = .ok (.func fn first cap) w := fun _ _ _ _ => rfl
  have K := hide (((Keep.refl w).alloc (.cells #[.string s, .slice x1 n1 c1, .slice x2 n2 c2, .slice x3 n3 c3, .slice x4 n4 c4, .slice x5 n5 c5, .int .i64 p] 40)).alloc (.cells #[.string (sv nm)] 9))
  go_enter Try.func25, Try.ntmps25
  go_wp2_with fail
  (refine ((uq TI) _ _ (uq K) (by simp) (by simp [go_sem])).mono ?_; rintro e w1 ⟨rfl, hk⟩)
  go_wp2_with fail
  go_ret
  exact ⟨rfl, (uq K).trans hk⟩
set_option maxHeartbeats 2000000 in
theorem ixfHome (a : Option Addr) (n cap c : Nat) (T : Nat → List UInt8) (A : Nat → Option Addr) (N C : Nat → Nat) (P : Nat → Int) (B : Nat → Bool) (r : Int) (w : World) (hn : n ≤ 9223372036854775807)
    (HC : Hid (∀ k, k < n → ∃ ad, a = some ad ∧ ad.block < w.heap.size ∧ w.cell? (ad.add (k * 3)) = some (.string (sv (T k))) ∧ w.cell? ⟨(ad.add (k * 3)).block, (ad.add (k * 3)).off + 1, none⟩ = some (.slice (A k) (N k) (C k)) ∧ w.cell? ⟨(ad.add (k * 3)).block, (ad.add (k * 3)).off + 2, none⟩ = some (.int .i64 (P k))))
    (TF : Hid (∀ k, k < n → ∀ w', Keep w w' → Calls Try.prog 16 #[.agg #[.string (sv (T k)), .slice (A k) (N k) (C k), .int .i64 (P k)], .pointer (some ⟨c, 0, none⟩)] w' fun e w'' => e = .returned (.bool (B k)) ∧ Keep w' w''))
    (HI : Hid (ix B 0 n = r)) :
    Calls Try.prog 15 #[.slice a n cap, .func (.func 16) #[] #[.pointer (some ⟨c, 0, none⟩)]] w fun e w' => e = .returned (.int .i64 r) ∧ Keep w w' := by
  go_enter Try.func15, Try.ntmps15
  go_wp2_with fail
  go_loopw [8] (fun vi wr => ∃ k : Nat, vi = .int .i64 (k : Int) ∧ k ≤ n ∧ Hid (Keep w wr) ∧ Hid (ix B k (n - k) = r)) (fun vi _ => n - (intOf vi).toNat)
  case atStart => exact ⟨0, rfl, Nat.zero_le _, hide (Keep.refl _), HI⟩
  case round =>
    obtain ⟨k, rfl, hk, KW, HF⟩ := hrel
    by_cases hlt : k < n
    · have li : (k : Int) < (n : Int) := by omega
      obtain ⟨ad, rfl, hb, e0, e1, e2⟩ := (uq HC) k hlt
      have x0 := far_cell (uq KW) (by rw [add_block9]; exact hb) e0
      have x1 := far_cell (uq KW) (by show (ad.add (k * 3)).block < _; rw [add_block9]; exact hb) e1
      have x2 := far_cell (uq KW) (by show (ad.add (k * 3)).block < _; rw [add_block9]; exact hb) e2
      clear e0 e1 e2
      have TK := hide ((uq TF) k hlt _ (uq KW))
      cases hB : B k
      · have HF2 := hide (ix_no (uq HF) hlt hB)
        rw [hB] at TK
        clear hB HF
        go_wp2_with fail
        (refine (uq TK).mono ?_; rintro e w2 ⟨rfl, hk9⟩; have K2 := hide ((uq KW).trans hk9); clear hk9)
        go_wp2_with fail
        go_roundw
        case rel => exact ⟨k + 1, by go_num, by omega, K2, HF2⟩
        case measure => simp [intOf]; omega
      · have hr := ix_yes (uq HF) hlt hB
        rw [hB] at TK
        subst hr
        clear hB HF
        go_wp2_with fail
        (refine (uq TK).mono ?_; rintro e w2 ⟨rfl, hk9⟩; have K2 := hide ((uq KW).trans hk9); clear hk9)
        go_wp2_with fail
        go_ret
        exact ⟨rfl, uq K2⟩
    · have li : ¬ (k : Int) < (n : Int) := by omega
      have hr := ix_end (uq HF) (by omega)
      subst hr
      go_wp2_with fail
      go_ret
      exact ⟨rfl, uq KW⟩
set_option maxHeartbeats 2000000 in
theorem findHome (s : ByteArray) (x1 : Option Addr) (n1 c1 : Nat) (x2 : Option Addr) (n2 c2 : Nat) (x3 : Option Addr) (n3 c3 : Nat) (x4 : Option Addr) (n4 c4 : Nat) (x5 : Option Addr) (n5 c5 : Nat) (p : Int) (nm : List UInt8) (r : Int) (w : World)
    (TI : Hid (∀ w' c, Keep w w' → c < w'.heap.size → w'.cell? ⟨c, 0, none⟩ = some (.string (sv nm)) → Calls Try.prog 15 #[.slice x3 n3 c3, .func (.func 16) #[] #[.pointer (some ⟨c, 0, none⟩)]] w' fun e w'' => e = .returned (.int .i64 r) ∧ Keep w' w'')) :
    Calls Try.prog 7 #[.agg #[.string s, .slice x1 n1 c1, .slice x2 n2 c2, .slice x3 n3 c3, .slice x4 n4 c4, .slice x5 n5 c5, .int .i64 p], .string (sv nm)] w fun e w' => e = .returned (.int .i64 r) ∧ Keep w w' := by
  have hmf : ∀ (fn : Fn) (first cap : Array Value) (w : World), (Instr.makeFunc fn first cap).run Try.prog w = .ok (.func fn first cap) w := fun _ _ _ _ => rfl
  have K := hide (((Keep.refl w).alloc (.cells #[.string s, .slice x1 n1 c1, .slice x2 n2 c2, .slice x3 n3 c3, .slice x4 n4 c4, .slice x5 n5 c5, .int .i64 p] 40)).alloc (.cells #[.string (sv nm)] 9))
  go_enter Try.func7, Try.ntmps7
  go_wp2_with fail
  (refine ((uq TI) _ _ (uq K) (by simp) (by simp [go_sem])).mono ?_; rintro e w1 ⟨rfl, hk⟩)
  go_wp2_with fail
  go_ret
  exact ⟨rfl, (uq K).trans hk⟩
end V
end Go.Proofs.Ytjincjlalopbfaa

namespace Go.Proofs.Ytjincjlalopbfaa
open Go.RowKit
attribute [local go_sem ↓] Go.wp_at_zero Go.wp_at_succ
set_option linter.unusedVariables false
set_option linter.unusedSimpArgs false
set_option maxRecDepth 10000
namespace V
theorem ta_ern (c : Int) (w : World) : (Instr.typeAssert (.iface 30 (.int .i64 c)) 20 30 true).run Try.prog w = .ok (.tuple #[.int .i64 c, .bool true]) w := by kernel_rfl
theorem ta_flt (c p : Int) (w : World) : (Instr.typeAssert (.iface 81 (.agg #[.int .i64 c, .int .i64 p])) 20 30 true).run Try.prog w = .ok (.tuple #[.int .i64 0, .bool false]) w := by kernel_rfl
theorem ta_flt2 (c p : Int) (w : World) : (Instr.typeAssert (.iface 81 (.agg #[.int .i64 c, .int .i64 p])) 20 81 true).run Try.prog w = .ok (.tuple #[.agg #[.int .i64 c, .int .i64 p], .bool true]) w := by kernel_rfl
set_option maxHeartbeats 2000000 in
theorem catch_idle (p q : Addr) (w : World) :
    CallsD Try.prog 18 #[.pointer (some p), .pointer (some q)] .returning w fun e u' w' => e = .returned (.tuple #[]) ∧ u' = .returning ∧ w' = w := by
  refine callsD_of_wpS Try.func18 rfl fun c₀ cs hu => ?_
  apply wpS_seq
  apply wpS_region
  simp [wpOpsS, go_sem, recoverD, hu, Try.ntmps18, Exit.thenS]
  rw [show #[Value.pointer (some p), Value.pointer (some q)] ++ (Array.replicate 18 undef).setIfInBounds 4 Value.nilIface = #[.pointer (some p), .pointer (some q), undef, undef, undef, undef, Value.nilIface, undef, undef, undef, undef, undef, undef, undef, undef, undef, undef, undef, undef, undef] from rfl]
  refine wpS_of_wp ?_
  refine (?_ : ∀ Q : Exit → Act → World → Prop, (∀ t, Q Exit.normal ⟨t, []⟩ w) → Code.wp Try.prog _ Q _ w) _ ?_
  · clear hu
    intro Q hQ
    have HQ := hide hQ
    clear hQ
    go_wp2_with fail
    exact (uq HQ) _
  · intro t
    cases c₀
    simp_all [bodyPostS, results, Try.results18]
set_option maxHeartbeats 2000000 in
theorem catch_ern (b g : Nat) (c : Int) (v : Value) (w : World) (hc : w.cell? ⟨b, 0, none⟩ = some v) (hz : w.frozen? ⟨b, 0, none⟩ = false) :
    CallsD Try.prog 18 #[.pointer (some ⟨b, 0, none⟩), .pointer (some ⟨g, 0, none⟩)] (.panicking [{ v := ern c, recovered := false }]) w fun e u' w' => e = .returned (.tuple #[]) ∧ u' = .panicking [{ v := ern c, recovered := true }] ∧ w' = w.setCell ⟨b, 0, none⟩ (.int .i64 c) := by
  refine callsD_of_wpS Try.func18 rfl fun c₀ cs hu => ?_
  apply wpS_seq
  apply wpS_region
  simp [wpOpsS, go_sem, recoverD, hu, Try.ntmps18, Exit.thenS]
  rw [show #[Value.pointer (some ⟨b, 0, none⟩), Value.pointer (some ⟨g, 0, none⟩)] ++ (Array.replicate 18 undef).setIfInBounds 4 (ern c) = #[.pointer (some ⟨b, 0, none⟩), .pointer (some ⟨g, 0, none⟩), undef, undef, undef, undef, (ern c), undef, undef, undef, undef, undef, undef, undef, undef, undef, undef, undef, undef, undef] from rfl]
  refine wpS_of_wp ?_
  refine (?_ : ∀ Q : Exit → Act → World → Prop, (∀ t, Q Exit.normal ⟨t, []⟩ (w.setCell ⟨b, 0, none⟩ (.int .i64 c))) → Code.wp Try.prog _ Q _ w) _ ?_
  · clear hu
    intro Q hQ
    have HQ := hide hQ
    clear hQ
    have h1 := ta_ern
    unfold ern
    go_wp2_with fail
    exact (uq HQ) _
  · intro t
    simp [bodyPostS, results, Try.results18, hu]
end V
end Go.Proofs.Ytjincjlalopbfaa

namespace Go.Proofs.Ytjincjlalopbfaa
open Go.RowKit
attribute [local go_sem ↓] Go.wp_at_zero Go.wp_at_succ
set_option linter.unusedVariables false
set_option linter.unusedSimpArgs false
set_option maxRecDepth 10000
namespace V
def Fq (b g : Nat) (c p : Int) (w : World) (e : Exit) (a : Act) (W : World) : Prop := match e with
  | .normal => a.defers = [] ∧ W.cell? ⟨b, 0, none⟩ = some (.int .i64 c) ∧ W.cell? ⟨g, 0, none⟩ = some (.int .i64 p) ∧ ∀ B, B ≤ b → B ≤ g → Below B w W
  | _ => False
set_option maxHeartbeats 2000000 in
theorem catch_flt (b g : Nat) (c p : Int) (v v2 : Value) (w : World) (hbg : ¬ b = g) (hgb : ¬ g = b) (hb : b < w.heap.size) (hg : g < w.heap.size) (hc : w.cell? ⟨b, 0, none⟩ = some v) (hz : w.frozen? ⟨b, 0, none⟩ = false) (hc2 : w.cell? ⟨g, 0, none⟩ = some v2) (hz2 : w.frozen? ⟨g, 0, none⟩ = false) :
    CallsD Try.prog 18 #[.pointer (some ⟨b, 0, none⟩), .pointer (some ⟨g, 0, none⟩)] (.panicking [{ v := flt c p, recovered := false }]) w fun e u' w' => e = .returned (.tuple #[]) ∧ u' = .panicking [{ v := flt c p, recovered := true }] ∧ (w'.cell? ⟨b, 0, none⟩ = some (.int .i64 c) ∧ w'.cell? ⟨g, 0, none⟩ = some (.int .i64 p) ∧ ∀ B, B ≤ b → B ≤ g → Below B w w') := by
  refine callsD_of_wpS Try.func18 rfl fun c₀ cs hu => ?_
  apply wpS_seq
  apply wpS_region
  simp [wpOpsS, go_sem, recoverD, hu, Try.ntmps18, Exit.thenS]
  rw [show #[Value.pointer (some ⟨b, 0, none⟩), Value.pointer (some ⟨g, 0, none⟩)] ++ (Array.replicate 18 undef).setIfInBounds 4 (flt c p) = #[.pointer (some ⟨b, 0, none⟩), .pointer (some ⟨g, 0, none⟩), undef, undef, undef, undef, (flt c p), undef, undef, undef, undef, undef, undef, undef, undef, undef, undef, undef, undef, undef] from rfl]
  refine wpS_of_wp ?_
  refine wp_mono (Q := Fq b g c p w) ?_ ?_
  · clear hu
    have h1 := ta_flt
    have h2 := ta_flt2
    unfold flt
    have nb : ¬ b = w.heap.size := by omega
    have ng : ¬ g = w.heap.size := by omega
    have nb' : ¬ w.heap.size = b := by omega
    have ng' : ¬ w.heap.size = g := by omega
    go_upto_region 10 with fail
    refine wp_region_held_drew (S := (fun w' => w'.cell? ⟨w.heap.size, 0, none⟩ = some (.int .i64 c) ∧ w'.cell? ⟨w.heap.size, 1, none⟩ = some (.int .i64 p))) (by kernel_rfl) (by simp [go_sem]) (fun hHeld => ?_)
    refine tkk 0 16 hHeld ?_; try simp only [Act.put, Ya, Yb, Yc]
    refine tkk 1 17 hHeld ?_; try simp only [Act.put, Ya, Yb, Yc]
    refine tkk 2 18 hHeld ?_; try simp only [Act.put, Ya, Yb, Yc]
    refine tkk 3 19 hHeld ?_; try simp only [Act.put, Ya, Yb, Yc]
    refine rdyy 4 (fun K hK => ?_)
    go_simp
    clear hHeld
    refine hK.out _ _ ?_ (fun hHeld => ?_)
    · simp [go_sem, nb, ng, nb', ng', hb, hg]
    clear hK K
    try simp only [Act.put, Ya, Yb, Yc]
    refine rdyy 5 (fun K hK => ?_)
    go_simp
    clear hHeld
    refine hK.out _ _ ?_ (fun hHeld => ?_)
    · simp [go_sem, nb, ng, nb', ng', hb, hg]
    clear hK K
    try simp only [Act.put, Ya, Yb, Yc]
    refine wpAnyH_done (by kernel_rfl) ?_ _
    clear hHeld
    go_wp2_with fail
    refine ⟨rfl, ?_, ?_, ?_⟩
    · simp [go_sem, hbg, hgb, hb, hg, hc, hz, hc2, hz2]
    · simp [go_sem, hbg, hgb, hb, hg, hc, hz, hc2, hz2]
    · intro B h3 h4
      repeat (first | exact Below.refl _ _ | (refine Below.setCell ?_ (by first | exact h3 | exact h4) _) | apply Below.drew | (refine Below.alloc ?_ (by simp; omega) _))
  · intro e a W hq
    cases e with
    | normal =>
      obtain ⟨q0, q1, q2, q3⟩ := hq
      obtain ⟨t, d⟩ := a
      simp only at q0
      subst q0
      simp [bodyPostS, results, Try.results18, hu, q1, q2]
      exact q3
    | _ => exact hq.elim
end V
end Go.Proofs.Ytjincjlalopbfaa
