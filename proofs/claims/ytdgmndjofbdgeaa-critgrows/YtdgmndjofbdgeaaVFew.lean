/- Bytes appended to bytes that the call owns. -/
import Derived.Test.YtdgmndjofbdgeaaLToks
import Derived.Test.YtdgmndjofbdgeaaVCl
import Derived.Deep.DrawnRows
import Derived.Deep.RegionHeld
namespace Go.Proofs.Ytdgmndjofbdgeaa
open Go.RowKit
set_option linter.unusedVariables false
set_option linter.unusedSimpArgs false
set_option maxRecDepth 10000
/-- bytes as cells -/
def bc (l : List UInt8) : List Value := l.map fun x => Value.int .u8 (x.toNat : Int)
end Go.Proofs.Ytdgmndjofbdgeaa

namespace Go.Proofs.Ytdgmndjofbdgeaa
open Go.RowKit
attribute [local go_sem ↓] Go.wp_at_zero Go.wp_at_succ
set_option linter.unusedVariables false
set_option linter.unusedSimpArgs false
set_option maxRecDepth 10000
namespace S
/-- a row of texts that can be read -/
def Rw (w : World) (v : Value) : Prop := ∃ (a : Option Addr) (n cap : Nat) (X : Nat → ByteArray), v = .slice a n cap ∧ n ≤ cap ∧ ∀ k, k < n → ∃ ad, a = some ad ∧ ad.block < w.heap.size ∧ w.cell? (ad.add k) = some (.string (X k))
theorem Rw.keep {w w' : World} {v : Value} (h : Rw w v) (k : Keep w w') : Rw w' v := by
  obtain ⟨a, n, cap, X, rfl, hc, h⟩ := h
  refine ⟨a, n, cap, X, rfl, hc, fun j hj => ?_⟩
  obtain ⟨ad, e, hb, h1⟩ := h j hj
  exact ⟨ad, e, Nat.lt_of_lt_of_le hb k.size, Q.kcell k h1⟩
/-- some truth value, and the world as it was; or one that keeps it -/
def Ab (w : World) (e : Ending) (w' : World) : Prop := ∃ b, e = .returned (.bool b) ∧ w' = w
def Ak (w : World) (e : Ending) (w' : World) : Prop := ∃ b, e = .returned (.bool b) ∧ Keep w w'
set_option maxHeartbeats 2000000 in
theorem strs_core (a : Option Addr) (n cap : Nat) (X : Nat → ByteArray) (w : World) (HC : Hid (∀ k, k < n → ∃ ad, a = some ad ∧ w.cell? (ad.add k) = some (.string (X k)))) :
    Calls Try.prog 43 #[.slice a n cap] w (Ab w) := by
  go_enter Try.func43, Try.ntmps43
  go_wp2_with fail
  go_loopw [3] (fun vi wr => ∃ k : Nat, k ≤ n ∧ vi = .int .i64 (k : Int) ∧ wr = w) (fun vi _ => n - (intOf vi).toNat)
  case atStart => exact ⟨0, Nat.zero_le _, rfl, rfl⟩
  case round =>
    obtain ⟨k, hk, rfl, rfl⟩ := hrel
    by_cases hlt : k < n
    · have li : (k : Int) < (n : Int) := by omega
      by_cases h5 : k < 50
      · have l5 : (k : Int) < 50 := by omega
        obtain ⟨ad, rfl, e0⟩ := (uq HC) k hlt
        by_cases h1 : (100 : Int) < ((X k).size : Int)
        · go_wp2_with fail
          go_ret
          exact ⟨_, rfl, rfl⟩
        · go_wp2_with fail
          go_roundw
          case rel => exact ⟨k + 1, hlt, by go_num, by first | rfl | trivial⟩
          case measure => simp [intOf]; omega
      · have l5 : ¬ (k : Int) < 50 := by omega
        go_wp2_with fail
        go_ret
        exact ⟨_, rfl, rfl⟩
    · have li : ¬ (k : Int) < (n : Int) := by omega
      go_wp2_with fail
      go_ret
      exact ⟨_, rfl, rfl⟩
theorem strs_any (v : Value) (w : World) (h : Rw w v) : Calls Try.prog 43 #[v] w (Ab w) := by
  obtain ⟨a, n, cap, X, rfl, _, h⟩ := h
  exact strs_core a n cap X w (hide fun k hk => by obtain ⟨ad, e, _, h1⟩ := h k hk; exact ⟨ad, e, h1⟩)
end S
end Go.Proofs.Ytdgmndjofbdgeaa
