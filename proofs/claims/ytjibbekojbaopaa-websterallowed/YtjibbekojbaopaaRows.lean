/-
  No cell of these rows narrows 'for every input' (looked for: loops, veiled, ifaces, maps, wideKeys, modest, calm, conditions, laid).
  DERIVED. THE GIVEN ROWS OF THIS SEAT. 5 by the template 'for every input the law returns true; each argument reads behind the call as it read before'; 0 by the template 'total and deterministic' (their statements: YtjibbekojbaopaaTotals.lean).
  GIVEN WITH THE SEED: the statements are not yours to turn. If you find one false, say at which input.
  Laid BY PROGRAM, IN A SANDBOX (cutbox-rows.mjs): the forced cells as the released guide's own fill.sh prints them over the translation 52f95f42b35cc9c2… (all of the seat's roots in one cut). By AI agents, Wed Nov 11 2026. No macro, syntax, notation, axiom, sorry.
-/
import Derived.Test.YtjibbekojbaopaaChecked
import GoSem.Claim
import GoSem.ClaimJoined
import GoSem.ClaimMapViews
import Derived.JoinedTies
import Derived.KernelRfl
namespace Go.Proofs.Ytjibbekojbaopaa
/- THE CELL 'sum', in the pinned program and in every row, IS THE sha256 OF THE DUMP (.gsa) THAT YtjibbekojbaopaaProg.lean LOADS. Nothing in Lean hashes anything: it is a label: what it is worth is what the hold of that sum in a sandbox is worth. -/
noncomputable def Try.pinned : Pinned := { name := "ytjibbekojbaopaa", sum := "52f95f42b35cc9c202ae76792a5b2468a5f0256aa265a41c28e112f7f52987ab", checked := Try.checked }
namespace Rows
def none {H : Type} : Left H := { results := [], args := [] }

/-- 'carrefourlaw12.WebsterCycle': WHATEVER THE INPUT: true; the input reads as it did. -/
def websterCycleSpec : ChangeSpec := { name := "websterCycle", fn := fun _ => fun
  | [d1, d2] => { results := [.lit (.bool true)], args := [d1, d2] }
  | _ => none }
def websterCycleRow : OpenClaim := { program := "ytjibbekojbaopaa", sum := "52f95f42b35cc9c202ae76792a5b2468a5f0256aa265a41c28e112f7f52987ab", func := "carrefour/carrefourlaw12.WebsterCycle", spec := "websterCycle", inPlace := ["math/bits.Add64", "math/bits.Sub64"], unfollowed := true, recurses := true, named := ["math/bits.divideError", "math/bits.overflowError"], apart := false }
def WebsterCycleSaid : Prop := websterCycleRow.holds Try.pinned (OpenSpec.ofChange websterCycleSpec)

/-- ITS FALSE NEIGHBOUR: 'it returns false'. Refute it at one input. -/
def websterCycleWrong : ChangeSpec := { name := "websterCycle", fn := fun _ => fun
  | [d1, d2] => { results := [.lit (.bool false)], args := [d1, d2] }
  | _ => none }
def WebsterCycleWrongFalsely : Prop := websterCycleRow.holds Try.pinned (OpenSpec.ofChange websterCycleWrong)

/-- 'carrefourlaw12.WebsterAllowed': WHATEVER THE INPUT: true; the input reads as it did. -/
def websterAllowedSpec : ChangeSpec := { name := "websterAllowed", fn := fun _ => fun
  | [d1, d2] => { results := [.lit (.bool true)], args := [d1, d2] }
  | _ => none }
def websterAllowedRow : OpenClaim := { program := "ytjibbekojbaopaa", sum := "52f95f42b35cc9c202ae76792a5b2468a5f0256aa265a41c28e112f7f52987ab", func := "carrefour/carrefourlaw12.WebsterAllowed", spec := "websterAllowed", inPlace := ["math/bits.Add64", "math/bits.Sub64"], unfollowed := true, recurses := true, named := ["math/bits.divideError", "math/bits.overflowError"], apart := false }
def WebsterAllowedSaid : Prop := websterAllowedRow.holds Try.pinned (OpenSpec.ofChange websterAllowedSpec)

/-- ITS FALSE NEIGHBOUR: 'it returns false'. Refute it at one input. -/
def websterAllowedWrong : ChangeSpec := { name := "websterAllowed", fn := fun _ => fun
  | [d1, d2] => { results := [.lit (.bool false)], args := [d1, d2] }
  | _ => none }
def WebsterAllowedWrongFalsely : Prop := websterAllowedRow.holds Try.pinned (OpenSpec.ofChange websterAllowedWrong)

/-- 'carrefourlaw12.WebsterLost': WHATEVER THE INPUT: true; the input reads as it did. -/
def websterLostSpec : ChangeSpec := { name := "websterLost", fn := fun _ => fun
  | [d1, d2] => { results := [.lit (.bool true)], args := [d1, d2] }
  | _ => none }
def websterLostRow : OpenClaim := { program := "ytjibbekojbaopaa", sum := "52f95f42b35cc9c202ae76792a5b2468a5f0256aa265a41c28e112f7f52987ab", func := "carrefour/carrefourlaw12.WebsterLost", spec := "websterLost", inPlace := ["math/bits.Add64", "math/bits.Sub64"], unfollowed := true, recurses := true, named := ["math/bits.divideError", "math/bits.overflowError"], apart := false }
def WebsterLostSaid : Prop := websterLostRow.holds Try.pinned (OpenSpec.ofChange websterLostSpec)

/-- ITS FALSE NEIGHBOUR: 'it returns false'. Refute it at one input. -/
def websterLostWrong : ChangeSpec := { name := "websterLost", fn := fun _ => fun
  | [d1, d2] => { results := [.lit (.bool false)], args := [d1, d2] }
  | _ => none }
def WebsterLostWrongFalsely : Prop := websterLostRow.holds Try.pinned (OpenSpec.ofChange websterLostWrong)

/-- 'carrefourlaw12.WebsterLeast': WHATEVER THE INPUT: true; the input reads as it did. -/
def websterLeastSpec : ChangeSpec := { name := "websterLeast", fn := fun _ => fun
  | [d1, d2] => { results := [.lit (.bool true)], args := [d1, d2] }
  | _ => none }
def websterLeastRow : OpenClaim := { program := "ytjibbekojbaopaa", sum := "52f95f42b35cc9c202ae76792a5b2468a5f0256aa265a41c28e112f7f52987ab", func := "carrefour/carrefourlaw12.WebsterLeast", spec := "websterLeast", inPlace := ["math/bits.Add64", "math/bits.Sub64"], unfollowed := true, recurses := true, named := ["math/bits.divideError", "math/bits.overflowError"], apart := false }
def WebsterLeastSaid : Prop := websterLeastRow.holds Try.pinned (OpenSpec.ofChange websterLeastSpec)

/-- ITS FALSE NEIGHBOUR: 'it returns false'. Refute it at one input. -/
def websterLeastWrong : ChangeSpec := { name := "websterLeast", fn := fun _ => fun
  | [d1, d2] => { results := [.lit (.bool false)], args := [d1, d2] }
  | _ => none }
def WebsterLeastWrongFalsely : Prop := websterLeastRow.holds Try.pinned (OpenSpec.ofChange websterLeastWrong)

/-- 'carrefourlaw12.WebsterNext': WHATEVER THE INPUT: true; the input reads as it did. -/
def websterNextSpec : ChangeSpec := { name := "websterNext", fn := fun _ => fun
  | [d1, d2] => { results := [.lit (.bool true)], args := [d1, d2] }
  | _ => none }
def websterNextRow : OpenClaim := { program := "ytjibbekojbaopaa", sum := "52f95f42b35cc9c202ae76792a5b2468a5f0256aa265a41c28e112f7f52987ab", func := "carrefour/carrefourlaw12.WebsterNext", spec := "websterNext", inPlace := ["math/bits.Add64", "math/bits.Sub64"], unfollowed := true, recurses := true, named := ["math/bits.divideError", "math/bits.overflowError"], apart := false }
def WebsterNextSaid : Prop := websterNextRow.holds Try.pinned (OpenSpec.ofChange websterNextSpec)

/-- ITS FALSE NEIGHBOUR: 'it returns false'. Refute it at one input. -/
def websterNextWrong : ChangeSpec := { name := "websterNext", fn := fun _ => fun
  | [d1, d2] => { results := [.lit (.bool false)], args := [d1, d2] }
  | _ => none }
def WebsterNextWrongFalsely : Prop := websterNextRow.holds Try.pinned (OpenSpec.ofChange websterNextWrong)

/- THE SECOND FORM. 'bulk': how many values and letters a reading holds, each counted each time it is reached (what is shared counts as often as it is met; a slice's spare places count too). A statement '..UptoSaid' is the law's where the arguments, and the package variables that the reading takes, are together of bulk at most 1048576: NARROWER than '..Said'. Prove '..Said' where nothing that the law and all that it calls make is longer than what came in: it says more and counts as full. Else prove '..UptoSaid'. A law counts once. -/
mutual
def uptoBulk {H : Type} : DataW H → Nat
  | .lit (.string bytes) => bytes.length + 1
  | .lit _ => 1
  | .nil => 1
  | .ptr d => uptoBulk d + 1
  | .slice elems spare => uptoBulkAll elems + uptoBulkAll spare + 1
  | .agg parts => uptoBulkAll parts + 1
  | .iface _ d => uptoBulk d + 1
  | .map entries => uptoBulkEntries entries + 1
  | .held _ => 1
def uptoBulkAll {H : Type} : List (DataW H) → Nat
  | [] => 0
  | d :: r => uptoBulk d + uptoBulkAll r
def uptoBulkEntries {H : Type} : List (Lit × DataW H) → Nat
  | [] => 0
  | x :: r => uptoBulkEntry x + uptoBulkEntries r
def uptoBulkEntry {H : Type} : Lit × DataW H → Nat
  | (.string bytes, d) => bytes.length + uptoBulk d + 1
  | (_, d) => uptoBulk d + 1
 end
def uptoSmall : (H : Type) → List (DataW H) → Bool := fun _ ds => decide (uptoBulkAll ds ≤ 1048576)
def OpenSpec.upto (s : _root_.Go.ChangeSpec) : _root_.Go.OpenSpec := { _root_.Go.OpenSpec.ofChange s with cond := some uptoSmall }

/-- 'carrefourlaw12.WebsterCycle', WHERE WHAT IT READS IS OF BULK AT MOST 1048576: true; the input reads as it did. -/
def websterCycleUptoRow : OpenClaim := { program := "ytjibbekojbaopaa", sum := "52f95f42b35cc9c202ae76792a5b2468a5f0256aa265a41c28e112f7f52987ab", func := "carrefour/carrefourlaw12.WebsterCycle", spec := "websterCycle", inPlace := ["math/bits.Add64", "math/bits.Sub64"], unfollowed := true, recurses := true, named := ["math/bits.divideError", "math/bits.overflowError"], apart := false, narrowed := true }
def WebsterCycleUptoSaid : Prop := websterCycleUptoRow.holds Try.pinned (OpenSpec.upto websterCycleSpec)

/-- 'carrefourlaw12.WebsterAllowed', WHERE WHAT IT READS IS OF BULK AT MOST 1048576: true; the input reads as it did. -/
def websterAllowedUptoRow : OpenClaim := { program := "ytjibbekojbaopaa", sum := "52f95f42b35cc9c202ae76792a5b2468a5f0256aa265a41c28e112f7f52987ab", func := "carrefour/carrefourlaw12.WebsterAllowed", spec := "websterAllowed", inPlace := ["math/bits.Add64", "math/bits.Sub64"], unfollowed := true, recurses := true, named := ["math/bits.divideError", "math/bits.overflowError"], apart := false, narrowed := true }
def WebsterAllowedUptoSaid : Prop := websterAllowedUptoRow.holds Try.pinned (OpenSpec.upto websterAllowedSpec)

/-- 'carrefourlaw12.WebsterLost', WHERE WHAT IT READS IS OF BULK AT MOST 1048576: true; the input reads as it did. -/
def websterLostUptoRow : OpenClaim := { program := "ytjibbekojbaopaa", sum := "52f95f42b35cc9c202ae76792a5b2468a5f0256aa265a41c28e112f7f52987ab", func := "carrefour/carrefourlaw12.WebsterLost", spec := "websterLost", inPlace := ["math/bits.Add64", "math/bits.Sub64"], unfollowed := true, recurses := true, named := ["math/bits.divideError", "math/bits.overflowError"], apart := false, narrowed := true }
def WebsterLostUptoSaid : Prop := websterLostUptoRow.holds Try.pinned (OpenSpec.upto websterLostSpec)

/-- 'carrefourlaw12.WebsterLeast', WHERE WHAT IT READS IS OF BULK AT MOST 1048576: true; the input reads as it did. -/
def websterLeastUptoRow : OpenClaim := { program := "ytjibbekojbaopaa", sum := "52f95f42b35cc9c202ae76792a5b2468a5f0256aa265a41c28e112f7f52987ab", func := "carrefour/carrefourlaw12.WebsterLeast", spec := "websterLeast", inPlace := ["math/bits.Add64", "math/bits.Sub64"], unfollowed := true, recurses := true, named := ["math/bits.divideError", "math/bits.overflowError"], apart := false, narrowed := true }
def WebsterLeastUptoSaid : Prop := websterLeastUptoRow.holds Try.pinned (OpenSpec.upto websterLeastSpec)

/-- 'carrefourlaw12.WebsterNext', WHERE WHAT IT READS IS OF BULK AT MOST 1048576: true; the input reads as it did. -/
def websterNextUptoRow : OpenClaim := { program := "ytjibbekojbaopaa", sum := "52f95f42b35cc9c202ae76792a5b2468a5f0256aa265a41c28e112f7f52987ab", func := "carrefour/carrefourlaw12.WebsterNext", spec := "websterNext", inPlace := ["math/bits.Add64", "math/bits.Sub64"], unfollowed := true, recurses := true, named := ["math/bits.divideError", "math/bits.overflowError"], apart := false, narrowed := true }
def WebsterNextUptoSaid : Prop := websterNextUptoRow.holds Try.pinned (OpenSpec.upto websterNextSpec)

end Rows
end Go.Proofs.Ytjibbekojbaopaa
