/-
  No cell of these rows narrows 'for every input' (looked for: loops, veiled, ifaces, maps, wideKeys, modest, calm, conditions, laid).
  DERIVED. THE GIVEN ROWS OF THIS SEAT. 3 by the template 'for every input the law returns true; each argument reads behind the call as it read before'; 0 by the template 'total and deterministic' (their statements: YtfholjcncnbocaaTotals.lean).
  GIVEN WITH THE SEED: the statements are not yours to turn. If you find one false, say at which input.
  Laid BY PROGRAM, IN A SANDBOX (cutbox-rows.mjs): the forced cells as the released guide's own fill.sh prints them over the translation 100039d798764cbd… (all of the seat's roots in one cut). By AI agents, Wed Nov 11 2026. No macro, syntax, notation, axiom, sorry.
-/
import Derived.Test.YtfholjcncnbocaaChecked
import GoSem.Claim
import GoSem.ClaimJoined
import GoSem.ClaimMapViews
import Derived.JoinedTies
import Derived.KernelRfl
namespace Go.Proofs.Ytfholjcncnbocaa
/- THE CELL 'sum', in the pinned program and in every row, IS THE sha256 OF THE DUMP (.gsa) THAT YtfholjcncnbocaaProg.lean LOADS. Nothing in Lean hashes anything: it is a label: what it is worth is what the hold of that sum in a sandbox is worth. -/
noncomputable def Try.pinned : Pinned := { name := "ytfholjcncnbocaa", sum := "100039d798764cbdcad801b6d9aedc264c0ed73941f0b8c35646e1093623c0b3", checked := Try.checked }
namespace Rows
def none {H : Type} : Left H := { results := [], args := [] }

/-- 'carrefourlaw08.ClearTimes': WHATEVER THE INPUT: true; the input reads as it did. -/
def clearTimesSpec : ChangeSpec := { name := "clearTimes", fn := fun _ => fun
  | [d1, d2, d3] => { results := [.lit (.bool true)], args := [d1, d2, d3] }
  | _ => none }
def clearTimesRow : OpenClaim := { program := "ytfholjcncnbocaa", sum := "100039d798764cbdcad801b6d9aedc264c0ed73941f0b8c35646e1093623c0b3", func := "carrefour/carrefourlaw08.ClearTimes", spec := "clearTimes", apart := false }
def ClearTimesSaid : Prop := clearTimesRow.holds Try.pinned (OpenSpec.ofChange clearTimesSpec)

/-- ITS FALSE NEIGHBOUR: 'it returns false'. Refute it at one input. -/
def clearTimesWrong : ChangeSpec := { name := "clearTimes", fn := fun _ => fun
  | [d1, d2, d3] => { results := [.lit (.bool false)], args := [d1, d2, d3] }
  | _ => none }
def ClearTimesWrongFalsely : Prop := clearTimesRow.holds Try.pinned (OpenSpec.ofChange clearTimesWrong)

/-- 'carrefourlaw08.ClearEnough': WHATEVER THE INPUT: true; the input reads as it did. -/
def clearEnoughSpec : ChangeSpec := { name := "clearEnough", fn := fun _ => fun
  | [d1, d2, d3] => { results := [.lit (.bool true)], args := [d1, d2, d3] }
  | _ => none }
def clearEnoughRow : OpenClaim := { program := "ytfholjcncnbocaa", sum := "100039d798764cbdcad801b6d9aedc264c0ed73941f0b8c35646e1093623c0b3", func := "carrefour/carrefourlaw08.ClearEnough", spec := "clearEnough", apart := false }
def ClearEnoughSaid : Prop := clearEnoughRow.holds Try.pinned (OpenSpec.ofChange clearEnoughSpec)

/-- ITS FALSE NEIGHBOUR: 'it returns false'. Refute it at one input. -/
def clearEnoughWrong : ChangeSpec := { name := "clearEnough", fn := fun _ => fun
  | [d1, d2, d3] => { results := [.lit (.bool false)], args := [d1, d2, d3] }
  | _ => none }
def ClearEnoughWrongFalsely : Prop := clearEnoughRow.holds Try.pinned (OpenSpec.ofChange clearEnoughWrong)

/-- 'carrefourlaw08.ClearGrows': WHATEVER THE INPUT: true; the input reads as it did. -/
def clearGrowsSpec : ChangeSpec := { name := "clearGrows", fn := fun _ => fun
  | [d1, d2, d3] => { results := [.lit (.bool true)], args := [d1, d2, d3] }
  | _ => none }
def clearGrowsRow : OpenClaim := { program := "ytfholjcncnbocaa", sum := "100039d798764cbdcad801b6d9aedc264c0ed73941f0b8c35646e1093623c0b3", func := "carrefour/carrefourlaw08.ClearGrows", spec := "clearGrows", apart := false }
def ClearGrowsSaid : Prop := clearGrowsRow.holds Try.pinned (OpenSpec.ofChange clearGrowsSpec)

/-- ITS FALSE NEIGHBOUR: 'it returns false'. Refute it at one input. -/
def clearGrowsWrong : ChangeSpec := { name := "clearGrows", fn := fun _ => fun
  | [d1, d2, d3] => { results := [.lit (.bool false)], args := [d1, d2, d3] }
  | _ => none }
def ClearGrowsWrongFalsely : Prop := clearGrowsRow.holds Try.pinned (OpenSpec.ofChange clearGrowsWrong)

/- THE SECOND FORM. 'bulk': how many values and letters a reading holds, each counted each time it is reached (what is shared counts as often as it is met; a slice's spare places count too). A statement '..UptoSaid' is the law's where the arguments, and the package variables that the reading takes, are together of bulk at most 1048576: NARROWER than '..Said'. Prove '..Said' where nothing that the law and all that it calls make is longer than what came in: it says more and counts as full. Else prove '..UptoSaid'. A law counts once. -/
mutual
def uptoBulk {H : Type} : DataW H → Nat
  | .lit (.string bytes) => bytes.length + 1
  | .lit _ => 1
  | .nil => 1
  | .ptr d => uptoBulk d + 1
  | .slice elems spare => uptoBulkAll elems + uptoBulkAll spare + 1
  | .agg parts => uptoBulkAll parts + 1
  | .iface _ d => uptoBulk d + 1
  | .map entries => uptoBulkEntries entries + 1
  | .held _ => 1
def uptoBulkAll {H : Type} : List (DataW H) → Nat
  | [] => 0
  | d :: r => uptoBulk d + uptoBulkAll r
def uptoBulkEntries {H : Type} : List (Lit × DataW H) → Nat
  | [] => 0
  | x :: r => uptoBulkEntry x + uptoBulkEntries r
def uptoBulkEntry {H : Type} : Lit × DataW H → Nat
  | (.string bytes, d) => bytes.length + uptoBulk d + 1
  | (_, d) => uptoBulk d + 1
 end
def uptoSmall : (H : Type) → List (DataW H) → Bool := fun _ ds => decide (uptoBulkAll ds ≤ 1048576)
def OpenSpec.upto (s : _root_.Go.ChangeSpec) : _root_.Go.OpenSpec := { _root_.Go.OpenSpec.ofChange s with cond := some uptoSmall }

/-- 'carrefourlaw08.ClearTimes', WHERE WHAT IT READS IS OF BULK AT MOST 1048576: true; the input reads as it did. -/
def clearTimesUptoRow : OpenClaim := { program := "ytfholjcncnbocaa", sum := "100039d798764cbdcad801b6d9aedc264c0ed73941f0b8c35646e1093623c0b3", func := "carrefour/carrefourlaw08.ClearTimes", spec := "clearTimes", apart := false, narrowed := true }
def ClearTimesUptoSaid : Prop := clearTimesUptoRow.holds Try.pinned (OpenSpec.upto clearTimesSpec)

/-- 'carrefourlaw08.ClearEnough', WHERE WHAT IT READS IS OF BULK AT MOST 1048576: true; the input reads as it did. -/
def clearEnoughUptoRow : OpenClaim := { program := "ytfholjcncnbocaa", sum := "100039d798764cbdcad801b6d9aedc264c0ed73941f0b8c35646e1093623c0b3", func := "carrefour/carrefourlaw08.ClearEnough", spec := "clearEnough", apart := false, narrowed := true }
def ClearEnoughUptoSaid : Prop := clearEnoughUptoRow.holds Try.pinned (OpenSpec.upto clearEnoughSpec)

/-- 'carrefourlaw08.ClearGrows', WHERE WHAT IT READS IS OF BULK AT MOST 1048576: true; the input reads as it did. -/
def clearGrowsUptoRow : OpenClaim := { program := "ytfholjcncnbocaa", sum := "100039d798764cbdcad801b6d9aedc264c0ed73941f0b8c35646e1093623c0b3", func := "carrefour/carrefourlaw08.ClearGrows", spec := "clearGrows", apart := false, narrowed := true }
def ClearGrowsUptoSaid : Prop := clearGrowsUptoRow.holds Try.pinned (OpenSpec.upto clearGrowsSpec)

end Rows
end Go.Proofs.Ytfholjcncnbocaa
