/-
  No cell of these rows narrows 'for every input' (looked for: loops, veiled, ifaces, maps, wideKeys, modest, calm, conditions, laid).
  DERIVED. THE GIVEN ROWS OF THIS SEAT. 5 by the template 'for every input the law returns true; each argument reads behind the call as it read before'; 0 by the template 'total and deterministic' (their statements: YtakandlehneciaaTotals.lean).
  GIVEN WITH THE SEED: the statements are not yours to turn. If you find one false, say at which input.
  Laid BY PROGRAM, IN A SANDBOX (cutbox-rows.mjs): the forced cells as the released guide's own fill.sh prints them over the translation 079531bb4236d80c… (all of the seat's roots in one cut). By AI agents, Wed Nov 11 2026. No macro, syntax, notation, axiom, sorry.
-/
import Derived.Test.YtakandlehneciaaChecked
import GoSem.Claim
import GoSem.ClaimJoined
import GoSem.ClaimMapViews
import Derived.JoinedTies
import Derived.KernelRfl
namespace Go.Proofs.Ytakandlehneciaa
/- THE CELL 'sum', in the pinned program and in every row, IS THE sha256 OF THE DUMP (.gsa) THAT YtakandlehneciaaProg.lean LOADS. Nothing in Lean hashes anything: it is a label: what it is worth is what the hold of that sum in a sandbox is worth. -/
noncomputable def Try.pinned : Pinned := { name := "ytakandlehneciaa", sum := "079531bb4236d80c34d0d525b05bd8075fb9a294b2d1b5c7ff334cc9fe1018cd", checked := Try.checked }
namespace Rows
def none {H : Type} : Left H := { results := [], args := [] }

/-- 'carrefourlaw15.GroupLay': WHATEVER THE INPUT: true; the input reads as it did. -/
def groupLaySpec : ChangeSpec := { name := "groupLay", fn := fun _ => fun
  | [d] => { results := [.lit (.bool true)], args := [d] }
  | _ => none }
def groupLayRow : OpenClaim := { program := "ytakandlehneciaa", sum := "079531bb4236d80c34d0d525b05bd8075fb9a294b2d1b5c7ff334cc9fe1018cd", func := "carrefour/carrefourlaw15.GroupLay", spec := "groupLay", unfollowed := true, recurses := true, apart := false }
def GroupLaySaid : Prop := groupLayRow.holds Try.pinned (OpenSpec.ofChange groupLaySpec)

/-- ITS FALSE NEIGHBOUR: 'it returns false'. Refute it at one input. -/
def groupLayWrong : ChangeSpec := { name := "groupLay", fn := fun _ => fun
  | [d] => { results := [.lit (.bool false)], args := [d] }
  | _ => none }
def GroupLayWrongFalsely : Prop := groupLayRow.holds Try.pinned (OpenSpec.ofChange groupLayWrong)

/-- 'carrefourlaw15.GroupRight': WHATEVER THE INPUT: true; the input reads as it did. -/
def groupRightSpec : ChangeSpec := { name := "groupRight", fn := fun _ => fun
  | [d] => { results := [.lit (.bool true)], args := [d] }
  | _ => none }
def groupRightRow : OpenClaim := { program := "ytakandlehneciaa", sum := "079531bb4236d80c34d0d525b05bd8075fb9a294b2d1b5c7ff334cc9fe1018cd", func := "carrefour/carrefourlaw15.GroupRight", spec := "groupRight", unfollowed := true, recurses := true, apart := false }
def GroupRightSaid : Prop := groupRightRow.holds Try.pinned (OpenSpec.ofChange groupRightSpec)

/-- ITS FALSE NEIGHBOUR: 'it returns false'. Refute it at one input. -/
def groupRightWrong : ChangeSpec := { name := "groupRight", fn := fun _ => fun
  | [d] => { results := [.lit (.bool false)], args := [d] }
  | _ => none }
def GroupRightWrongFalsely : Prop := groupRightRow.holds Try.pinned (OpenSpec.ofChange groupRightWrong)

/-- 'carrefourlaw15.GroupHolds': WHATEVER THE INPUT: true; the input reads as it did. -/
def groupHoldsSpec : ChangeSpec := { name := "groupHolds", fn := fun _ => fun
  | [d] => { results := [.lit (.bool true)], args := [d] }
  | _ => none }
def groupHoldsRow : OpenClaim := { program := "ytakandlehneciaa", sum := "079531bb4236d80c34d0d525b05bd8075fb9a294b2d1b5c7ff334cc9fe1018cd", func := "carrefour/carrefourlaw15.GroupHolds", spec := "groupHolds", unfollowed := true, recurses := true, apart := false }
def GroupHoldsSaid : Prop := groupHoldsRow.holds Try.pinned (OpenSpec.ofChange groupHoldsSpec)

/-- ITS FALSE NEIGHBOUR: 'it returns false'. Refute it at one input. -/
def groupHoldsWrong : ChangeSpec := { name := "groupHolds", fn := fun _ => fun
  | [d] => { results := [.lit (.bool false)], args := [d] }
  | _ => none }
def GroupHoldsWrongFalsely : Prop := groupHoldsRow.holds Try.pinned (OpenSpec.ofChange groupHoldsWrong)

/-- 'carrefourlaw15.GroupBudget': WHATEVER THE INPUT: true; the input reads as it did. -/
def groupBudgetSpec : ChangeSpec := { name := "groupBudget", fn := fun _ => fun
  | [d1, d2] => { results := [.lit (.bool true)], args := [d1, d2] }
  | _ => none }
def groupBudgetRow : OpenClaim := { program := "ytakandlehneciaa", sum := "079531bb4236d80c34d0d525b05bd8075fb9a294b2d1b5c7ff334cc9fe1018cd", func := "carrefour/carrefourlaw15.GroupBudget", spec := "groupBudget", unfollowed := true, recurses := true, apart := false }
def GroupBudgetSaid : Prop := groupBudgetRow.holds Try.pinned (OpenSpec.ofChange groupBudgetSpec)

/-- ITS FALSE NEIGHBOUR: 'it returns false'. Refute it at one input. -/
def groupBudgetWrong : ChangeSpec := { name := "groupBudget", fn := fun _ => fun
  | [d1, d2] => { results := [.lit (.bool false)], args := [d1, d2] }
  | _ => none }
def GroupBudgetWrongFalsely : Prop := groupBudgetRow.holds Try.pinned (OpenSpec.ofChange groupBudgetWrong)

/-- 'carrefourlaw15.GroupGrows': WHATEVER THE INPUT: true; the input reads as it did. -/
def groupGrowsSpec : ChangeSpec := { name := "groupGrows", fn := fun _ => fun
  | [d1, d2, d3] => { results := [.lit (.bool true)], args := [d1, d2, d3] }
  | _ => none }
def groupGrowsRow : OpenClaim := { program := "ytakandlehneciaa", sum := "079531bb4236d80c34d0d525b05bd8075fb9a294b2d1b5c7ff334cc9fe1018cd", func := "carrefour/carrefourlaw15.GroupGrows", spec := "groupGrows", unfollowed := true, recurses := true, apart := false }
def GroupGrowsSaid : Prop := groupGrowsRow.holds Try.pinned (OpenSpec.ofChange groupGrowsSpec)

/-- ITS FALSE NEIGHBOUR: 'it returns false'. Refute it at one input. -/
def groupGrowsWrong : ChangeSpec := { name := "groupGrows", fn := fun _ => fun
  | [d1, d2, d3] => { results := [.lit (.bool false)], args := [d1, d2, d3] }
  | _ => none }
def GroupGrowsWrongFalsely : Prop := groupGrowsRow.holds Try.pinned (OpenSpec.ofChange groupGrowsWrong)

/- THE SECOND FORM. 'bulk': how many values and letters a reading holds, each counted each time it is reached (what is shared counts as often as it is met; a slice's spare places count too). A statement '..UptoSaid' is the law's where the arguments, and the package variables that the reading takes, are together of bulk at most 1048576: NARROWER than '..Said'. Prove '..Said' where nothing that the law and all that it calls make is longer than what came in: it says more and counts as full. Else prove '..UptoSaid'. A law counts once. -/
mutual
def uptoBulk {H : Type} : DataW H → Nat
  | .lit (.string bytes) => bytes.length + 1
  | .lit _ => 1
  | .nil => 1
  | .ptr d => uptoBulk d + 1
  | .slice elems spare => uptoBulkAll elems + uptoBulkAll spare + 1
  | .agg parts => uptoBulkAll parts + 1
  | .iface _ d => uptoBulk d + 1
  | .map entries => uptoBulkEntries entries + 1
  | .held _ => 1
def uptoBulkAll {H : Type} : List (DataW H) → Nat
  | [] => 0
  | d :: r => uptoBulk d + uptoBulkAll r
def uptoBulkEntries {H : Type} : List (Lit × DataW H) → Nat
  | [] => 0
  | x :: r => uptoBulkEntry x + uptoBulkEntries r
def uptoBulkEntry {H : Type} : Lit × DataW H → Nat
  | (.string bytes, d) => bytes.length + uptoBulk d + 1
  | (_, d) => uptoBulk d + 1
 end
def uptoSmall : (H : Type) → List (DataW H) → Bool := fun _ ds => decide (uptoBulkAll ds ≤ 1048576)
def OpenSpec.upto (s : _root_.Go.ChangeSpec) : _root_.Go.OpenSpec := { _root_.Go.OpenSpec.ofChange s with cond := some uptoSmall }

/-- 'carrefourlaw15.GroupLay', WHERE WHAT IT READS IS OF BULK AT MOST 1048576: true; the input reads as it did. -/
def groupLayUptoRow : OpenClaim := { program := "ytakandlehneciaa", sum := "079531bb4236d80c34d0d525b05bd8075fb9a294b2d1b5c7ff334cc9fe1018cd", func := "carrefour/carrefourlaw15.GroupLay", spec := "groupLay", unfollowed := true, recurses := true, apart := false, narrowed := true }
def GroupLayUptoSaid : Prop := groupLayUptoRow.holds Try.pinned (OpenSpec.upto groupLaySpec)

/-- 'carrefourlaw15.GroupRight', WHERE WHAT IT READS IS OF BULK AT MOST 1048576: true; the input reads as it did. -/
def groupRightUptoRow : OpenClaim := { program := "ytakandlehneciaa", sum := "079531bb4236d80c34d0d525b05bd8075fb9a294b2d1b5c7ff334cc9fe1018cd", func := "carrefour/carrefourlaw15.GroupRight", spec := "groupRight", unfollowed := true, recurses := true, apart := false, narrowed := true }
def GroupRightUptoSaid : Prop := groupRightUptoRow.holds Try.pinned (OpenSpec.upto groupRightSpec)

/-- 'carrefourlaw15.GroupHolds', WHERE WHAT IT READS IS OF BULK AT MOST 1048576: true; the input reads as it did. -/
def groupHoldsUptoRow : OpenClaim := { program := "ytakandlehneciaa", sum := "079531bb4236d80c34d0d525b05bd8075fb9a294b2d1b5c7ff334cc9fe1018cd", func := "carrefour/carrefourlaw15.GroupHolds", spec := "groupHolds", unfollowed := true, recurses := true, apart := false, narrowed := true }
def GroupHoldsUptoSaid : Prop := groupHoldsUptoRow.holds Try.pinned (OpenSpec.upto groupHoldsSpec)

/-- 'carrefourlaw15.GroupBudget', WHERE WHAT IT READS IS OF BULK AT MOST 1048576: true; the input reads as it did. -/
def groupBudgetUptoRow : OpenClaim := { program := "ytakandlehneciaa", sum := "079531bb4236d80c34d0d525b05bd8075fb9a294b2d1b5c7ff334cc9fe1018cd", func := "carrefour/carrefourlaw15.GroupBudget", spec := "groupBudget", unfollowed := true, recurses := true, apart := false, narrowed := true }
def GroupBudgetUptoSaid : Prop := groupBudgetUptoRow.holds Try.pinned (OpenSpec.upto groupBudgetSpec)

/-- 'carrefourlaw15.GroupGrows', WHERE WHAT IT READS IS OF BULK AT MOST 1048576: true; the input reads as it did. -/
def groupGrowsUptoRow : OpenClaim := { program := "ytakandlehneciaa", sum := "079531bb4236d80c34d0d525b05bd8075fb9a294b2d1b5c7ff334cc9fe1018cd", func := "carrefour/carrefourlaw15.GroupGrows", spec := "groupGrows", unfollowed := true, recurses := true, apart := false, narrowed := true }
def GroupGrowsUptoSaid : Prop := groupGrowsUptoRow.holds Try.pinned (OpenSpec.upto groupGrowsSpec)

end Rows
end Go.Proofs.Ytakandlehneciaa
