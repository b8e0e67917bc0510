/-
  No cell of these rows narrows 'for every input' (looked for: loops, veiled, ifaces, maps, wideKeys, modest, calm, conditions, laid).
  DERIVED. THE GIVEN ROWS OF THIS SEAT. 3 by the template 'for every input the law returns true; each argument reads behind the call as it read before'; 0 by the template 'total and deterministic' (their statements: YtdgmndjofbdgeaaTotals.lean).
  GIVEN WITH THE SEED: the statements are not yours to turn. If you find one false, say at which input.
  Laid BY PROGRAM, IN A SANDBOX (cutbox-rows.mjs): the forced cells as the released guide's own fill.sh prints them over the translation 2aad6b9ccd6224f9… (all of the seat's roots in one cut). By AI agents, Wed Nov 11 2026. No macro, syntax, notation, axiom, sorry.
-/
import Derived.Test.YtdgmndjofbdgeaaChecked
import GoSem.Claim
import GoSem.ClaimJoined
import GoSem.ClaimMapViews
import Derived.JoinedTies
import Derived.KernelRfl
namespace Go.Proofs.Ytdgmndjofbdgeaa
/- THE CELL 'sum', in the pinned program and in every row, IS THE sha256 OF THE DUMP (.gsa) THAT YtdgmndjofbdgeaaProg.lean LOADS. Nothing in Lean hashes anything: it is a label: what it is worth is what the hold of that sum in a sandbox is worth. -/
noncomputable def Try.pinned : Pinned := { name := "ytdgmndjofbdgeaa", sum := "2aad6b9ccd6224f9abe21156ba23b0b5d7e48be1ca535e8b647623f5ab5d084b", checked := Try.checked }
namespace Rows
def none {H : Type} : Left H := { results := [], args := [] }

/-- 'carrefourlaw11.CritSum': WHATEVER THE INPUT: true; the input reads as it did. -/
def critSumSpec : ChangeSpec := { name := "critSum", fn := fun _ => fun
  | [d1, d2] => { results := [.lit (.bool true)], args := [d1, d2] }
  | _ => none }
def critSumRow : OpenClaim := { program := "ytdgmndjofbdgeaa", sum := "2aad6b9ccd6224f9abe21156ba23b0b5d7e48be1ca535e8b647623f5ab5d084b", func := "carrefour/carrefourlaw11.CritSum", spec := "critSum", inPlace := ["math/bits.Add64", "math/bits.Sub64"], unfollowed := true, recurses := true, named := ["math/bits.divideError", "math/bits.overflowError"], apart := false }
def CritSumSaid : Prop := critSumRow.holds Try.pinned (OpenSpec.ofChange critSumSpec)

/-- ITS FALSE NEIGHBOUR: 'it returns false'. Refute it at one input. -/
def critSumWrong : ChangeSpec := { name := "critSum", fn := fun _ => fun
  | [d1, d2] => { results := [.lit (.bool false)], args := [d1, d2] }
  | _ => none }
def CritSumWrongFalsely : Prop := critSumRow.holds Try.pinned (OpenSpec.ofChange critSumWrong)

/-- 'carrefourlaw11.CritMost': WHATEVER THE INPUT: true; the input reads as it did. -/
def critMostSpec : ChangeSpec := { name := "critMost", fn := fun _ => fun
  | [d1, d2] => { results := [.lit (.bool true)], args := [d1, d2] }
  | _ => none }
def critMostRow : OpenClaim := { program := "ytdgmndjofbdgeaa", sum := "2aad6b9ccd6224f9abe21156ba23b0b5d7e48be1ca535e8b647623f5ab5d084b", func := "carrefour/carrefourlaw11.CritMost", spec := "critMost", inPlace := ["math/bits.Add64", "math/bits.Sub64"], unfollowed := true, recurses := true, named := ["math/bits.divideError", "math/bits.overflowError"], apart := false }
def CritMostSaid : Prop := critMostRow.holds Try.pinned (OpenSpec.ofChange critMostSpec)

/-- ITS FALSE NEIGHBOUR: 'it returns false'. Refute it at one input. -/
def critMostWrong : ChangeSpec := { name := "critMost", fn := fun _ => fun
  | [d1, d2] => { results := [.lit (.bool false)], args := [d1, d2] }
  | _ => none }
def CritMostWrongFalsely : Prop := critMostRow.holds Try.pinned (OpenSpec.ofChange critMostWrong)

/-- 'carrefourlaw11.CritGrows': WHATEVER THE INPUT: true; the input reads as it did. -/
def critGrowsSpec : ChangeSpec := { name := "critGrows", fn := fun _ => fun
  | [d1, d2, d3] => { results := [.lit (.bool true)], args := [d1, d2, d3] }
  | _ => none }
def critGrowsRow : OpenClaim := { program := "ytdgmndjofbdgeaa", sum := "2aad6b9ccd6224f9abe21156ba23b0b5d7e48be1ca535e8b647623f5ab5d084b", func := "carrefour/carrefourlaw11.CritGrows", spec := "critGrows", inPlace := ["math/bits.Add64", "math/bits.Sub64"], unfollowed := true, recurses := true, named := ["math/bits.divideError", "math/bits.overflowError"], apart := false }
def CritGrowsSaid : Prop := critGrowsRow.holds Try.pinned (OpenSpec.ofChange critGrowsSpec)

/-- ITS FALSE NEIGHBOUR: 'it returns false'. Refute it at one input. -/
def critGrowsWrong : ChangeSpec := { name := "critGrows", fn := fun _ => fun
  | [d1, d2, d3] => { results := [.lit (.bool false)], args := [d1, d2, d3] }
  | _ => none }
def CritGrowsWrongFalsely : Prop := critGrowsRow.holds Try.pinned (OpenSpec.ofChange critGrowsWrong)

/- THE SECOND FORM. 'bulk': how many values and letters a reading holds, each counted each time it is reached (what is shared counts as often as it is met; a slice's spare places count too). A statement '..UptoSaid' is the law's where the arguments, and the package variables that the reading takes, are together of bulk at most 1048576: NARROWER than '..Said'. Prove '..Said' where nothing that the law and all that it calls make is longer than what came in: it says more and counts as full. Else prove '..UptoSaid'. A law counts once. -/
mutual
def uptoBulk {H : Type} : DataW H → Nat
  | .lit (.string bytes) => bytes.length + 1
  | .lit _ => 1
  | .nil => 1
  | .ptr d => uptoBulk d + 1
  | .slice elems spare => uptoBulkAll elems + uptoBulkAll spare + 1
  | .agg parts => uptoBulkAll parts + 1
  | .iface _ d => uptoBulk d + 1
  | .map entries => uptoBulkEntries entries + 1
  | .held _ => 1
def uptoBulkAll {H : Type} : List (DataW H) → Nat
  | [] => 0
  | d :: r => uptoBulk d + uptoBulkAll r
def uptoBulkEntries {H : Type} : List (Lit × DataW H) → Nat
  | [] => 0
  | x :: r => uptoBulkEntry x + uptoBulkEntries r
def uptoBulkEntry {H : Type} : Lit × DataW H → Nat
  | (.string bytes, d) => bytes.length + uptoBulk d + 1
  | (_, d) => uptoBulk d + 1
 end
def uptoSmall : (H : Type) → List (DataW H) → Bool := fun _ ds => decide (uptoBulkAll ds ≤ 1048576)
def OpenSpec.upto (s : _root_.Go.ChangeSpec) : _root_.Go.OpenSpec := { _root_.Go.OpenSpec.ofChange s with cond := some uptoSmall }

/-- 'carrefourlaw11.CritSum', WHERE WHAT IT READS IS OF BULK AT MOST 1048576: true; the input reads as it did. -/
def critSumUptoRow : OpenClaim := { program := "ytdgmndjofbdgeaa", sum := "2aad6b9ccd6224f9abe21156ba23b0b5d7e48be1ca535e8b647623f5ab5d084b", func := "carrefour/carrefourlaw11.CritSum", spec := "critSum", inPlace := ["math/bits.Add64", "math/bits.Sub64"], unfollowed := true, recurses := true, named := ["math/bits.divideError", "math/bits.overflowError"], apart := false, narrowed := true }
def CritSumUptoSaid : Prop := critSumUptoRow.holds Try.pinned (OpenSpec.upto critSumSpec)

/-- 'carrefourlaw11.CritMost', WHERE WHAT IT READS IS OF BULK AT MOST 1048576: true; the input reads as it did. -/
def critMostUptoRow : OpenClaim := { program := "ytdgmndjofbdgeaa", sum := "2aad6b9ccd6224f9abe21156ba23b0b5d7e48be1ca535e8b647623f5ab5d084b", func := "carrefour/carrefourlaw11.CritMost", spec := "critMost", inPlace := ["math/bits.Add64", "math/bits.Sub64"], unfollowed := true, recurses := true, named := ["math/bits.divideError", "math/bits.overflowError"], apart := false, narrowed := true }
def CritMostUptoSaid : Prop := critMostUptoRow.holds Try.pinned (OpenSpec.upto critMostSpec)

/-- 'carrefourlaw11.CritGrows', WHERE WHAT IT READS IS OF BULK AT MOST 1048576: true; the input reads as it did. -/
def critGrowsUptoRow : OpenClaim := { program := "ytdgmndjofbdgeaa", sum := "2aad6b9ccd6224f9abe21156ba23b0b5d7e48be1ca535e8b647623f5ab5d084b", func := "carrefour/carrefourlaw11.CritGrows", spec := "critGrows", inPlace := ["math/bits.Add64", "math/bits.Sub64"], unfollowed := true, recurses := true, named := ["math/bits.divideError", "math/bits.overflowError"], apart := false, narrowed := true }
def CritGrowsUptoSaid : Prop := critGrowsUptoRow.holds Try.pinned (OpenSpec.upto critGrowsSpec)

end Rows
end Go.Proofs.Ytdgmndjofbdgeaa
