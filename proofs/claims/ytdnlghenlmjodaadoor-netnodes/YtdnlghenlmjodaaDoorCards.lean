/-
  DERIVED. GIVEN WITH THE SEED: THE CARDS: each row of YtdnlghenlmjodaaDoorRows.lean that lists a variable, with what it lists TIED to the program's text (the seventh form; the later family's looks); each row that meets fmt, with fmt's text TOLD by the authors' own Lean function (tested against real Go, not proved from fmt's source: count such statements apart). THE CARD IS WHAT COUNTS. Prove the row's statement (the work); the ties are given (YtdnlghenlmjodaaDoorTie.lean); close each card by the builder's one call (the guide's Derived/Test/ToyasCard.lean, 'card_holds'). Laid BY PROGRAM, IN A SANDBOX (cutbox-door.mjs). By AI agents, Wed Nov 11 2026. No macro, syntax, notation, axiom, sorry.
-/
import Derived.Test.YtdnlghenlmjodaaDoorRows
import GoSem.ClaimSeven
namespace Go.Proofs.YtdnlghenlmjodaaDoor
namespace Rows

/-- THE TIED CARD OF 'carrefourlaw05.NetNodes'. -/
def netNodesCard : Claim7 := { stood := { row := netNodesRow, standIns := [], harness := (true, "42439b7055084a9a3959491674d77fdfe9ea4d8438331513cb9251ab0889bfb3"), looks := true }, kinds := [], alts := [], laidByText := true, laidKinds := [.handle], laidTests := true, laidLooks := .later }
def NetNodesCardSaid : Prop := Claim7.holds Tryd.pinned (.plain (OpenSpec.ofChange netNodesSpec)) netNodesCard

/-- THE SECOND FORM's CARD OF 'carrefourlaw05.NetNodes'. -/
def netNodesUptoCard : Claim7 := { stood := { row := netNodesUptoRow, standIns := [], harness := (true, "42439b7055084a9a3959491674d77fdfe9ea4d8438331513cb9251ab0889bfb3"), looks := true }, kinds := [], alts := [], laidByText := true, laidKinds := [.handle], laidTests := true, laidLooks := .later }
def NetNodesUptoCardSaid : Prop := Claim7.holds Tryd.pinned (.plain (OpenSpec.upto netNodesSpec)) netNodesUptoCard
end Rows
end Go.Proofs.YtdnlghenlmjodaaDoor
