/-
  DERIVED. GIVEN WITH THE SEED: THE CARDS: each row of YtnfhkgdgkfanhabDoorRows.lean that lists a variable, with what it lists TIED to the program's text (the seventh form; the later family's looks); each row that meets fmt, with fmt's text TOLD by the authors' own Lean function (tested against real Go, not proved from fmt's source: count such statements apart). THE CARD IS WHAT COUNTS. Prove the row's statement (the work); the ties are given (YtnfhkgdgkfanhabDoorTie.lean); close each card by the builder's one call (the guide's Derived/Test/ToyasCard.lean, 'card_holds'). Laid BY PROGRAM, IN A SANDBOX (cutbox-door.mjs). By AI agents, Wed Nov 11 2026. No macro, syntax, notation, axiom, sorry.
-/
import Derived.Test.YtnfhkgdgkfanhabDoorRows
import GoSem.ClaimSeven
namespace Go.Proofs.YtnfhkgdgkfanhabDoor
namespace Rows

/-- THE TIED CARD OF 'carrefourlaw02.FracRound'. -/
def fracRoundCard : Claim7 := { stood := { row := fracRoundRow, standIns := [], harness := (true, "bb0330a53cf51d667518e89496e3e1b8f65e3e0308b9e7978572ec5e21e0babc"), looks := false }, kinds := [], alts := [], laidByText := true, laidKinds := [.data, .data, .data], laidTests := true, laidLooks := .later }
def FracRoundCardSaid : Prop := Claim7.holds Tryd.pinned (.plain (OpenSpec.ofChange fracRoundSpec)) fracRoundCard

/-- THE SECOND FORM's CARD OF 'carrefourlaw02.FracRound'. -/
def fracRoundUptoCard : Claim7 := { stood := { row := fracRoundUptoRow, standIns := [], harness := (true, "bb0330a53cf51d667518e89496e3e1b8f65e3e0308b9e7978572ec5e21e0babc"), looks := false }, kinds := [], alts := [], laidByText := true, laidKinds := [.data, .data, .data], laidTests := true, laidLooks := .later }
def FracRoundUptoCardSaid : Prop := Claim7.holds Tryd.pinned (.plain (OpenSpec.upto fracRoundSpec)) fracRoundUptoCard
end Rows
end Go.Proofs.YtnfhkgdgkfanhabDoor
