/-
  DERIVED. GIVEN WITH THE SEED: THE CARDS: each row of YtmplckdpddmifaaGreatDoorRows.lean that lists a variable, with what it lists TIED to the program's text (the seventh form; the later family's looks); each row that meets fmt, with fmt's text TOLD by the authors' own Lean function (tested against real Go, not proved from fmt's source: count such statements apart). THE CARD IS WHAT COUNTS. Prove the row's statement (the work); the ties are given (YtmplckdpddmifaaGreatDoorTie.lean); close each card by the builder's one call (the guide's Derived/Test/ToyasCard.lean, 'card_holds'). Laid BY PROGRAM, IN A SANDBOX (cutbox-door.mjs). By AI agents, Wed Nov 11 2026. No macro, syntax, notation, axiom, sorry.
-/
import Derived.Test.YtmplckdpddmifaaGreatDoorRows
import GoSem.ClaimSeven
namespace Go.Proofs.YtmplckdpddmifaaGreatDoor
namespace Rows

/-- THE TIED CARD OF 'carrefourlaw05.NetParse'. -/
def netParseCard : Claim7 := { stood := { row := netParseRow, standIns := [], harness := (true, "c4f2d0eede6c2b03086f14951f7a05c01367483eba3b4ff96eedc5b4e2e158f5"), looks := true }, kinds := [], alts := [], laidByText := true, laidKinds := [.handle], laidTests := true, laidLooks := .later }
def NetParseCardSaid : Prop := Claim7.holds Tryz.pinned (.plain (OpenSpec.ofChange netParseSpec)) netParseCard

/-- THE TIED CARD OF 'carrefourlaw05.NetBlanks'. -/
def netBlanksCard : Claim7 := { stood := { row := netBlanksRow, standIns := [], harness := (true, "c4f2d0eede6c2b03086f14951f7a05c01367483eba3b4ff96eedc5b4e2e158f5"), looks := true }, kinds := [], alts := [], laidByText := true, laidKinds := [.handle], laidTests := true, laidLooks := .later }
def NetBlanksCardSaid : Prop := Claim7.holds Tryz.pinned (.plain (OpenSpec.ofChange netBlanksSpec)) netBlanksCard

/-- THE SECOND FORM's CARD OF 'carrefourlaw05.NetParse'. -/
def netParseUptoCard : Claim7 := { stood := { row := netParseUptoRow, standIns := [], harness := (true, "c4f2d0eede6c2b03086f14951f7a05c01367483eba3b4ff96eedc5b4e2e158f5"), looks := true }, kinds := [], alts := [], laidByText := true, laidKinds := [.handle], laidTests := true, laidLooks := .later }
def NetParseUptoCardSaid : Prop := Claim7.holds Tryz.pinned (.plain (OpenSpec.upto netParseSpec)) netParseUptoCard

/-- THE SECOND FORM's CARD OF 'carrefourlaw05.NetBlanks'. -/
def netBlanksUptoCard : Claim7 := { stood := { row := netBlanksUptoRow, standIns := [], harness := (true, "c4f2d0eede6c2b03086f14951f7a05c01367483eba3b4ff96eedc5b4e2e158f5"), looks := true }, kinds := [], alts := [], laidByText := true, laidKinds := [.handle], laidTests := true, laidLooks := .later }
def NetBlanksUptoCardSaid : Prop := Claim7.holds Tryz.pinned (.plain (OpenSpec.upto netBlanksSpec)) netBlanksUptoCard
end Rows
end Go.Proofs.YtmplckdpddmifaaGreatDoor
