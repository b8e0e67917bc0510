/-
  DERIVED. GIVEN WITH THE SEED: THE CARDS: each row of YtfjphcgipbgodaaDoorRows.lean that lists a variable, with what it lists TIED to the program's text (the seventh form; the later family's looks); each row that meets fmt, with fmt's text TOLD by the authors' own Lean function (tested against real Go, not proved from fmt's source: count such statements apart). THE CARD IS WHAT COUNTS. Prove the row's statement (the work); the ties are given (YtfjphcgipbgodaaDoorTie.lean); close each card by the builder's one call (the guide's Derived/Test/ToyasCard.lean, 'card_holds'). Laid BY PROGRAM, IN A SANDBOX (cutbox-door.mjs). By AI agents, Wed Nov 11 2026. No macro, syntax, notation, axiom, sorry.
-/
import Derived.Test.YtfjphcgipbgodaaDoorRows
import GoSem.ClaimSeven
namespace Go.Proofs.YtfjphcgipbgodaaDoor
namespace Rows

/-- THE TIED CARD OF 'carrefourlaw05.NetWhere'. -/
def netWhereCard : Claim7 := { stood := { row := netWhereRow, standIns := [], harness := (true, "6947134960efa00ee108cf0230837b0cb8b6c9660b93546c15c74cc21329cc24"), looks := true }, kinds := [], alts := [], laidByText := true, laidKinds := [.handle], laidTests := true, laidLooks := .later }
def NetWhereCardSaid : Prop := Claim7.holds Tryd.pinned (.plain (OpenSpec.ofChange netWhereSpec)) netWhereCard

/-- THE TIED CARD OF 'carrefourlaw05.NetBounds'. -/
def netBoundsCard : Claim7 := { stood := { row := netBoundsRow, standIns := [], harness := (true, "6947134960efa00ee108cf0230837b0cb8b6c9660b93546c15c74cc21329cc24"), looks := true }, kinds := [], alts := [], laidByText := true, laidKinds := [.handle], laidTests := true, laidLooks := .later }
def NetBoundsCardSaid : Prop := Claim7.holds Tryd.pinned (.plain (OpenSpec.ofChange netBoundsSpec)) netBoundsCard

/-- THE TIED CARD OF 'carrefourlaw05.NetNodes'. -/
def netNodesCard : Claim7 := { stood := { row := netNodesRow, standIns := [], harness := (true, "6947134960efa00ee108cf0230837b0cb8b6c9660b93546c15c74cc21329cc24"), looks := true }, kinds := [], alts := [], laidByText := true, laidKinds := [.handle], laidTests := true, laidLooks := .later }
def NetNodesCardSaid : Prop := Claim7.holds Tryd.pinned (.plain (OpenSpec.ofChange netNodesSpec)) netNodesCard

/-- THE SECOND FORM's CARD OF 'carrefourlaw05.NetWhere'. -/
def netWhereUptoCard : Claim7 := { stood := { row := netWhereUptoRow, standIns := [], harness := (true, "6947134960efa00ee108cf0230837b0cb8b6c9660b93546c15c74cc21329cc24"), looks := true }, kinds := [], alts := [], laidByText := true, laidKinds := [.handle], laidTests := true, laidLooks := .later }
def NetWhereUptoCardSaid : Prop := Claim7.holds Tryd.pinned (.plain (OpenSpec.upto netWhereSpec)) netWhereUptoCard

/-- THE SECOND FORM's CARD OF 'carrefourlaw05.NetBounds'. -/
def netBoundsUptoCard : Claim7 := { stood := { row := netBoundsUptoRow, standIns := [], harness := (true, "6947134960efa00ee108cf0230837b0cb8b6c9660b93546c15c74cc21329cc24"), looks := true }, kinds := [], alts := [], laidByText := true, laidKinds := [.handle], laidTests := true, laidLooks := .later }
def NetBoundsUptoCardSaid : Prop := Claim7.holds Tryd.pinned (.plain (OpenSpec.upto netBoundsSpec)) netBoundsUptoCard

/-- THE SECOND FORM's CARD OF 'carrefourlaw05.NetNodes'. -/
def netNodesUptoCard : Claim7 := { stood := { row := netNodesUptoRow, standIns := [], harness := (true, "6947134960efa00ee108cf0230837b0cb8b6c9660b93546c15c74cc21329cc24"), looks := true }, kinds := [], alts := [], laidByText := true, laidKinds := [.handle], laidTests := true, laidLooks := .later }
def NetNodesUptoCardSaid : Prop := Claim7.holds Tryd.pinned (.plain (OpenSpec.upto netNodesSpec)) netNodesUptoCard
end Rows
end Go.Proofs.YtfjphcgipbgodaaDoor
