/-
  DERIVED. GIVEN WITH THE SEED: THE CARDS: each row of YtnegcifbbbmlnaaDoorRows.lean that lists a variable, with what it lists TIED to the program's text (the seventh form; the later family's looks); each row that meets fmt, with fmt's text TOLD by the authors' own Lean function (tested against real Go, not proved from fmt's source: count such statements apart). THE CARD IS WHAT COUNTS. Prove the row's statement (the work); the ties are given (YtnegcifbbbmlnaaDoorTie.lean); close each card by the builder's one call (the guide's Derived/Test/ToyasCard.lean, 'card_holds'). Laid BY PROGRAM, IN A SANDBOX (cutbox-door.mjs). By AI agents, Wed Nov 11 2026. No macro, syntax, notation, axiom, sorry.
-/
import Derived.Test.YtnegcifbbbmlnaaDoorRows
import GoSem.ClaimSeven
namespace Go.Proofs.YtnegcifbbbmlnaaDoor
namespace Rows

/-- THE TIED CARD OF 'carrefourlaw09.DemandRatio'. -/
def demandRatioCard : Claim7 := { stood := { row := demandRatioRow, standIns := [], harness := (true, "1b79ac30a91bfd73ef7d5e359e79a5fd4b06cd6f0f13dfe8b88200013be31376"), looks := false }, kinds := [], alts := [], laidByText := true, laidKinds := [.data, .data, .data], laidTests := true, laidLooks := .later }
def DemandRatioCardSaid : Prop := Claim7.holds Tryd.pinned (.plain (OpenSpec.ofChange demandRatioSpec)) demandRatioCard

/-- THE TIED CARD OF 'carrefourlaw09.DemandRate'. -/
def demandRateCard : Claim7 := { stood := { row := demandRateRow, standIns := [], harness := (true, "1b79ac30a91bfd73ef7d5e359e79a5fd4b06cd6f0f13dfe8b88200013be31376"), looks := false }, kinds := [], alts := [], laidByText := true, laidKinds := [.data, .data, .data], laidTests := true, laidLooks := .later }
def DemandRateCardSaid : Prop := Claim7.holds Tryd.pinned (.plain (OpenSpec.ofChange demandRateSpec)) demandRateCard

/-- THE TIED CARD OF 'carrefourlaw09.DemandGrows'. -/
def demandGrowsCard : Claim7 := { stood := { row := demandGrowsRow, standIns := [], harness := (true, "1b79ac30a91bfd73ef7d5e359e79a5fd4b06cd6f0f13dfe8b88200013be31376"), looks := false }, kinds := [], alts := [], laidByText := true, laidKinds := [.data, .data, .data], laidTests := true, laidLooks := .later }
def DemandGrowsCardSaid : Prop := Claim7.holds Tryd.pinned (.plain (OpenSpec.ofChange demandGrowsSpec)) demandGrowsCard

/-- THE TIED CARD OF 'carrefourlaw09.DemandShare'. -/
def demandShareCard : Claim7 := { stood := { row := demandShareRow, standIns := [], harness := (true, "1b79ac30a91bfd73ef7d5e359e79a5fd4b06cd6f0f13dfe8b88200013be31376"), looks := false }, kinds := [], alts := [], laidByText := true, laidKinds := [.data, .data, .data], laidTests := true, laidLooks := .later }
def DemandShareCardSaid : Prop := Claim7.holds Tryd.pinned (.plain (OpenSpec.ofChange demandShareSpec)) demandShareCard

/-- THE SECOND FORM's CARD OF 'carrefourlaw09.DemandRatio'. -/
def demandRatioUptoCard : Claim7 := { stood := { row := demandRatioUptoRow, standIns := [], harness := (true, "1b79ac30a91bfd73ef7d5e359e79a5fd4b06cd6f0f13dfe8b88200013be31376"), looks := false }, kinds := [], alts := [], laidByText := true, laidKinds := [.data, .data, .data], laidTests := true, laidLooks := .later }
def DemandRatioUptoCardSaid : Prop := Claim7.holds Tryd.pinned (.plain (OpenSpec.upto demandRatioSpec)) demandRatioUptoCard

/-- THE SECOND FORM's CARD OF 'carrefourlaw09.DemandRate'. -/
def demandRateUptoCard : Claim7 := { stood := { row := demandRateUptoRow, standIns := [], harness := (true, "1b79ac30a91bfd73ef7d5e359e79a5fd4b06cd6f0f13dfe8b88200013be31376"), looks := false }, kinds := [], alts := [], laidByText := true, laidKinds := [.data, .data, .data], laidTests := true, laidLooks := .later }
def DemandRateUptoCardSaid : Prop := Claim7.holds Tryd.pinned (.plain (OpenSpec.upto demandRateSpec)) demandRateUptoCard

/-- THE SECOND FORM's CARD OF 'carrefourlaw09.DemandGrows'. -/
def demandGrowsUptoCard : Claim7 := { stood := { row := demandGrowsUptoRow, standIns := [], harness := (true, "1b79ac30a91bfd73ef7d5e359e79a5fd4b06cd6f0f13dfe8b88200013be31376"), looks := false }, kinds := [], alts := [], laidByText := true, laidKinds := [.data, .data, .data], laidTests := true, laidLooks := .later }
def DemandGrowsUptoCardSaid : Prop := Claim7.holds Tryd.pinned (.plain (OpenSpec.upto demandGrowsSpec)) demandGrowsUptoCard

/-- THE SECOND FORM's CARD OF 'carrefourlaw09.DemandShare'. -/
def demandShareUptoCard : Claim7 := { stood := { row := demandShareUptoRow, standIns := [], harness := (true, "1b79ac30a91bfd73ef7d5e359e79a5fd4b06cd6f0f13dfe8b88200013be31376"), looks := false }, kinds := [], alts := [], laidByText := true, laidKinds := [.data, .data, .data], laidTests := true, laidLooks := .later }
def DemandShareUptoCardSaid : Prop := Claim7.holds Tryd.pinned (.plain (OpenSpec.upto demandShareSpec)) demandShareUptoCard
end Rows
end Go.Proofs.YtnegcifbbbmlnaaDoor
