/-
  DERIVED. GIVEN WITH THE SEED: THE CARDS: each row of YtaakadmnhpboiaaGreatDoorRows.lean that lists a variable, with what it lists TIED to the program's text (the seventh form; the later family's looks); each row that meets fmt, with fmt's text TOLD by the authors' own Lean function (tested against real Go, not proved from fmt's source: count such statements apart). THE CARD IS WHAT COUNTS. Prove the row's statement (the work); the ties are given (YtaakadmnhpboiaaGreatDoorTie.lean); close each card by the builder's one call (the guide's Derived/Test/ToyasCard.lean, 'card_holds'). Laid BY PROGRAM, IN A SANDBOX (cutbox-door.mjs). By AI agents, Wed Nov 11 2026. No macro, syntax, notation, axiom, sorry.
-/
import Derived.Test.YtaakadmnhpboiaaGreatDoorRows
import GoSem.ClaimSeven
namespace Go.Proofs.YtaakadmnhpboiaaGreatDoor
namespace Rows

/-- THE TIED CARD OF 'laws.FnExactCheckCode'. -/
def fnExactCheckCodeCard : Claim7 := { stood := { row := fnExactCheckCodeRow, standIns := [], harness := (true, "f1d5c2cbae772bf9c5723d6a4dbd17adfa25035d94af67bb41255e95673c6ccd"), looks := true }, kinds := [], alts := [], laidByText := true, laidKinds := [.data], laidTests := true, laidLooks := .later }
def FnExactCheckCodeCardSaid : Prop := Claim7.holds Tryz.pinned (.plain (OpenSpec.ofChange fnExactCheckCodeSpec)) fnExactCheckCodeCard

/-- THE TIED CARD OF 'laws.FnExactPrepare'. -/
def fnExactPrepareCard : Claim7 := { stood := { row := fnExactPrepareRow, standIns := [], harness := (true, "f1d5c2cbae772bf9c5723d6a4dbd17adfa25035d94af67bb41255e95673c6ccd"), looks := true }, kinds := [], alts := [], laidByText := true, laidKinds := [.data], laidTests := true, laidLooks := .later }
def FnExactPrepareCardSaid : Prop := Claim7.holds Tryz.pinned (.plain (OpenSpec.ofChange fnExactPrepareSpec)) fnExactPrepareCard

/-- THE TIED CARD OF 'laws.FnExactQuickListing'. -/
def fnExactQuickListingCard : Claim7 := { stood := { row := fnExactQuickListingRow, standIns := [], harness := (true, "f1d5c2cbae772bf9c5723d6a4dbd17adfa25035d94af67bb41255e95673c6ccd"), looks := true }, kinds := [], alts := [], laidByText := true, laidKinds := [.data, .data, .data, .data, .data], laidTests := true, laidLooks := .later }
def FnExactQuickListingCardSaid : Prop := Claim7.holds Tryz.pinned (.plain (OpenSpec.ofChange fnExactQuickListingSpec)) fnExactQuickListingCard

/-- THE SECOND FORM's CARD OF 'laws.FnExactCheckCode'. -/
def fnExactCheckCodeUptoCard : Claim7 := { stood := { row := fnExactCheckCodeUptoRow, standIns := [], harness := (true, "f1d5c2cbae772bf9c5723d6a4dbd17adfa25035d94af67bb41255e95673c6ccd"), looks := true }, kinds := [], alts := [], laidByText := true, laidKinds := [.data], laidTests := true, laidLooks := .later }
def FnExactCheckCodeUptoCardSaid : Prop := Claim7.holds Tryz.pinned (.plain (OpenSpec.upto fnExactCheckCodeSpec)) fnExactCheckCodeUptoCard

/-- THE SECOND FORM's CARD OF 'laws.FnExactPrepare'. -/
def fnExactPrepareUptoCard : Claim7 := { stood := { row := fnExactPrepareUptoRow, standIns := [], harness := (true, "f1d5c2cbae772bf9c5723d6a4dbd17adfa25035d94af67bb41255e95673c6ccd"), looks := true }, kinds := [], alts := [], laidByText := true, laidKinds := [.data], laidTests := true, laidLooks := .later }
def FnExactPrepareUptoCardSaid : Prop := Claim7.holds Tryz.pinned (.plain (OpenSpec.upto fnExactPrepareSpec)) fnExactPrepareUptoCard

/-- THE SECOND FORM's CARD OF 'laws.FnExactQuickListing'. -/
def fnExactQuickListingUptoCard : Claim7 := { stood := { row := fnExactQuickListingUptoRow, standIns := [], harness := (true, "f1d5c2cbae772bf9c5723d6a4dbd17adfa25035d94af67bb41255e95673c6ccd"), looks := true }, kinds := [], alts := [], laidByText := true, laidKinds := [.data, .data, .data, .data, .data], laidTests := true, laidLooks := .later }
def FnExactQuickListingUptoCardSaid : Prop := Claim7.holds Tryz.pinned (.plain (OpenSpec.upto fnExactQuickListingSpec)) fnExactQuickListingUptoCard
end Rows
end Go.Proofs.YtaakadmnhpboiaaGreatDoor
