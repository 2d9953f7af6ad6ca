/-
  DERIVED. GIVEN WITH THE SEED: THE CARDS: each row of YtjbbppblgjhapaaGreatDoorRows.lean that lists a variable, with what it lists TIED to the program's text (the seventh form; the later family's looks); each row that meets fmt, with fmt's text TOLD by the authors' own Lean function (tested against real Go, not proved from fmt's source: count such statements apart). THE CARD IS WHAT COUNTS. Prove the row's statement (the work); the ties are given (YtjbbppblgjhapaaGreatDoorTie.lean); close each card by the builder's one call (the guide's Derived/Test/ToyasCard.lean, 'card_holds'). Laid BY PROGRAM, IN A SANDBOX (cutbox-door.mjs). By AI agents, Wed Nov 11 2026. No macro, syntax, notation, axiom, sorry.
-/
import Derived.Test.YtjbbppblgjhapaaGreatDoorRows
import GoSem.ClaimSeven
namespace Go.Proofs.YtjbbppblgjhapaaGreatDoor
namespace Rows

/-- THE TIED CARD OF 'laws.FnExactCheckCode'. -/
def fnExactCheckCodeCard : Claim7 := { stood := { row := fnExactCheckCodeRow, standIns := [], harness := (true, "af97305c0278028573e94c371339475ca2c312b33d820e838a2fcee2460817ed"), looks := true }, kinds := [], alts := [], laidByText := true, laidKinds := [.data], laidTests := true, laidLooks := .later }
def FnExactCheckCodeCardSaid : Prop := Claim7.holds Tryz.pinned (.plain (OpenSpec.ofChange fnExactCheckCodeSpec)) fnExactCheckCodeCard

/-- THE TIED CARD OF 'laws.FnExactPrepare'. -/
def fnExactPrepareCard : Claim7 := { stood := { row := fnExactPrepareRow, standIns := [], harness := (true, "af97305c0278028573e94c371339475ca2c312b33d820e838a2fcee2460817ed"), looks := true }, kinds := [], alts := [], laidByText := true, laidKinds := [.data], laidTests := true, laidLooks := .later }
def FnExactPrepareCardSaid : Prop := Claim7.holds Tryz.pinned (.plain (OpenSpec.ofChange fnExactPrepareSpec)) fnExactPrepareCard

/-- THE TIED CARD OF 'laws.FnExactQuickListing'. -/
def fnExactQuickListingCard : Claim7 := { stood := { row := fnExactQuickListingRow, standIns := [], harness := (true, "af97305c0278028573e94c371339475ca2c312b33d820e838a2fcee2460817ed"), looks := true }, kinds := [], alts := [], laidByText := true, laidKinds := [.data, .data, .data, .data, .data], laidTests := true, laidLooks := .later }
def FnExactQuickListingCardSaid : Prop := Claim7.holds Tryz.pinned (.plain (OpenSpec.ofChange fnExactQuickListingSpec)) fnExactQuickListingCard

/-- THE TIED CARD OF 'laws.FnExactBegin'. -/
def fnExactBeginCard : Claim7 := { stood := { row := fnExactBeginRow, standIns := [], harness := (true, "af97305c0278028573e94c371339475ca2c312b33d820e838a2fcee2460817ed"), looks := true }, kinds := [], alts := [], laidByText := true, laidKinds := [.data], laidTests := true, laidLooks := .later }
def FnExactBeginCardSaid : Prop := Claim7.holds Tryz.pinned (.plain (OpenSpec.ofChange fnExactBeginSpec)) fnExactBeginCard

/-- THE TIED CARD OF 'laws.FnQuick'. -/
def fnQuickCard : Claim7 := { stood := { row := fnQuickRow, standIns := [], harness := (true, "af97305c0278028573e94c371339475ca2c312b33d820e838a2fcee2460817ed"), looks := true }, kinds := [], alts := [], laidByText := true, laidKinds := [.data, .data, .data, .data, .data], laidTests := true, laidLooks := .later }
def FnQuickCardSaid : Prop := Claim7.holds Tryz.pinned (.plain (OpenSpec.ofChange fnQuickSpec)) fnQuickCard

/-- THE SECOND FORM's CARD OF 'laws.FnExactCheckCode'. -/
def fnExactCheckCodeUptoCard : Claim7 := { stood := { row := fnExactCheckCodeUptoRow, standIns := [], harness := (true, "af97305c0278028573e94c371339475ca2c312b33d820e838a2fcee2460817ed"), looks := true }, kinds := [], alts := [], laidByText := true, laidKinds := [.data], laidTests := true, laidLooks := .later }
def FnExactCheckCodeUptoCardSaid : Prop := Claim7.holds Tryz.pinned (.plain (OpenSpec.upto fnExactCheckCodeSpec)) fnExactCheckCodeUptoCard

/-- THE SECOND FORM's CARD OF 'laws.FnExactPrepare'. -/
def fnExactPrepareUptoCard : Claim7 := { stood := { row := fnExactPrepareUptoRow, standIns := [], harness := (true, "af97305c0278028573e94c371339475ca2c312b33d820e838a2fcee2460817ed"), looks := true }, kinds := [], alts := [], laidByText := true, laidKinds := [.data], laidTests := true, laidLooks := .later }
def FnExactPrepareUptoCardSaid : Prop := Claim7.holds Tryz.pinned (.plain (OpenSpec.upto fnExactPrepareSpec)) fnExactPrepareUptoCard

/-- THE SECOND FORM's CARD OF 'laws.FnExactQuickListing'. -/
def fnExactQuickListingUptoCard : Claim7 := { stood := { row := fnExactQuickListingUptoRow, standIns := [], harness := (true, "af97305c0278028573e94c371339475ca2c312b33d820e838a2fcee2460817ed"), looks := true }, kinds := [], alts := [], laidByText := true, laidKinds := [.data, .data, .data, .data, .data], laidTests := true, laidLooks := .later }
def FnExactQuickListingUptoCardSaid : Prop := Claim7.holds Tryz.pinned (.plain (OpenSpec.upto fnExactQuickListingSpec)) fnExactQuickListingUptoCard

/-- THE SECOND FORM's CARD OF 'laws.FnExactBegin'. -/
def fnExactBeginUptoCard : Claim7 := { stood := { row := fnExactBeginUptoRow, standIns := [], harness := (true, "af97305c0278028573e94c371339475ca2c312b33d820e838a2fcee2460817ed"), looks := true }, kinds := [], alts := [], laidByText := true, laidKinds := [.data], laidTests := true, laidLooks := .later }
def FnExactBeginUptoCardSaid : Prop := Claim7.holds Tryz.pinned (.plain (OpenSpec.upto fnExactBeginSpec)) fnExactBeginUptoCard

/-- THE SECOND FORM's CARD OF 'laws.FnQuick'. -/
def fnQuickUptoCard : Claim7 := { stood := { row := fnQuickUptoRow, standIns := [], harness := (true, "af97305c0278028573e94c371339475ca2c312b33d820e838a2fcee2460817ed"), looks := true }, kinds := [], alts := [], laidByText := true, laidKinds := [.data, .data, .data, .data, .data], laidTests := true, laidLooks := .later }
def FnQuickUptoCardSaid : Prop := Claim7.holds Tryz.pinned (.plain (OpenSpec.upto fnQuickSpec)) fnQuickUptoCard
end Rows
end Go.Proofs.YtjbbppblgjhapaaGreatDoor
