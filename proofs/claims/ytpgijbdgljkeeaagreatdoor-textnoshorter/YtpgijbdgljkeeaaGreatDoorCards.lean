/-
  DERIVED. GIVEN WITH THE SEED: THE CARDS: each row of YtpgijbdgljkeeaaGreatDoorRows.lean that lists a variable, with what it lists TIED to the program's text (the seventh form; the later family's looks); each row that meets fmt, with fmt's text TOLD by the authors' own Lean function (tested against real Go, not proved from fmt's source: count such statements apart). THE CARD IS WHAT COUNTS. Prove the row's statement (the work); the ties are given (YtpgijbdgljkeeaaGreatDoorTie.lean); close each card by the builder's one call (the guide's Derived/Test/ToyasCard.lean, 'card_holds'). Laid BY PROGRAM, IN A SANDBOX (cutbox-door.mjs). By AI agents, Wed Nov 11 2026. No macro, syntax, notation, axiom, sorry.
-/
import Derived.Test.YtpgijbdgljkeeaaGreatDoorRows
import GoSem.ClaimSeven
namespace Go.Proofs.YtpgijbdgljkeeaaGreatDoor
namespace Rows

/-- THE TIED CARD OF 'slipsticklaw.TextRatios'. -/
def textRatiosCard : Claim7 := { stood := { row := textRatiosRow, standIns := [], harness := (true, "a852d428f9119d5542430a37dbc93668ed18b05fa7ff4b0deebe9d9f97c84673"), looks := true }, kinds := [], alts := [], laidByText := true, laidKinds := [.data, .data, .data, .sentinel, .sentinel], laidTests := true, laidLooks := .later }
def TextRatiosCardSaid : Prop := Claim7.holds Tryz.pinned (.plain (OpenSpec.ofChange textRatiosSpec)) textRatiosCard

/-- THE TIED CARD OF 'slipsticklaw.TextParses'. -/
def textParsesCard : Claim7 := { stood := { row := textParsesRow, standIns := [], harness := (true, "a852d428f9119d5542430a37dbc93668ed18b05fa7ff4b0deebe9d9f97c84673"), looks := true }, kinds := [], alts := [], laidByText := true, laidKinds := [.data, .data, .data, .sentinel, .sentinel], laidTests := true, laidLooks := .later }
def TextParsesCardSaid : Prop := Claim7.holds Tryz.pinned (.plain (OpenSpec.ofChange textParsesSpec)) textParsesCard

/-- THE TIED CARD OF 'slipsticklaw.TextPrints'. -/
def textPrintsCard : Claim7 := { stood := { row := textPrintsRow, standIns := [], harness := (true, "a852d428f9119d5542430a37dbc93668ed18b05fa7ff4b0deebe9d9f97c84673"), looks := true }, kinds := [], alts := [], laidByText := true, laidKinds := [.data, .data, .data, .sentinel, .sentinel], laidTests := true, laidLooks := .later }
def TextPrintsCardSaid : Prop := Claim7.holds Tryz.pinned (.plain (OpenSpec.ofChange textPrintsSpec)) textPrintsCard

/-- THE TIED CARD OF 'slipsticklaw.TextShortests'. -/
def textShortestsCard : Claim7 := { stood := { row := textShortestsRow, standIns := [], harness := (true, "a852d428f9119d5542430a37dbc93668ed18b05fa7ff4b0deebe9d9f97c84673"), looks := true }, kinds := [], alts := [], laidByText := true, laidKinds := [.data, .data, .data, .sentinel, .sentinel], laidTests := true, laidLooks := .later }
def TextShortestsCardSaid : Prop := Claim7.holds Tryz.pinned (.plain (OpenSpec.ofChange textShortestsSpec)) textShortestsCard

/-- THE TIED CARD OF 'slipsticklaw.TextBack'. -/
def textBackCard : Claim7 := { stood := { row := textBackRow, standIns := [], harness := (true, "a852d428f9119d5542430a37dbc93668ed18b05fa7ff4b0deebe9d9f97c84673"), looks := true }, kinds := [], alts := [], laidByText := true, laidKinds := [.data, .data, .data, .sentinel, .sentinel], laidTests := true, laidLooks := .later }
def TextBackCardSaid : Prop := Claim7.holds Tryz.pinned (.plain (OpenSpec.ofChange textBackSpec)) textBackCard

/-- THE TIED CARD OF 'slipsticklaw.TextNoShorter'. -/
def textNoShorterCard : Claim7 := { stood := { row := textNoShorterRow, standIns := [], harness := (true, "a852d428f9119d5542430a37dbc93668ed18b05fa7ff4b0deebe9d9f97c84673"), looks := true }, kinds := [], alts := [], laidByText := true, laidKinds := [.data, .data, .data, .sentinel, .sentinel], laidTests := true, laidLooks := .later }
def TextNoShorterCardSaid : Prop := Claim7.holds Tryz.pinned (.plain (OpenSpec.ofChange textNoShorterSpec)) textNoShorterCard

/-- THE SECOND FORM's CARD OF 'slipsticklaw.TextRatios'. -/
def textRatiosUptoCard : Claim7 := { stood := { row := textRatiosUptoRow, standIns := [], harness := (true, "a852d428f9119d5542430a37dbc93668ed18b05fa7ff4b0deebe9d9f97c84673"), looks := true }, kinds := [], alts := [], laidByText := true, laidKinds := [.data, .data, .data, .sentinel, .sentinel], laidTests := true, laidLooks := .later }
def TextRatiosUptoCardSaid : Prop := Claim7.holds Tryz.pinned (.plain (OpenSpec.upto textRatiosSpec)) textRatiosUptoCard

/-- THE SECOND FORM's CARD OF 'slipsticklaw.TextParses'. -/
def textParsesUptoCard : Claim7 := { stood := { row := textParsesUptoRow, standIns := [], harness := (true, "a852d428f9119d5542430a37dbc93668ed18b05fa7ff4b0deebe9d9f97c84673"), looks := true }, kinds := [], alts := [], laidByText := true, laidKinds := [.data, .data, .data, .sentinel, .sentinel], laidTests := true, laidLooks := .later }
def TextParsesUptoCardSaid : Prop := Claim7.holds Tryz.pinned (.plain (OpenSpec.upto textParsesSpec)) textParsesUptoCard

/-- THE SECOND FORM's CARD OF 'slipsticklaw.TextPrints'. -/
def textPrintsUptoCard : Claim7 := { stood := { row := textPrintsUptoRow, standIns := [], harness := (true, "a852d428f9119d5542430a37dbc93668ed18b05fa7ff4b0deebe9d9f97c84673"), looks := true }, kinds := [], alts := [], laidByText := true, laidKinds := [.data, .data, .data, .sentinel, .sentinel], laidTests := true, laidLooks := .later }
def TextPrintsUptoCardSaid : Prop := Claim7.holds Tryz.pinned (.plain (OpenSpec.upto textPrintsSpec)) textPrintsUptoCard

/-- THE SECOND FORM's CARD OF 'slipsticklaw.TextShortests'. -/
def textShortestsUptoCard : Claim7 := { stood := { row := textShortestsUptoRow, standIns := [], harness := (true, "a852d428f9119d5542430a37dbc93668ed18b05fa7ff4b0deebe9d9f97c84673"), looks := true }, kinds := [], alts := [], laidByText := true, laidKinds := [.data, .data, .data, .sentinel, .sentinel], laidTests := true, laidLooks := .later }
def TextShortestsUptoCardSaid : Prop := Claim7.holds Tryz.pinned (.plain (OpenSpec.upto textShortestsSpec)) textShortestsUptoCard

/-- THE SECOND FORM's CARD OF 'slipsticklaw.TextBack'. -/
def textBackUptoCard : Claim7 := { stood := { row := textBackUptoRow, standIns := [], harness := (true, "a852d428f9119d5542430a37dbc93668ed18b05fa7ff4b0deebe9d9f97c84673"), looks := true }, kinds := [], alts := [], laidByText := true, laidKinds := [.data, .data, .data, .sentinel, .sentinel], laidTests := true, laidLooks := .later }
def TextBackUptoCardSaid : Prop := Claim7.holds Tryz.pinned (.plain (OpenSpec.upto textBackSpec)) textBackUptoCard

/-- THE SECOND FORM's CARD OF 'slipsticklaw.TextNoShorter'. -/
def textNoShorterUptoCard : Claim7 := { stood := { row := textNoShorterUptoRow, standIns := [], harness := (true, "a852d428f9119d5542430a37dbc93668ed18b05fa7ff4b0deebe9d9f97c84673"), looks := true }, kinds := [], alts := [], laidByText := true, laidKinds := [.data, .data, .data, .sentinel, .sentinel], laidTests := true, laidLooks := .later }
def TextNoShorterUptoCardSaid : Prop := Claim7.holds Tryz.pinned (.plain (OpenSpec.upto textNoShorterSpec)) textNoShorterUptoCard
end Rows
end Go.Proofs.YtpgijbdgljkeeaaGreatDoor
