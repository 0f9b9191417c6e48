/-
  DERIVED. GIVEN WITH THE SEED: THE CARDS: each row of YtmjhlflemfkflaaDoorRows.lean that lists a variable, with what it lists TIED to the program's text (the seventh form; the later family's looks); each row that meets fmt, with fmt's text TOLD by the authors' own Lean function (tested against real Go, not proved from fmt's source: count such statements apart). THE CARD IS WHAT COUNTS. Prove the row's statement (the work); the ties are given (YtmjhlflemfkflaaDoorTie.lean); close each card by the builder's one call (the guide's Derived/Test/ToyasCard.lean, 'card_holds'). Laid BY PROGRAM, IN A SANDBOX (cutbox-door.mjs). By AI agents, Wed Nov 11 2026. No macro, syntax, notation, axiom, sorry.
-/
import Derived.Test.YtmjhlflemfkflaaDoorRows
import GoSem.ClaimSeven
namespace Go.Proofs.YtmjhlflemfkflaaDoor
namespace Rows

/-- THE TIED CARD OF 'slipsticklaw.BallBacks'. -/
def ballBacksCard : Claim7 := { stood := { row := ballBacksRow, standIns := [], harness := (true, "2a63e0ce2262280139a18a798df511dcaa4ad6202ff72ac8fa838ae39cab7f16"), looks := false }, kinds := [], alts := [], laidByText := true, laidKinds := [.data], laidTests := true, laidLooks := .later }
def BallBacksCardSaid : Prop := Claim7.holds Tryd.pinned (.plain (OpenSpec.ofChange ballBacksSpec)) ballBacksCard

/-- THE TIED CARD OF 'slipsticklaw.GridNumbers'. -/
def gridNumbersCard : Claim7 := { stood := { row := gridNumbersRow, standIns := [], harness := (true, "2a63e0ce2262280139a18a798df511dcaa4ad6202ff72ac8fa838ae39cab7f16"), looks := false }, kinds := [], alts := [], laidByText := true, laidKinds := [.data], laidTests := true, laidLooks := .later }
def GridNumbersCardSaid : Prop := Claim7.holds Tryd.pinned (.plain (OpenSpec.ofChange gridNumbersSpec)) gridNumbersCard

/-- THE TIED CARD OF 'slipsticklaw.GridHolds'. -/
def gridHoldsCard : Claim7 := { stood := { row := gridHoldsRow, standIns := [], harness := (true, "2a63e0ce2262280139a18a798df511dcaa4ad6202ff72ac8fa838ae39cab7f16"), looks := false }, kinds := [], alts := [], laidByText := true, laidKinds := [.data], laidTests := true, laidLooks := .later }
def GridHoldsCardSaid : Prop := Claim7.holds Tryd.pinned (.plain (OpenSpec.ofChange gridHoldsSpec)) gridHoldsCard

/-- THE TIED CARD OF 'slipsticklaw.GridSteps'. -/
def gridStepsCard : Claim7 := { stood := { row := gridStepsRow, standIns := [], harness := (true, "2a63e0ce2262280139a18a798df511dcaa4ad6202ff72ac8fa838ae39cab7f16"), looks := false }, kinds := [], alts := [], laidByText := true, laidKinds := [.data], laidTests := true, laidLooks := .later }
def GridStepsCardSaid : Prop := Claim7.holds Tryd.pinned (.plain (OpenSpec.ofChange gridStepsSpec)) gridStepsCard

/-- THE TIED CARD OF 'slipsticklaw.GridBetween'. -/
def gridBetweenCard : Claim7 := { stood := { row := gridBetweenRow, standIns := [], harness := (true, "2a63e0ce2262280139a18a798df511dcaa4ad6202ff72ac8fa838ae39cab7f16"), looks := false }, kinds := [], alts := [], laidByText := true, laidKinds := [.data], laidTests := true, laidLooks := .later }
def GridBetweenCardSaid : Prop := Claim7.holds Tryd.pinned (.plain (OpenSpec.ofChange gridBetweenSpec)) gridBetweenCard

/-- THE TIED CARD OF 'slipsticklaw.GridKeeps'. -/
def gridKeepsCard : Claim7 := { stood := { row := gridKeepsRow, standIns := [], harness := (true, "2a63e0ce2262280139a18a798df511dcaa4ad6202ff72ac8fa838ae39cab7f16"), looks := false }, kinds := [], alts := [], laidByText := true, laidKinds := [.data], laidTests := true, laidLooks := .later }
def GridKeepsCardSaid : Prop := Claim7.holds Tryd.pinned (.plain (OpenSpec.ofChange gridKeepsSpec)) gridKeepsCard

/-- THE TIED CARD OF 'slipsticklaw.GridGrows'. -/
def gridGrowsCard : Claim7 := { stood := { row := gridGrowsRow, standIns := [], harness := (true, "2a63e0ce2262280139a18a798df511dcaa4ad6202ff72ac8fa838ae39cab7f16"), looks := false }, kinds := [], alts := [], laidByText := true, laidKinds := [.data], laidTests := true, laidLooks := .later }
def GridGrowsCardSaid : Prop := Claim7.holds Tryd.pinned (.plain (OpenSpec.ofChange gridGrowsSpec)) gridGrowsCard

/-- THE SECOND FORM's CARD OF 'slipsticklaw.BallBacks'. -/
def ballBacksUptoCard : Claim7 := { stood := { row := ballBacksUptoRow, standIns := [], harness := (true, "2a63e0ce2262280139a18a798df511dcaa4ad6202ff72ac8fa838ae39cab7f16"), looks := false }, kinds := [], alts := [], laidByText := true, laidKinds := [.data], laidTests := true, laidLooks := .later }
def BallBacksUptoCardSaid : Prop := Claim7.holds Tryd.pinned (.plain (OpenSpec.upto ballBacksSpec)) ballBacksUptoCard

/-- THE SECOND FORM's CARD OF 'slipsticklaw.GridNumbers'. -/
def gridNumbersUptoCard : Claim7 := { stood := { row := gridNumbersUptoRow, standIns := [], harness := (true, "2a63e0ce2262280139a18a798df511dcaa4ad6202ff72ac8fa838ae39cab7f16"), looks := false }, kinds := [], alts := [], laidByText := true, laidKinds := [.data], laidTests := true, laidLooks := .later }
def GridNumbersUptoCardSaid : Prop := Claim7.holds Tryd.pinned (.plain (OpenSpec.upto gridNumbersSpec)) gridNumbersUptoCard

/-- THE SECOND FORM's CARD OF 'slipsticklaw.GridHolds'. -/
def gridHoldsUptoCard : Claim7 := { stood := { row := gridHoldsUptoRow, standIns := [], harness := (true, "2a63e0ce2262280139a18a798df511dcaa4ad6202ff72ac8fa838ae39cab7f16"), looks := false }, kinds := [], alts := [], laidByText := true, laidKinds := [.data], laidTests := true, laidLooks := .later }
def GridHoldsUptoCardSaid : Prop := Claim7.holds Tryd.pinned (.plain (OpenSpec.upto gridHoldsSpec)) gridHoldsUptoCard

/-- THE SECOND FORM's CARD OF 'slipsticklaw.GridSteps'. -/
def gridStepsUptoCard : Claim7 := { stood := { row := gridStepsUptoRow, standIns := [], harness := (true, "2a63e0ce2262280139a18a798df511dcaa4ad6202ff72ac8fa838ae39cab7f16"), looks := false }, kinds := [], alts := [], laidByText := true, laidKinds := [.data], laidTests := true, laidLooks := .later }
def GridStepsUptoCardSaid : Prop := Claim7.holds Tryd.pinned (.plain (OpenSpec.upto gridStepsSpec)) gridStepsUptoCard

/-- THE SECOND FORM's CARD OF 'slipsticklaw.GridBetween'. -/
def gridBetweenUptoCard : Claim7 := { stood := { row := gridBetweenUptoRow, standIns := [], harness := (true, "2a63e0ce2262280139a18a798df511dcaa4ad6202ff72ac8fa838ae39cab7f16"), looks := false }, kinds := [], alts := [], laidByText := true, laidKinds := [.data], laidTests := true, laidLooks := .later }
def GridBetweenUptoCardSaid : Prop := Claim7.holds Tryd.pinned (.plain (OpenSpec.upto gridBetweenSpec)) gridBetweenUptoCard

/-- THE SECOND FORM's CARD OF 'slipsticklaw.GridKeeps'. -/
def gridKeepsUptoCard : Claim7 := { stood := { row := gridKeepsUptoRow, standIns := [], harness := (true, "2a63e0ce2262280139a18a798df511dcaa4ad6202ff72ac8fa838ae39cab7f16"), looks := false }, kinds := [], alts := [], laidByText := true, laidKinds := [.data], laidTests := true, laidLooks := .later }
def GridKeepsUptoCardSaid : Prop := Claim7.holds Tryd.pinned (.plain (OpenSpec.upto gridKeepsSpec)) gridKeepsUptoCard

/-- THE SECOND FORM's CARD OF 'slipsticklaw.GridGrows'. -/
def gridGrowsUptoCard : Claim7 := { stood := { row := gridGrowsUptoRow, standIns := [], harness := (true, "2a63e0ce2262280139a18a798df511dcaa4ad6202ff72ac8fa838ae39cab7f16"), looks := false }, kinds := [], alts := [], laidByText := true, laidKinds := [.data], laidTests := true, laidLooks := .later }
def GridGrowsUptoCardSaid : Prop := Claim7.holds Tryd.pinned (.plain (OpenSpec.upto gridGrowsSpec)) gridGrowsUptoCard
end Rows
end Go.Proofs.YtmjhlflemfkflaaDoor
