/-
  DERIVED. GIVEN WITH THE SEED: THE CARDS: each row of YtfajoaopfedokaaDoorRows.lean that lists a variable, with what it lists TIED to the program's text (the seventh form; the later family's looks); each row that meets fmt, with fmt's text TOLD by the authors' own Lean function (tested against real Go, not proved from fmt's source: count such statements apart). THE CARD IS WHAT COUNTS. Prove the row's statement (the work); the ties are given (YtfajoaopfedokaaDoorTie.lean); close each card by the builder's one call (the guide's Derived/Test/ToyasCard.lean, 'card_holds'). Laid BY PROGRAM, IN A SANDBOX (cutbox-door.mjs). By AI agents, Wed Nov 11 2026. No macro, syntax, notation, axiom, sorry.
-/
import Derived.Test.YtfajoaopfedokaaDoorRows
import GoSem.ClaimSeven
namespace Go.Proofs.YtfajoaopfedokaaDoor
namespace Rows

/-- THE TIED CARD OF 'slipsticklaw.DyadCompares'. -/
def dyadComparesCard : Claim7 := { stood := { row := dyadComparesRow, standIns := [], harness := (true, "9c05f36ad84bc65ba609f187f839fa470373f35ef76b614fce5a1ae0f84aac8a"), looks := false }, kinds := [], alts := [], laidByText := true, laidKinds := [.data], laidTests := true, laidLooks := .later }
def DyadComparesCardSaid : Prop := Claim7.holds Tryd.pinned (.plain (OpenSpec.ofChange dyadComparesSpec)) dyadComparesCard

/-- THE TIED CARD OF 'slipsticklaw.DyadBetween'. -/
def dyadBetweenCard : Claim7 := { stood := { row := dyadBetweenRow, standIns := [], harness := (true, "9c05f36ad84bc65ba609f187f839fa470373f35ef76b614fce5a1ae0f84aac8a"), looks := false }, kinds := [], alts := [], laidByText := true, laidKinds := [.data], laidTests := true, laidLooks := .later }
def DyadBetweenCardSaid : Prop := Claim7.holds Tryd.pinned (.plain (OpenSpec.ofChange dyadBetweenSpec)) dyadBetweenCard

/-- THE TIED CARD OF 'slipsticklaw.BallChecks'. -/
def ballChecksCard : Claim7 := { stood := { row := ballChecksRow, standIns := [], harness := (true, "9c05f36ad84bc65ba609f187f839fa470373f35ef76b614fce5a1ae0f84aac8a"), looks := false }, kinds := [], alts := [], laidByText := true, laidKinds := [.data], laidTests := true, laidLooks := .later }
def BallChecksCardSaid : Prop := Claim7.holds Tryd.pinned (.plain (OpenSpec.ofChange ballChecksSpec)) ballChecksCard

/-- THE TIED CARD OF 'slipsticklaw.BallHas'. -/
def ballHasCard : Claim7 := { stood := { row := ballHasRow, standIns := [], harness := (true, "9c05f36ad84bc65ba609f187f839fa470373f35ef76b614fce5a1ae0f84aac8a"), looks := false }, kinds := [], alts := [], laidByText := true, laidKinds := [.data], laidTests := true, laidLooks := .later }
def BallHasCardSaid : Prop := Claim7.holds Tryd.pinned (.plain (OpenSpec.ofChange ballHasSpec)) ballHasCard

/-- THE TIED CARD OF 'slipsticklaw.BallAdds'. -/
def ballAddsCard : Claim7 := { stood := { row := ballAddsRow, standIns := [], harness := (true, "9c05f36ad84bc65ba609f187f839fa470373f35ef76b614fce5a1ae0f84aac8a"), looks := false }, kinds := [], alts := [], laidByText := true, laidKinds := [.data], laidTests := true, laidLooks := .later }
def BallAddsCardSaid : Prop := Claim7.holds Tryd.pinned (.plain (OpenSpec.ofChange ballAddsSpec)) ballAddsCard

/-- THE TIED CARD OF 'slipsticklaw.BallSubs'. -/
def ballSubsCard : Claim7 := { stood := { row := ballSubsRow, standIns := [], harness := (true, "9c05f36ad84bc65ba609f187f839fa470373f35ef76b614fce5a1ae0f84aac8a"), looks := false }, kinds := [], alts := [], laidByText := true, laidKinds := [.data], laidTests := true, laidLooks := .later }
def BallSubsCardSaid : Prop := Claim7.holds Tryd.pinned (.plain (OpenSpec.ofChange ballSubsSpec)) ballSubsCard

/-- THE TIED CARD OF 'slipsticklaw.BallMuls'. -/
def ballMulsCard : Claim7 := { stood := { row := ballMulsRow, standIns := [], harness := (true, "9c05f36ad84bc65ba609f187f839fa470373f35ef76b614fce5a1ae0f84aac8a"), looks := false }, kinds := [], alts := [], laidByText := true, laidKinds := [.data], laidTests := true, laidLooks := .later }
def BallMulsCardSaid : Prop := Claim7.holds Tryd.pinned (.plain (OpenSpec.ofChange ballMulsSpec)) ballMulsCard

/-- THE TIED CARD OF 'slipsticklaw.BallDivs'. -/
def ballDivsCard : Claim7 := { stood := { row := ballDivsRow, standIns := [], harness := (true, "9c05f36ad84bc65ba609f187f839fa470373f35ef76b614fce5a1ae0f84aac8a"), looks := false }, kinds := [], alts := [], laidByText := true, laidKinds := [.data], laidTests := true, laidLooks := .later }
def BallDivsCardSaid : Prop := Claim7.holds Tryd.pinned (.plain (OpenSpec.ofChange ballDivsSpec)) ballDivsCard

/-- THE TIED CARD OF 'slipsticklaw.BallJoins'. -/
def ballJoinsCard : Claim7 := { stood := { row := ballJoinsRow, standIns := [], harness := (true, "9c05f36ad84bc65ba609f187f839fa470373f35ef76b614fce5a1ae0f84aac8a"), looks := false }, kinds := [], alts := [], laidByText := true, laidKinds := [.data], laidTests := true, laidLooks := .later }
def BallJoinsCardSaid : Prop := Claim7.holds Tryd.pinned (.plain (OpenSpec.ofChange ballJoinsSpec)) ballJoinsCard

/-- THE TIED CARD OF 'slipsticklaw.BallHolds'. -/
def ballHoldsCard : Claim7 := { stood := { row := ballHoldsRow, standIns := [], harness := (true, "9c05f36ad84bc65ba609f187f839fa470373f35ef76b614fce5a1ae0f84aac8a"), looks := false }, kinds := [], alts := [], laidByText := true, laidKinds := [.data], laidTests := true, laidLooks := .later }
def BallHoldsCardSaid : Prop := Claim7.holds Tryd.pinned (.plain (OpenSpec.ofChange ballHoldsSpec)) ballHoldsCard

/-- THE TIED CARD OF 'slipsticklaw.BallBacks'. -/
def ballBacksCard : Claim7 := { stood := { row := ballBacksRow, standIns := [], harness := (true, "9c05f36ad84bc65ba609f187f839fa470373f35ef76b614fce5a1ae0f84aac8a"), looks := false }, kinds := [], alts := [], laidByText := true, laidKinds := [.data], laidTests := true, laidLooks := .later }
def BallBacksCardSaid : Prop := Claim7.holds Tryd.pinned (.plain (OpenSpec.ofChange ballBacksSpec)) ballBacksCard

/-- THE TIED CARD OF 'slipsticklaw.GridNumbers'. -/
def gridNumbersCard : Claim7 := { stood := { row := gridNumbersRow, standIns := [], harness := (true, "9c05f36ad84bc65ba609f187f839fa470373f35ef76b614fce5a1ae0f84aac8a"), looks := false }, kinds := [], alts := [], laidByText := true, laidKinds := [.data], laidTests := true, laidLooks := .later }
def GridNumbersCardSaid : Prop := Claim7.holds Tryd.pinned (.plain (OpenSpec.ofChange gridNumbersSpec)) gridNumbersCard

/-- THE TIED CARD OF 'slipsticklaw.GridHolds'. -/
def gridHoldsCard : Claim7 := { stood := { row := gridHoldsRow, standIns := [], harness := (true, "9c05f36ad84bc65ba609f187f839fa470373f35ef76b614fce5a1ae0f84aac8a"), looks := false }, kinds := [], alts := [], laidByText := true, laidKinds := [.data], laidTests := true, laidLooks := .later }
def GridHoldsCardSaid : Prop := Claim7.holds Tryd.pinned (.plain (OpenSpec.ofChange gridHoldsSpec)) gridHoldsCard

/-- THE TIED CARD OF 'slipsticklaw.GridSteps'. -/
def gridStepsCard : Claim7 := { stood := { row := gridStepsRow, standIns := [], harness := (true, "9c05f36ad84bc65ba609f187f839fa470373f35ef76b614fce5a1ae0f84aac8a"), looks := false }, kinds := [], alts := [], laidByText := true, laidKinds := [.data], laidTests := true, laidLooks := .later }
def GridStepsCardSaid : Prop := Claim7.holds Tryd.pinned (.plain (OpenSpec.ofChange gridStepsSpec)) gridStepsCard

/-- THE TIED CARD OF 'slipsticklaw.GridBetween'. -/
def gridBetweenCard : Claim7 := { stood := { row := gridBetweenRow, standIns := [], harness := (true, "9c05f36ad84bc65ba609f187f839fa470373f35ef76b614fce5a1ae0f84aac8a"), looks := false }, kinds := [], alts := [], laidByText := true, laidKinds := [.data], laidTests := true, laidLooks := .later }
def GridBetweenCardSaid : Prop := Claim7.holds Tryd.pinned (.plain (OpenSpec.ofChange gridBetweenSpec)) gridBetweenCard

/-- THE TIED CARD OF 'slipsticklaw.GridKeeps'. -/
def gridKeepsCard : Claim7 := { stood := { row := gridKeepsRow, standIns := [], harness := (true, "9c05f36ad84bc65ba609f187f839fa470373f35ef76b614fce5a1ae0f84aac8a"), looks := false }, kinds := [], alts := [], laidByText := true, laidKinds := [.data], laidTests := true, laidLooks := .later }
def GridKeepsCardSaid : Prop := Claim7.holds Tryd.pinned (.plain (OpenSpec.ofChange gridKeepsSpec)) gridKeepsCard

/-- THE TIED CARD OF 'slipsticklaw.GridGrows'. -/
def gridGrowsCard : Claim7 := { stood := { row := gridGrowsRow, standIns := [], harness := (true, "9c05f36ad84bc65ba609f187f839fa470373f35ef76b614fce5a1ae0f84aac8a"), looks := false }, kinds := [], alts := [], laidByText := true, laidKinds := [.data], laidTests := true, laidLooks := .later }
def GridGrowsCardSaid : Prop := Claim7.holds Tryd.pinned (.plain (OpenSpec.ofChange gridGrowsSpec)) gridGrowsCard

/-- THE SECOND FORM's CARD OF 'slipsticklaw.DyadCompares'. -/
def dyadComparesUptoCard : Claim7 := { stood := { row := dyadComparesUptoRow, standIns := [], harness := (true, "9c05f36ad84bc65ba609f187f839fa470373f35ef76b614fce5a1ae0f84aac8a"), looks := false }, kinds := [], alts := [], laidByText := true, laidKinds := [.data], laidTests := true, laidLooks := .later }
def DyadComparesUptoCardSaid : Prop := Claim7.holds Tryd.pinned (.plain (OpenSpec.upto dyadComparesSpec)) dyadComparesUptoCard

/-- THE SECOND FORM's CARD OF 'slipsticklaw.DyadBetween'. -/
def dyadBetweenUptoCard : Claim7 := { stood := { row := dyadBetweenUptoRow, standIns := [], harness := (true, "9c05f36ad84bc65ba609f187f839fa470373f35ef76b614fce5a1ae0f84aac8a"), looks := false }, kinds := [], alts := [], laidByText := true, laidKinds := [.data], laidTests := true, laidLooks := .later }
def DyadBetweenUptoCardSaid : Prop := Claim7.holds Tryd.pinned (.plain (OpenSpec.upto dyadBetweenSpec)) dyadBetweenUptoCard

/-- THE SECOND FORM's CARD OF 'slipsticklaw.BallChecks'. -/
def ballChecksUptoCard : Claim7 := { stood := { row := ballChecksUptoRow, standIns := [], harness := (true, "9c05f36ad84bc65ba609f187f839fa470373f35ef76b614fce5a1ae0f84aac8a"), looks := false }, kinds := [], alts := [], laidByText := true, laidKinds := [.data], laidTests := true, laidLooks := .later }
def BallChecksUptoCardSaid : Prop := Claim7.holds Tryd.pinned (.plain (OpenSpec.upto ballChecksSpec)) ballChecksUptoCard

/-- THE SECOND FORM's CARD OF 'slipsticklaw.BallHas'. -/
def ballHasUptoCard : Claim7 := { stood := { row := ballHasUptoRow, standIns := [], harness := (true, "9c05f36ad84bc65ba609f187f839fa470373f35ef76b614fce5a1ae0f84aac8a"), looks := false }, kinds := [], alts := [], laidByText := true, laidKinds := [.data], laidTests := true, laidLooks := .later }
def BallHasUptoCardSaid : Prop := Claim7.holds Tryd.pinned (.plain (OpenSpec.upto ballHasSpec)) ballHasUptoCard

/-- THE SECOND FORM's CARD OF 'slipsticklaw.BallAdds'. -/
def ballAddsUptoCard : Claim7 := { stood := { row := ballAddsUptoRow, standIns := [], harness := (true, "9c05f36ad84bc65ba609f187f839fa470373f35ef76b614fce5a1ae0f84aac8a"), looks := false }, kinds := [], alts := [], laidByText := true, laidKinds := [.data], laidTests := true, laidLooks := .later }
def BallAddsUptoCardSaid : Prop := Claim7.holds Tryd.pinned (.plain (OpenSpec.upto ballAddsSpec)) ballAddsUptoCard

/-- THE SECOND FORM's CARD OF 'slipsticklaw.BallSubs'. -/
def ballSubsUptoCard : Claim7 := { stood := { row := ballSubsUptoRow, standIns := [], harness := (true, "9c05f36ad84bc65ba609f187f839fa470373f35ef76b614fce5a1ae0f84aac8a"), looks := false }, kinds := [], alts := [], laidByText := true, laidKinds := [.data], laidTests := true, laidLooks := .later }
def BallSubsUptoCardSaid : Prop := Claim7.holds Tryd.pinned (.plain (OpenSpec.upto ballSubsSpec)) ballSubsUptoCard

/-- THE SECOND FORM's CARD OF 'slipsticklaw.BallMuls'. -/
def ballMulsUptoCard : Claim7 := { stood := { row := ballMulsUptoRow, standIns := [], harness := (true, "9c05f36ad84bc65ba609f187f839fa470373f35ef76b614fce5a1ae0f84aac8a"), looks := false }, kinds := [], alts := [], laidByText := true, laidKinds := [.data], laidTests := true, laidLooks := .later }
def BallMulsUptoCardSaid : Prop := Claim7.holds Tryd.pinned (.plain (OpenSpec.upto ballMulsSpec)) ballMulsUptoCard

/-- THE SECOND FORM's CARD OF 'slipsticklaw.BallDivs'. -/
def ballDivsUptoCard : Claim7 := { stood := { row := ballDivsUptoRow, standIns := [], harness := (true, "9c05f36ad84bc65ba609f187f839fa470373f35ef76b614fce5a1ae0f84aac8a"), looks := false }, kinds := [], alts := [], laidByText := true, laidKinds := [.data], laidTests := true, laidLooks := .later }
def BallDivsUptoCardSaid : Prop := Claim7.holds Tryd.pinned (.plain (OpenSpec.upto ballDivsSpec)) ballDivsUptoCard

/-- THE SECOND FORM's CARD OF 'slipsticklaw.BallJoins'. -/
def ballJoinsUptoCard : Claim7 := { stood := { row := ballJoinsUptoRow, standIns := [], harness := (true, "9c05f36ad84bc65ba609f187f839fa470373f35ef76b614fce5a1ae0f84aac8a"), looks := false }, kinds := [], alts := [], laidByText := true, laidKinds := [.data], laidTests := true, laidLooks := .later }
def BallJoinsUptoCardSaid : Prop := Claim7.holds Tryd.pinned (.plain (OpenSpec.upto ballJoinsSpec)) ballJoinsUptoCard

/-- THE SECOND FORM's CARD OF 'slipsticklaw.BallHolds'. -/
def ballHoldsUptoCard : Claim7 := { stood := { row := ballHoldsUptoRow, standIns := [], harness := (true, "9c05f36ad84bc65ba609f187f839fa470373f35ef76b614fce5a1ae0f84aac8a"), looks := false }, kinds := [], alts := [], laidByText := true, laidKinds := [.data], laidTests := true, laidLooks := .later }
def BallHoldsUptoCardSaid : Prop := Claim7.holds Tryd.pinned (.plain (OpenSpec.upto ballHoldsSpec)) ballHoldsUptoCard

/-- THE SECOND FORM's CARD OF 'slipsticklaw.BallBacks'. -/
def ballBacksUptoCard : Claim7 := { stood := { row := ballBacksUptoRow, standIns := [], harness := (true, "9c05f36ad84bc65ba609f187f839fa470373f35ef76b614fce5a1ae0f84aac8a"), looks := false }, kinds := [], alts := [], laidByText := true, laidKinds := [.data], laidTests := true, laidLooks := .later }
def BallBacksUptoCardSaid : Prop := Claim7.holds Tryd.pinned (.plain (OpenSpec.upto ballBacksSpec)) ballBacksUptoCard

/-- THE SECOND FORM's CARD OF 'slipsticklaw.GridNumbers'. -/
def gridNumbersUptoCard : Claim7 := { stood := { row := gridNumbersUptoRow, standIns := [], harness := (true, "9c05f36ad84bc65ba609f187f839fa470373f35ef76b614fce5a1ae0f84aac8a"), looks := false }, kinds := [], alts := [], laidByText := true, laidKinds := [.data], laidTests := true, laidLooks := .later }
def GridNumbersUptoCardSaid : Prop := Claim7.holds Tryd.pinned (.plain (OpenSpec.upto gridNumbersSpec)) gridNumbersUptoCard

/-- THE SECOND FORM's CARD OF 'slipsticklaw.GridHolds'. -/
def gridHoldsUptoCard : Claim7 := { stood := { row := gridHoldsUptoRow, standIns := [], harness := (true, "9c05f36ad84bc65ba609f187f839fa470373f35ef76b614fce5a1ae0f84aac8a"), looks := false }, kinds := [], alts := [], laidByText := true, laidKinds := [.data], laidTests := true, laidLooks := .later }
def GridHoldsUptoCardSaid : Prop := Claim7.holds Tryd.pinned (.plain (OpenSpec.upto gridHoldsSpec)) gridHoldsUptoCard

/-- THE SECOND FORM's CARD OF 'slipsticklaw.GridSteps'. -/
def gridStepsUptoCard : Claim7 := { stood := { row := gridStepsUptoRow, standIns := [], harness := (true, "9c05f36ad84bc65ba609f187f839fa470373f35ef76b614fce5a1ae0f84aac8a"), looks := false }, kinds := [], alts := [], laidByText := true, laidKinds := [.data], laidTests := true, laidLooks := .later }
def GridStepsUptoCardSaid : Prop := Claim7.holds Tryd.pinned (.plain (OpenSpec.upto gridStepsSpec)) gridStepsUptoCard

/-- THE SECOND FORM's CARD OF 'slipsticklaw.GridBetween'. -/
def gridBetweenUptoCard : Claim7 := { stood := { row := gridBetweenUptoRow, standIns := [], harness := (true, "9c05f36ad84bc65ba609f187f839fa470373f35ef76b614fce5a1ae0f84aac8a"), looks := false }, kinds := [], alts := [], laidByText := true, laidKinds := [.data], laidTests := true, laidLooks := .later }
def GridBetweenUptoCardSaid : Prop := Claim7.holds Tryd.pinned (.plain (OpenSpec.upto gridBetweenSpec)) gridBetweenUptoCard

/-- THE SECOND FORM's CARD OF 'slipsticklaw.GridKeeps'. -/
def gridKeepsUptoCard : Claim7 := { stood := { row := gridKeepsUptoRow, standIns := [], harness := (true, "9c05f36ad84bc65ba609f187f839fa470373f35ef76b614fce5a1ae0f84aac8a"), looks := false }, kinds := [], alts := [], laidByText := true, laidKinds := [.data], laidTests := true, laidLooks := .later }
def GridKeepsUptoCardSaid : Prop := Claim7.holds Tryd.pinned (.plain (OpenSpec.upto gridKeepsSpec)) gridKeepsUptoCard

/-- THE SECOND FORM's CARD OF 'slipsticklaw.GridGrows'. -/
def gridGrowsUptoCard : Claim7 := { stood := { row := gridGrowsUptoRow, standIns := [], harness := (true, "9c05f36ad84bc65ba609f187f839fa470373f35ef76b614fce5a1ae0f84aac8a"), looks := false }, kinds := [], alts := [], laidByText := true, laidKinds := [.data], laidTests := true, laidLooks := .later }
def GridGrowsUptoCardSaid : Prop := Claim7.holds Tryd.pinned (.plain (OpenSpec.upto gridGrowsSpec)) gridGrowsUptoCard
end Rows
end Go.Proofs.YtfajoaopfedokaaDoor
