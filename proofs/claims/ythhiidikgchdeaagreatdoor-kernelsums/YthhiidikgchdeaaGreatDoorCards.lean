/-
  DERIVED. GIVEN WITH THE SEED: THE CARDS: each row of YthhiidikgchdeaaGreatDoorRows.lean that lists a variable, with what it lists TIED to the program's text (the seventh form; the later family's looks); each row that meets fmt, with fmt's text TOLD by the authors' own Lean function (tested against real Go, not proved from fmt's source: count such statements apart). THE CARD IS WHAT COUNTS. Prove the row's statement (the work); the ties are given (YthhiidikgchdeaaGreatDoorTie.lean); close each card by the builder's one call (the guide's Derived/Test/ToyasCard.lean, 'card_holds'). Laid BY PROGRAM, IN A SANDBOX (cutbox-door.mjs). By AI agents, Wed Nov 11 2026. No macro, syntax, notation, axiom, sorry.
-/
import Derived.Test.YthhiidikgchdeaaGreatDoorRows
import GoSem.ClaimSeven
namespace Go.Proofs.YthhiidikgchdeaaGreatDoor
namespace Rows

/-- THE TIED CARD OF 'slipsticklaw.KernelExps'. -/
def kernelExpsCard : Claim7 := { stood := { row := kernelExpsRow, standIns := [], harness := (true, "b580f4c403d014c0abdb837dbb63ca8230d4c91c1b166997592976be92dc42ac"), looks := false }, kinds := [], alts := [], laidByText := true, laidKinds := [.data], laidTests := true, laidLooks := .later }
def KernelExpsCardSaid : Prop := Claim7.holds Tryz.pinned (.plain (OpenSpec.ofChange kernelExpsSpec)) kernelExpsCard

/-- THE TIED CARD OF 'slipsticklaw.KernelLogs'. -/
def kernelLogsCard : Claim7 := { stood := { row := kernelLogsRow, standIns := [], harness := (true, "b580f4c403d014c0abdb837dbb63ca8230d4c91c1b166997592976be92dc42ac"), looks := false }, kinds := [], alts := [], laidByText := true, laidKinds := [.data], laidTests := true, laidLooks := .later }
def KernelLogsCardSaid : Prop := Claim7.holds Tryz.pinned (.plain (OpenSpec.ofChange kernelLogsSpec)) kernelLogsCard

/-- THE TIED CARD OF 'slipsticklaw.KernelSins'. -/
def kernelSinsCard : Claim7 := { stood := { row := kernelSinsRow, standIns := [], harness := (true, "b580f4c403d014c0abdb837dbb63ca8230d4c91c1b166997592976be92dc42ac"), looks := false }, kinds := [], alts := [], laidByText := true, laidKinds := [.data], laidTests := true, laidLooks := .later }
def KernelSinsCardSaid : Prop := Claim7.holds Tryz.pinned (.plain (OpenSpec.ofChange kernelSinsSpec)) kernelSinsCard

/-- THE TIED CARD OF 'slipsticklaw.KernelCoss'. -/
def kernelCossCard : Claim7 := { stood := { row := kernelCossRow, standIns := [], harness := (true, "b580f4c403d014c0abdb837dbb63ca8230d4c91c1b166997592976be92dc42ac"), looks := false }, kinds := [], alts := [], laidByText := true, laidKinds := [.data], laidTests := true, laidLooks := .later }
def KernelCossCardSaid : Prop := Claim7.holds Tryz.pinned (.plain (OpenSpec.ofChange kernelCossSpec)) kernelCossCard

/-- THE TIED CARD OF 'slipsticklaw.KernelArctans'. -/
def kernelArctansCard : Claim7 := { stood := { row := kernelArctansRow, standIns := [], harness := (true, "b580f4c403d014c0abdb837dbb63ca8230d4c91c1b166997592976be92dc42ac"), looks := false }, kinds := [], alts := [], laidByText := true, laidKinds := [.data], laidTests := true, laidLooks := .later }
def KernelArctansCardSaid : Prop := Claim7.holds Tryz.pinned (.plain (OpenSpec.ofChange kernelArctansSpec)) kernelArctansCard

/-- THE TIED CARD OF 'slipsticklaw.KernelSums'. -/
def kernelSumsCard : Claim7 := { stood := { row := kernelSumsRow, standIns := [], harness := (true, "b580f4c403d014c0abdb837dbb63ca8230d4c91c1b166997592976be92dc42ac"), looks := false }, kinds := [], alts := [], laidByText := true, laidKinds := [.data], laidTests := true, laidLooks := .later }
def KernelSumsCardSaid : Prop := Claim7.holds Tryz.pinned (.plain (OpenSpec.ofChange kernelSumsSpec)) kernelSumsCard

/-- THE SECOND FORM's CARD OF 'slipsticklaw.KernelExps'. -/
def kernelExpsUptoCard : Claim7 := { stood := { row := kernelExpsUptoRow, standIns := [], harness := (true, "b580f4c403d014c0abdb837dbb63ca8230d4c91c1b166997592976be92dc42ac"), looks := false }, kinds := [], alts := [], laidByText := true, laidKinds := [.data], laidTests := true, laidLooks := .later }
def KernelExpsUptoCardSaid : Prop := Claim7.holds Tryz.pinned (.plain (OpenSpec.upto kernelExpsSpec)) kernelExpsUptoCard

/-- THE SECOND FORM's CARD OF 'slipsticklaw.KernelLogs'. -/
def kernelLogsUptoCard : Claim7 := { stood := { row := kernelLogsUptoRow, standIns := [], harness := (true, "b580f4c403d014c0abdb837dbb63ca8230d4c91c1b166997592976be92dc42ac"), looks := false }, kinds := [], alts := [], laidByText := true, laidKinds := [.data], laidTests := true, laidLooks := .later }
def KernelLogsUptoCardSaid : Prop := Claim7.holds Tryz.pinned (.plain (OpenSpec.upto kernelLogsSpec)) kernelLogsUptoCard

/-- THE SECOND FORM's CARD OF 'slipsticklaw.KernelSins'. -/
def kernelSinsUptoCard : Claim7 := { stood := { row := kernelSinsUptoRow, standIns := [], harness := (true, "b580f4c403d014c0abdb837dbb63ca8230d4c91c1b166997592976be92dc42ac"), looks := false }, kinds := [], alts := [], laidByText := true, laidKinds := [.data], laidTests := true, laidLooks := .later }
def KernelSinsUptoCardSaid : Prop := Claim7.holds Tryz.pinned (.plain (OpenSpec.upto kernelSinsSpec)) kernelSinsUptoCard

/-- THE SECOND FORM's CARD OF 'slipsticklaw.KernelCoss'. -/
def kernelCossUptoCard : Claim7 := { stood := { row := kernelCossUptoRow, standIns := [], harness := (true, "b580f4c403d014c0abdb837dbb63ca8230d4c91c1b166997592976be92dc42ac"), looks := false }, kinds := [], alts := [], laidByText := true, laidKinds := [.data], laidTests := true, laidLooks := .later }
def KernelCossUptoCardSaid : Prop := Claim7.holds Tryz.pinned (.plain (OpenSpec.upto kernelCossSpec)) kernelCossUptoCard

/-- THE SECOND FORM's CARD OF 'slipsticklaw.KernelArctans'. -/
def kernelArctansUptoCard : Claim7 := { stood := { row := kernelArctansUptoRow, standIns := [], harness := (true, "b580f4c403d014c0abdb837dbb63ca8230d4c91c1b166997592976be92dc42ac"), looks := false }, kinds := [], alts := [], laidByText := true, laidKinds := [.data], laidTests := true, laidLooks := .later }
def KernelArctansUptoCardSaid : Prop := Claim7.holds Tryz.pinned (.plain (OpenSpec.upto kernelArctansSpec)) kernelArctansUptoCard

/-- THE SECOND FORM's CARD OF 'slipsticklaw.KernelSums'. -/
def kernelSumsUptoCard : Claim7 := { stood := { row := kernelSumsUptoRow, standIns := [], harness := (true, "b580f4c403d014c0abdb837dbb63ca8230d4c91c1b166997592976be92dc42ac"), looks := false }, kinds := [], alts := [], laidByText := true, laidKinds := [.data], laidTests := true, laidLooks := .later }
def KernelSumsUptoCardSaid : Prop := Claim7.holds Tryz.pinned (.plain (OpenSpec.upto kernelSumsSpec)) kernelSumsUptoCard
end Rows
end Go.Proofs.YthhiidikgchdeaaGreatDoor
