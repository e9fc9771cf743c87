/-
  DERIVED. GIVEN WITH THE SEED: THE CARDS: each row of YtlgapgajgpilgaaGreatDoorRows.lean that lists a variable, with what it lists TIED to the program's text (the seventh form; the later family's looks); each row that meets fmt, with fmt's text TOLD by the authors' own Lean function (tested against real Go, not proved from fmt's source: count such statements apart). THE CARD IS WHAT COUNTS. Prove the row's statement (the work); the ties are given (YtlgapgajgpilgaaGreatDoorTie.lean); close each card by the builder's one call (the guide's Derived/Test/ToyasCard.lean, 'card_holds'). Laid BY PROGRAM, IN A SANDBOX (cutbox-door.mjs). By AI agents, Wed Nov 11 2026. No macro, syntax, notation, axiom, sorry.
-/
import Derived.Test.YtlgapgajgpilgaaGreatDoorRows
import GoSem.ClaimSeven
namespace Go.Proofs.YtlgapgajgpilgaaGreatDoor
namespace Rows

/-- THE TIED CARD OF 'laws.FnExactLockedBy'. -/
def fnExactLockedByCard : Claim7 := { stood := { row := fnExactLockedByRow, standIns := [], harness := (true, "49ad68e3c21d2cc9c14b23374be36f52d389f06f31791c143d346871e3181f20"), looks := true }, kinds := [], alts := [], laidByText := true, laidKinds := [.sentinel], laidTests := true, laidLooks := .later }
def FnExactLockedByCardSaid : Prop := Claim7.holds Tryz.pinned (.plain (OpenSpec.ofChange fnExactLockedBySpec)) fnExactLockedByCard

/-- THE TIED CARD OF 'laws.FnExactPointLock'. -/
def fnExactPointLockCard : Claim7 := { stood := { row := fnExactPointLockRow, standIns := [], harness := (true, "49ad68e3c21d2cc9c14b23374be36f52d389f06f31791c143d346871e3181f20"), looks := true }, kinds := [], alts := [], laidByText := true, laidKinds := [.sentinel], laidTests := true, laidLooks := .later }
def FnExactPointLockCardSaid : Prop := Claim7.holds Tryz.pinned (.plain (OpenSpec.ofChange fnExactPointLockSpec)) fnExactPointLockCard

/-- THE TIED CARD OF 'laws.FnExactWhyNot'. -/
def fnExactWhyNotCard : Claim7 := { stood := { row := fnExactWhyNotRow, standIns := [], harness := (true, "49ad68e3c21d2cc9c14b23374be36f52d389f06f31791c143d346871e3181f20"), looks := true }, kinds := [], alts := [], laidByText := true, laidKinds := [.sentinel, .sentinel, .sentinel, .sentinel, .sentinel, .sentinel, .sentinel], laidTests := true, laidLooks := .later }
def FnExactWhyNotCardSaid : Prop := Claim7.holds Tryz.pinned (.plain (OpenSpec.ofChange fnExactWhyNotSpec)) fnExactWhyNotCard

/-- THE TIED CARD OF 'laws.FnExactBlocked'. -/
def fnExactBlockedCard : Claim7 := { stood := { row := fnExactBlockedRow, standIns := [], harness := (true, "49ad68e3c21d2cc9c14b23374be36f52d389f06f31791c143d346871e3181f20"), looks := true }, kinds := [], alts := [], laidByText := true, laidKinds := [.sentinel, .sentinel, .sentinel], laidTests := true, laidLooks := .later }
def FnExactBlockedCardSaid : Prop := Claim7.holds Tryz.pinned (.plain (OpenSpec.ofChange fnExactBlockedSpec)) fnExactBlockedCard

/-- THE SECOND FORM's CARD OF 'laws.FnExactLockedBy'. -/
def fnExactLockedByUptoCard : Claim7 := { stood := { row := fnExactLockedByUptoRow, standIns := [], harness := (true, "49ad68e3c21d2cc9c14b23374be36f52d389f06f31791c143d346871e3181f20"), looks := true }, kinds := [], alts := [], laidByText := true, laidKinds := [.sentinel], laidTests := true, laidLooks := .later }
def FnExactLockedByUptoCardSaid : Prop := Claim7.holds Tryz.pinned (.plain (OpenSpec.upto fnExactLockedBySpec)) fnExactLockedByUptoCard

/-- THE SECOND FORM's CARD OF 'laws.FnExactPointLock'. -/
def fnExactPointLockUptoCard : Claim7 := { stood := { row := fnExactPointLockUptoRow, standIns := [], harness := (true, "49ad68e3c21d2cc9c14b23374be36f52d389f06f31791c143d346871e3181f20"), looks := true }, kinds := [], alts := [], laidByText := true, laidKinds := [.sentinel], laidTests := true, laidLooks := .later }
def FnExactPointLockUptoCardSaid : Prop := Claim7.holds Tryz.pinned (.plain (OpenSpec.upto fnExactPointLockSpec)) fnExactPointLockUptoCard

/-- THE SECOND FORM's CARD OF 'laws.FnExactWhyNot'. -/
def fnExactWhyNotUptoCard : Claim7 := { stood := { row := fnExactWhyNotUptoRow, standIns := [], harness := (true, "49ad68e3c21d2cc9c14b23374be36f52d389f06f31791c143d346871e3181f20"), looks := true }, kinds := [], alts := [], laidByText := true, laidKinds := [.sentinel, .sentinel, .sentinel, .sentinel, .sentinel, .sentinel, .sentinel], laidTests := true, laidLooks := .later }
def FnExactWhyNotUptoCardSaid : Prop := Claim7.holds Tryz.pinned (.plain (OpenSpec.upto fnExactWhyNotSpec)) fnExactWhyNotUptoCard

/-- THE SECOND FORM's CARD OF 'laws.FnExactBlocked'. -/
def fnExactBlockedUptoCard : Claim7 := { stood := { row := fnExactBlockedUptoRow, standIns := [], harness := (true, "49ad68e3c21d2cc9c14b23374be36f52d389f06f31791c143d346871e3181f20"), looks := true }, kinds := [], alts := [], laidByText := true, laidKinds := [.sentinel, .sentinel, .sentinel], laidTests := true, laidLooks := .later }
def FnExactBlockedUptoCardSaid : Prop := Claim7.holds Tryz.pinned (.plain (OpenSpec.upto fnExactBlockedSpec)) fnExactBlockedUptoCard
end Rows
end Go.Proofs.YtlgapgajgpilgaaGreatDoor
