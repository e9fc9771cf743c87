/-
  DERIVED. GIVEN WITH THE SEED: THE CARDS: each row of YtkeilejbelblcaaGreatDoorRows.lean that lists a variable, with what it lists TIED to the program's text (the seventh form; the later family's looks); each row that meets fmt, with fmt's text TOLD by the authors' own Lean function (tested against real Go, not proved from fmt's source: count such statements apart). THE CARD IS WHAT COUNTS. Prove the row's statement (the work); the ties are given (YtkeilejbelblcaaGreatDoorTie.lean); close each card by the builder's one call (the guide's Derived/Test/ToyasCard.lean, 'card_holds'). Laid BY PROGRAM, IN A SANDBOX (cutbox-door.mjs). By AI agents, Wed Nov 11 2026. No macro, syntax, notation, axiom, sorry.
-/
import Derived.Test.YtkeilejbelblcaaGreatDoorRows
import GoSem.ClaimSeven
namespace Go.Proofs.YtkeilejbelblcaaGreatDoor
namespace Rows

/-- THE TIED CARD OF 'laws.FnExactFrameOk'. -/
def fnExactFrameOkCard : Claim7 := { stood := { row := fnExactFrameOkRow, standIns := [], harness := (true, "750d4ecbd01451ad75c08904705067911c222110bbc684b2eed9a87efba357bb"), looks := true }, kinds := [], alts := [], laidByText := true, laidKinds := [.sentinel], laidTests := true, laidLooks := .later }
def FnExactFrameOkCardSaid : Prop := Claim7.holds Tryz.pinned (.plain (OpenSpec.ofChange fnExactFrameOkSpec)) fnExactFrameOkCard

/-- THE TIED CARD OF 'laws.FnExactDoFrame'. -/
def fnExactDoFrameCard : Claim7 := { stood := { row := fnExactDoFrameRow, standIns := [], harness := (true, "750d4ecbd01451ad75c08904705067911c222110bbc684b2eed9a87efba357bb"), looks := true }, kinds := [], alts := [], laidByText := true, laidKinds := [.sentinel, .sentinel, .sentinel, .sentinel, .sentinel, .sentinel, .sentinel], laidTests := true, laidLooks := .later }
def FnExactDoFrameCardSaid : Prop := Claim7.holds Tryz.pinned (.plain (OpenSpec.ofChange fnExactDoFrameSpec)) fnExactDoFrameCard

/-- THE TIED CARD OF 'laws.FnExactProved'. -/
def fnExactProvedCard : Claim7 := { stood := { row := fnExactProvedRow, standIns := [], harness := (true, "750d4ecbd01451ad75c08904705067911c222110bbc684b2eed9a87efba357bb"), looks := true }, kinds := [], alts := [], laidByText := true, laidKinds := [.sentinel], laidTests := true, laidLooks := .later }
def FnExactProvedCardSaid : Prop := Claim7.holds Tryz.pinned (.plain (OpenSpec.ofChange fnExactProvedSpec)) fnExactProvedCard

/-- THE SECOND FORM's CARD OF 'laws.FnExactFrameOk'. -/
def fnExactFrameOkUptoCard : Claim7 := { stood := { row := fnExactFrameOkUptoRow, standIns := [], harness := (true, "750d4ecbd01451ad75c08904705067911c222110bbc684b2eed9a87efba357bb"), looks := true }, kinds := [], alts := [], laidByText := true, laidKinds := [.sentinel], laidTests := true, laidLooks := .later }
def FnExactFrameOkUptoCardSaid : Prop := Claim7.holds Tryz.pinned (.plain (OpenSpec.upto fnExactFrameOkSpec)) fnExactFrameOkUptoCard

/-- THE SECOND FORM's CARD OF 'laws.FnExactDoFrame'. -/
def fnExactDoFrameUptoCard : Claim7 := { stood := { row := fnExactDoFrameUptoRow, standIns := [], harness := (true, "750d4ecbd01451ad75c08904705067911c222110bbc684b2eed9a87efba357bb"), looks := true }, kinds := [], alts := [], laidByText := true, laidKinds := [.sentinel, .sentinel, .sentinel, .sentinel, .sentinel, .sentinel, .sentinel], laidTests := true, laidLooks := .later }
def FnExactDoFrameUptoCardSaid : Prop := Claim7.holds Tryz.pinned (.plain (OpenSpec.upto fnExactDoFrameSpec)) fnExactDoFrameUptoCard

/-- THE SECOND FORM's CARD OF 'laws.FnExactProved'. -/
def fnExactProvedUptoCard : Claim7 := { stood := { row := fnExactProvedUptoRow, standIns := [], harness := (true, "750d4ecbd01451ad75c08904705067911c222110bbc684b2eed9a87efba357bb"), looks := true }, kinds := [], alts := [], laidByText := true, laidKinds := [.sentinel], laidTests := true, laidLooks := .later }
def FnExactProvedUptoCardSaid : Prop := Claim7.holds Tryz.pinned (.plain (OpenSpec.upto fnExactProvedSpec)) fnExactProvedUptoCard
end Rows
end Go.Proofs.YtkeilejbelblcaaGreatDoor
