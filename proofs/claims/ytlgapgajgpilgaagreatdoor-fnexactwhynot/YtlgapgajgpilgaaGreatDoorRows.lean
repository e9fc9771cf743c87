/-
  NARROWER THAN 'FOR EVERY INPUT', by the rows' own cells (each row's printed sentence says how): FnExactLockedBy: ifaces, laid · FnExactPointLock: ifaces, laid · FnExactWhyNot: ifaces, laid · FnExactBlocked: ifaces, laid.
  DERIVED. THE GIVEN ROWS OF THIS SEAT. 4 by the template 'for every input the law returns true; each argument reads behind the call as it read before'; 0 by the template 'total and deterministic' (their statements: YtlgapgajgpilgaaGreatDoorTotals.lean).
  GIVEN WITH THE SEED: the statements are not yours to turn. If you find one false, say at which input.
  Laid BY PROGRAM, IN A SANDBOX (cutbox-rows.mjs): the forced cells as the released guide's own fill.sh prints them over the translation abd97357afaca5af… (all of the seat's roots in one cut). By AI agents, Wed Nov 11 2026. No macro, syntax, notation, axiom, sorry.
-/
import Derived.Test.YtlgapgajgpilgaaGreatDoorChecked
import GoSem.Claim
import GoSem.ClaimJoined
import GoSem.ClaimMapViews
import Derived.JoinedTies
import Derived.KernelRfl
namespace Go.Proofs.YtlgapgajgpilgaaGreatDoor
/- THE CELL 'sum', in the pinned program and in every row, IS THE sha256 OF THE DUMP (.gsa) THAT YtlgapgajgpilgaaGreatDoorProg.lean LOADS. Nothing in Lean hashes anything: it is a label: what it is worth is what the hold of that sum in a sandbox is worth. -/
noncomputable def Tryz.pinned : Pinned := { name := "ytlgapgajgpilgaagreatdoor", sum := "abd97357afaca5af21a09f9587c9c48b9af19e1db742f8ed0f492aa5fcc3b1ea", checked := Tryz.checked }
namespace Rows
def none {H : Type} : Left H := { results := [], args := [] }

/- WHAT THE LISTED PACKAGE-LEVEL VARIABLES READ AS WHEN THE CALL BEGINS. Each datum BY PROGRAM (the guide's laid-datum.mjs) off the statement by which the dump's own 'gosem.cut.vars' lays the variable. In a bare row this is a premise. The card (YtlgapgajgpilgaaGreatDoorCards.lean) ties it to the program's text. -/
def laid_loop_example_signalbox_impl_errNone {H : Type} : DataW H := .iface "*errors.errorString" (.ptr (.agg [.lit (.string [116, 104, 101, 114, 101, 32, 105, 115, 32, 110, 111, 32, 115, 117, 99, 104, 32, 102, 114, 97, 109, 101, 44, 32, 119, 97, 121, 32, 111, 114, 32, 101, 118, 101, 110, 116])]))
def laid_loop_example_signalbox_impl_errHeld {H : Type} : DataW H := .iface "*errors.errorString" (.ptr (.agg [.lit (.string [116, 104, 101, 32, 119, 97, 121, 32, 105, 115, 32, 104, 101, 108, 100])]))
def laid_loop_example_signalbox_impl_errBarred {H : Type} : DataW H := .iface "*errors.errorString" (.ptr (.agg [.lit (.string [97, 110, 111, 116, 104, 101, 114, 32, 104, 101, 108, 100, 32, 119, 97, 121, 32, 101, 120, 99, 108, 117, 100, 101, 115, 32, 116, 104, 101, 32, 119, 97, 121])]))
def laid_loop_example_signalbox_impl_errFilled {H : Type} : DataW H := .iface "*errors.errorString" (.ptr (.agg [.lit (.string [115, 111, 109, 101, 98, 111, 100, 121, 32, 105, 115, 32, 105, 110, 32, 97, 32, 115, 101, 99, 116, 105, 111, 110, 32, 111, 102, 32, 116, 104, 101, 32, 119, 97, 121])]))
def laid_loop_example_signalbox_impl_errWanted {H : Type} : DataW H := .iface "*errors.errorString" (.ptr (.agg [.lit (.string [97, 32, 119, 97, 121, 32, 119, 97, 110, 116, 115, 32, 116, 104, 101, 32, 115, 119, 105, 116, 99, 104])]))
def laid_loop_example_signalbox_impl_errUnder {H : Type} : DataW H := .iface "*errors.errorString" (.ptr (.agg [.lit (.string [115, 111, 109, 101, 98, 111, 100, 121, 32, 105, 115, 32, 105, 110, 32, 116, 104, 101, 32, 115, 101, 99, 116, 105, 111, 110, 32, 111, 102, 32, 116, 104, 101, 32, 115, 119, 105, 116, 99, 104])]))
def laid_loop_example_signalbox_impl_errNotSet {H : Type} : DataW H := .iface "*errors.errorString" (.ptr (.agg [.lit (.string [116, 104, 101, 32, 119, 97, 121, 32, 105, 115, 32, 110, 101, 105, 116, 104, 101, 114, 32, 115, 101, 116, 32, 110, 111, 114, 32, 99, 108, 101, 97, 114])]))

/-- 'laws.FnExactLockedBy': WHATEVER THE INPUT: true; the input reads as it did. -/
def fnExactLockedBySpec : ChangeSpec := { name := "fnExactLockedBy", vars := ["loop.example/signalbox/impl.errNone"], fn := fun _ => fun
  | [d1, d2, d3, g1] => { results := [.lit (.bool true)], args := [d1, d2, d3], vars := [g1] }
  | _ => none }
def fnExactLockedByRow : OpenClaim := { program := "ytlgapgajgpilgaagreatdoor", sum := "abd97357afaca5af21a09f9587c9c48b9af19e1db742f8ed0f492aa5fcc3b1ea", func := "loop.example/signalbox/laws.FnExactLockedBy", spec := "fnExactLockedBy", unfollowed := true, recurses := true, named := ["loop.example/signalbox/impl.errNone"], ifaces := true, apart := false, laid := [("loop.example/signalbox/impl.errNone", laid_loop_example_signalbox_impl_errNone)] }
def FnExactLockedBySaid : Prop := fnExactLockedByRow.holds Tryz.pinned (OpenSpec.ofChange fnExactLockedBySpec)

/-- ITS FALSE NEIGHBOUR: 'it returns false'. Refute it at one input. -/
def fnExactLockedByWrong : ChangeSpec := { name := "fnExactLockedBy", vars := ["loop.example/signalbox/impl.errNone"], fn := fun _ => fun
  | [d1, d2, d3, g1] => { results := [.lit (.bool false)], args := [d1, d2, d3], vars := [g1] }
  | _ => none }
def FnExactLockedByWrongFalsely : Prop := fnExactLockedByRow.holds Tryz.pinned (OpenSpec.ofChange fnExactLockedByWrong)

/-- 'laws.FnExactPointLock': WHATEVER THE INPUT: true; the input reads as it did. -/
def fnExactPointLockSpec : ChangeSpec := { name := "fnExactPointLock", vars := ["loop.example/signalbox/impl.errNone"], fn := fun _ => fun
  | [d1, d2, d3, g1] => { results := [.lit (.bool true)], args := [d1, d2, d3], vars := [g1] }
  | _ => none }
def fnExactPointLockRow : OpenClaim := { program := "ytlgapgajgpilgaagreatdoor", sum := "abd97357afaca5af21a09f9587c9c48b9af19e1db742f8ed0f492aa5fcc3b1ea", func := "loop.example/signalbox/laws.FnExactPointLock", spec := "fnExactPointLock", unfollowed := true, recurses := true, named := ["loop.example/signalbox/impl.errNone"], ifaces := true, apart := false, laid := [("loop.example/signalbox/impl.errNone", laid_loop_example_signalbox_impl_errNone)] }
def FnExactPointLockSaid : Prop := fnExactPointLockRow.holds Tryz.pinned (OpenSpec.ofChange fnExactPointLockSpec)

/-- ITS FALSE NEIGHBOUR: 'it returns false'. Refute it at one input. -/
def fnExactPointLockWrong : ChangeSpec := { name := "fnExactPointLock", vars := ["loop.example/signalbox/impl.errNone"], fn := fun _ => fun
  | [d1, d2, d3, g1] => { results := [.lit (.bool false)], args := [d1, d2, d3], vars := [g1] }
  | _ => none }
def FnExactPointLockWrongFalsely : Prop := fnExactPointLockRow.holds Tryz.pinned (OpenSpec.ofChange fnExactPointLockWrong)

/-- 'laws.FnExactWhyNot': WHATEVER THE INPUT: true; the input reads as it did. -/
def fnExactWhyNotSpec : ChangeSpec := { name := "fnExactWhyNot", vars := ["loop.example/signalbox/impl.errNone", "loop.example/signalbox/impl.errHeld", "loop.example/signalbox/impl.errBarred", "loop.example/signalbox/impl.errFilled", "loop.example/signalbox/impl.errWanted", "loop.example/signalbox/impl.errUnder", "loop.example/signalbox/impl.errNotSet"], fn := fun _ => fun
  | [d1, d2, d3, g1, g2, g3, g4, g5, g6, g7] => { results := [.lit (.bool true)], args := [d1, d2, d3], vars := [g1, g2, g3, g4, g5, g6, g7] }
  | _ => none }
def fnExactWhyNotRow : OpenClaim := { program := "ytlgapgajgpilgaagreatdoor", sum := "abd97357afaca5af21a09f9587c9c48b9af19e1db742f8ed0f492aa5fcc3b1ea", func := "loop.example/signalbox/laws.FnExactWhyNot", spec := "fnExactWhyNot", inPlace := ["internal/reflectlite.TypeOf"], unfollowed := true, recurses := true, named := ["loop.example/signalbox/impl.errNone", "loop.example/signalbox/impl.errHeld", "loop.example/signalbox/impl.errBarred", "loop.example/signalbox/impl.errFilled", "loop.example/signalbox/impl.errWanted", "loop.example/signalbox/impl.errUnder", "loop.example/signalbox/impl.errNotSet"], ifaces := true, apart := false, laid := [("loop.example/signalbox/impl.errNone", laid_loop_example_signalbox_impl_errNone), ("loop.example/signalbox/impl.errHeld", laid_loop_example_signalbox_impl_errHeld), ("loop.example/signalbox/impl.errBarred", laid_loop_example_signalbox_impl_errBarred), ("loop.example/signalbox/impl.errFilled", laid_loop_example_signalbox_impl_errFilled), ("loop.example/signalbox/impl.errWanted", laid_loop_example_signalbox_impl_errWanted), ("loop.example/signalbox/impl.errUnder", laid_loop_example_signalbox_impl_errUnder), ("loop.example/signalbox/impl.errNotSet", laid_loop_example_signalbox_impl_errNotSet)] }
def FnExactWhyNotSaid : Prop := fnExactWhyNotRow.holds Tryz.pinned (OpenSpec.ofChange fnExactWhyNotSpec)

/-- ITS FALSE NEIGHBOUR: 'it returns false'. Refute it at one input. -/
def fnExactWhyNotWrong : ChangeSpec := { name := "fnExactWhyNot", vars := ["loop.example/signalbox/impl.errNone", "loop.example/signalbox/impl.errHeld", "loop.example/signalbox/impl.errBarred", "loop.example/signalbox/impl.errFilled", "loop.example/signalbox/impl.errWanted", "loop.example/signalbox/impl.errUnder", "loop.example/signalbox/impl.errNotSet"], fn := fun _ => fun
  | [d1, d2, d3, g1, g2, g3, g4, g5, g6, g7] => { results := [.lit (.bool false)], args := [d1, d2, d3], vars := [g1, g2, g3, g4, g5, g6, g7] }
  | _ => none }
def FnExactWhyNotWrongFalsely : Prop := fnExactWhyNotRow.holds Tryz.pinned (OpenSpec.ofChange fnExactWhyNotWrong)

/-- 'laws.FnExactBlocked': WHATEVER THE INPUT: true; the input reads as it did. -/
def fnExactBlockedSpec : ChangeSpec := { name := "fnExactBlocked", vars := ["loop.example/signalbox/impl.errNone", "loop.example/signalbox/impl.errWanted", "loop.example/signalbox/impl.errUnder"], fn := fun _ => fun
  | [d1, d2, d3, g1, g2, g3] => { results := [.lit (.bool true)], args := [d1, d2, d3], vars := [g1, g2, g3] }
  | _ => none }
def fnExactBlockedRow : OpenClaim := { program := "ytlgapgajgpilgaagreatdoor", sum := "abd97357afaca5af21a09f9587c9c48b9af19e1db742f8ed0f492aa5fcc3b1ea", func := "loop.example/signalbox/laws.FnExactBlocked", spec := "fnExactBlocked", unfollowed := true, recurses := true, named := ["loop.example/signalbox/impl.errNone", "loop.example/signalbox/impl.errWanted", "loop.example/signalbox/impl.errUnder"], ifaces := true, apart := false, laid := [("loop.example/signalbox/impl.errNone", laid_loop_example_signalbox_impl_errNone), ("loop.example/signalbox/impl.errWanted", laid_loop_example_signalbox_impl_errWanted), ("loop.example/signalbox/impl.errUnder", laid_loop_example_signalbox_impl_errUnder)] }
def FnExactBlockedSaid : Prop := fnExactBlockedRow.holds Tryz.pinned (OpenSpec.ofChange fnExactBlockedSpec)

/-- ITS FALSE NEIGHBOUR: 'it returns false'. Refute it at one input. -/
def fnExactBlockedWrong : ChangeSpec := { name := "fnExactBlocked", vars := ["loop.example/signalbox/impl.errNone", "loop.example/signalbox/impl.errWanted", "loop.example/signalbox/impl.errUnder"], fn := fun _ => fun
  | [d1, d2, d3, g1, g2, g3] => { results := [.lit (.bool false)], args := [d1, d2, d3], vars := [g1, g2, g3] }
  | _ => none }
def FnExactBlockedWrongFalsely : Prop := fnExactBlockedRow.holds Tryz.pinned (OpenSpec.ofChange fnExactBlockedWrong)

/- THE SECOND FORM. 'bulk': how many values and letters a reading holds, each counted each time it is reached (what is shared counts as often as it is met; a slice's spare places count too). A statement '..UptoSaid' is the law's where the arguments, and the package variables that the reading takes, are together of bulk at most 1048576: NARROWER than '..Said'. Prove '..Said' where nothing that the law and all that it calls make is longer than what came in: it says more and counts as full. Else prove '..UptoSaid'. A law counts once. -/
mutual
def uptoBulk {H : Type} : DataW H → Nat
  | .lit (.string bytes) => bytes.length + 1
  | .lit _ => 1
  | .nil => 1
  | .ptr d => uptoBulk d + 1
  | .slice elems spare => uptoBulkAll elems + uptoBulkAll spare + 1
  | .agg parts => uptoBulkAll parts + 1
  | .iface _ d => uptoBulk d + 1
  | .map entries => uptoBulkEntries entries + 1
  | .held _ => 1
def uptoBulkAll {H : Type} : List (DataW H) → Nat
  | [] => 0
  | d :: r => uptoBulk d + uptoBulkAll r
def uptoBulkEntries {H : Type} : List (Lit × DataW H) → Nat
  | [] => 0
  | x :: r => uptoBulkEntry x + uptoBulkEntries r
def uptoBulkEntry {H : Type} : Lit × DataW H → Nat
  | (.string bytes, d) => bytes.length + uptoBulk d + 1
  | (_, d) => uptoBulk d + 1
 end
def uptoSmall : (H : Type) → List (DataW H) → Bool := fun _ ds => decide (uptoBulkAll ds ≤ 1048576)
def OpenSpec.upto (s : _root_.Go.ChangeSpec) : _root_.Go.OpenSpec := { _root_.Go.OpenSpec.ofChange s with cond := some uptoSmall }

/-- 'laws.FnExactLockedBy', WHERE WHAT IT READS IS OF BULK AT MOST 1048576: true; the input reads as it did. -/
def fnExactLockedByUptoRow : OpenClaim := { program := "ytlgapgajgpilgaagreatdoor", sum := "abd97357afaca5af21a09f9587c9c48b9af19e1db742f8ed0f492aa5fcc3b1ea", func := "loop.example/signalbox/laws.FnExactLockedBy", spec := "fnExactLockedBy", unfollowed := true, recurses := true, named := ["loop.example/signalbox/impl.errNone"], ifaces := true, apart := false, laid := [("loop.example/signalbox/impl.errNone", laid_loop_example_signalbox_impl_errNone)], narrowed := true }
def FnExactLockedByUptoSaid : Prop := fnExactLockedByUptoRow.holds Tryz.pinned (OpenSpec.upto fnExactLockedBySpec)

/-- 'laws.FnExactPointLock', WHERE WHAT IT READS IS OF BULK AT MOST 1048576: true; the input reads as it did. -/
def fnExactPointLockUptoRow : OpenClaim := { program := "ytlgapgajgpilgaagreatdoor", sum := "abd97357afaca5af21a09f9587c9c48b9af19e1db742f8ed0f492aa5fcc3b1ea", func := "loop.example/signalbox/laws.FnExactPointLock", spec := "fnExactPointLock", unfollowed := true, recurses := true, named := ["loop.example/signalbox/impl.errNone"], ifaces := true, apart := false, laid := [("loop.example/signalbox/impl.errNone", laid_loop_example_signalbox_impl_errNone)], narrowed := true }
def FnExactPointLockUptoSaid : Prop := fnExactPointLockUptoRow.holds Tryz.pinned (OpenSpec.upto fnExactPointLockSpec)

/-- 'laws.FnExactWhyNot', WHERE WHAT IT READS IS OF BULK AT MOST 1048576: true; the input reads as it did. -/
def fnExactWhyNotUptoRow : OpenClaim := { program := "ytlgapgajgpilgaagreatdoor", sum := "abd97357afaca5af21a09f9587c9c48b9af19e1db742f8ed0f492aa5fcc3b1ea", func := "loop.example/signalbox/laws.FnExactWhyNot", spec := "fnExactWhyNot", inPlace := ["internal/reflectlite.TypeOf"], unfollowed := true, recurses := true, named := ["loop.example/signalbox/impl.errNone", "loop.example/signalbox/impl.errHeld", "loop.example/signalbox/impl.errBarred", "loop.example/signalbox/impl.errFilled", "loop.example/signalbox/impl.errWanted", "loop.example/signalbox/impl.errUnder", "loop.example/signalbox/impl.errNotSet"], ifaces := true, apart := false, laid := [("loop.example/signalbox/impl.errNone", laid_loop_example_signalbox_impl_errNone), ("loop.example/signalbox/impl.errHeld", laid_loop_example_signalbox_impl_errHeld), ("loop.example/signalbox/impl.errBarred", laid_loop_example_signalbox_impl_errBarred), ("loop.example/signalbox/impl.errFilled", laid_loop_example_signalbox_impl_errFilled), ("loop.example/signalbox/impl.errWanted", laid_loop_example_signalbox_impl_errWanted), ("loop.example/signalbox/impl.errUnder", laid_loop_example_signalbox_impl_errUnder), ("loop.example/signalbox/impl.errNotSet", laid_loop_example_signalbox_impl_errNotSet)], narrowed := true }
def FnExactWhyNotUptoSaid : Prop := fnExactWhyNotUptoRow.holds Tryz.pinned (OpenSpec.upto fnExactWhyNotSpec)

/-- 'laws.FnExactBlocked', WHERE WHAT IT READS IS OF BULK AT MOST 1048576: true; the input reads as it did. -/
def fnExactBlockedUptoRow : OpenClaim := { program := "ytlgapgajgpilgaagreatdoor", sum := "abd97357afaca5af21a09f9587c9c48b9af19e1db742f8ed0f492aa5fcc3b1ea", func := "loop.example/signalbox/laws.FnExactBlocked", spec := "fnExactBlocked", unfollowed := true, recurses := true, named := ["loop.example/signalbox/impl.errNone", "loop.example/signalbox/impl.errWanted", "loop.example/signalbox/impl.errUnder"], ifaces := true, apart := false, laid := [("loop.example/signalbox/impl.errNone", laid_loop_example_signalbox_impl_errNone), ("loop.example/signalbox/impl.errWanted", laid_loop_example_signalbox_impl_errWanted), ("loop.example/signalbox/impl.errUnder", laid_loop_example_signalbox_impl_errUnder)], narrowed := true }
def FnExactBlockedUptoSaid : Prop := fnExactBlockedUptoRow.holds Tryz.pinned (OpenSpec.upto fnExactBlockedSpec)

end Rows
end Go.Proofs.YtlgapgajgpilgaaGreatDoor
