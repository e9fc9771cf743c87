/-
  NARROWER THAN 'FOR EVERY INPUT', by the rows' own cells (each row's printed sentence says how): FnExactFrameOk: ifaces, laid · FnExactDoFrame: ifaces, laid · FnExactProved: ifaces, laid.
  DERIVED. THE GIVEN ROWS OF THIS SEAT. 3 by the template 'for every input the law returns true; each argument reads behind the call as it read before'; 0 by the template 'total and deterministic' (their statements: YtkeilejbelblcaaGreatDoorTotals.lean).
  GIVEN WITH THE SEED: the statements are not yours to turn. If you find one false, say at which input.
  Laid BY PROGRAM, IN A SANDBOX (cutbox-rows.mjs): the forced cells as the released guide's own fill.sh prints them over the translation 8d5023eb852fe309… (all of the seat's roots in one cut). By AI agents, Wed Nov 11 2026. No macro, syntax, notation, axiom, sorry.
-/
import Derived.Test.YtkeilejbelblcaaGreatDoorChecked
import GoSem.Claim
import GoSem.ClaimJoined
import GoSem.ClaimMapViews
import Derived.JoinedTies
import Derived.KernelRfl
namespace Go.Proofs.YtkeilejbelblcaaGreatDoor
/- THE CELL 'sum', in the pinned program and in every row, IS THE sha256 OF THE DUMP (.gsa) THAT YtkeilejbelblcaaGreatDoorProg.lean LOADS. Nothing in Lean hashes anything: it is a label: what it is worth is what the hold of that sum in a sandbox is worth. -/
noncomputable def Tryz.pinned : Pinned := { name := "ytkeilejbelblcaagreatdoor", sum := "8d5023eb852fe3091240d7f70caa09d879fae6185999af00dfbf735bcf6e813b", checked := Tryz.checked }
namespace Rows
def none {H : Type} : Left H := { results := [], args := [] }

/- WHAT THE LISTED PACKAGE-LEVEL VARIABLES READ AS WHEN THE CALL BEGINS. Each datum BY PROGRAM (the guide's laid-datum.mjs) off the statement by which the dump's own 'gosem.cut.vars' lays the variable. In a bare row this is a premise. The card (YtkeilejbelblcaaGreatDoorCards.lean) ties it to the program's text. -/
def laid_loop_example_signalbox_impl_errNone {H : Type} : DataW H := .iface "*errors.errorString" (.ptr (.agg [.lit (.string [116, 104, 101, 114, 101, 32, 105, 115, 32, 110, 111, 32, 115, 117, 99, 104, 32, 102, 114, 97, 109, 101, 44, 32, 119, 97, 121, 32, 111, 114, 32, 101, 118, 101, 110, 116])]))
def laid_loop_example_signalbox_impl_errHeld {H : Type} : DataW H := .iface "*errors.errorString" (.ptr (.agg [.lit (.string [116, 104, 101, 32, 119, 97, 121, 32, 105, 115, 32, 104, 101, 108, 100])]))
def laid_loop_example_signalbox_impl_errBarred {H : Type} : DataW H := .iface "*errors.errorString" (.ptr (.agg [.lit (.string [97, 110, 111, 116, 104, 101, 114, 32, 104, 101, 108, 100, 32, 119, 97, 121, 32, 101, 120, 99, 108, 117, 100, 101, 115, 32, 116, 104, 101, 32, 119, 97, 121])]))
def laid_loop_example_signalbox_impl_errFilled {H : Type} : DataW H := .iface "*errors.errorString" (.ptr (.agg [.lit (.string [115, 111, 109, 101, 98, 111, 100, 121, 32, 105, 115, 32, 105, 110, 32, 97, 32, 115, 101, 99, 116, 105, 111, 110, 32, 111, 102, 32, 116, 104, 101, 32, 119, 97, 121])]))
def laid_loop_example_signalbox_impl_errWanted {H : Type} : DataW H := .iface "*errors.errorString" (.ptr (.agg [.lit (.string [97, 32, 119, 97, 121, 32, 119, 97, 110, 116, 115, 32, 116, 104, 101, 32, 115, 119, 105, 116, 99, 104])]))
def laid_loop_example_signalbox_impl_errUnder {H : Type} : DataW H := .iface "*errors.errorString" (.ptr (.agg [.lit (.string [115, 111, 109, 101, 98, 111, 100, 121, 32, 105, 115, 32, 105, 110, 32, 116, 104, 101, 32, 115, 101, 99, 116, 105, 111, 110, 32, 111, 102, 32, 116, 104, 101, 32, 115, 119, 105, 116, 99, 104])]))
def laid_loop_example_signalbox_impl_errNotSet {H : Type} : DataW H := .iface "*errors.errorString" (.ptr (.agg [.lit (.string [116, 104, 101, 32, 119, 97, 121, 32, 105, 115, 32, 110, 101, 105, 116, 104, 101, 114, 32, 115, 101, 116, 32, 110, 111, 114, 32, 99, 108, 101, 97, 114])]))

/-- 'laws.FnExactFrameOk': WHATEVER THE INPUT: true; the input reads as it did. -/
def fnExactFrameOkSpec : ChangeSpec := { name := "fnExactFrameOk", vars := ["loop.example/signalbox/impl.errNone"], fn := fun _ => fun
  | [d1, d2, g1] => { results := [.lit (.bool true)], args := [d1, d2], vars := [g1] }
  | _ => none }
def fnExactFrameOkRow : OpenClaim := { program := "ytkeilejbelblcaagreatdoor", sum := "8d5023eb852fe3091240d7f70caa09d879fae6185999af00dfbf735bcf6e813b", func := "loop.example/signalbox/laws.FnExactFrameOk", spec := "fnExactFrameOk", unfollowed := true, recurses := true, named := ["loop.example/signalbox/impl.errNone"], ifaces := true, apart := false, laid := [("loop.example/signalbox/impl.errNone", laid_loop_example_signalbox_impl_errNone)] }
def FnExactFrameOkSaid : Prop := fnExactFrameOkRow.holds Tryz.pinned (OpenSpec.ofChange fnExactFrameOkSpec)

/-- ITS FALSE NEIGHBOUR: 'it returns false'. Refute it at one input. -/
def fnExactFrameOkWrong : ChangeSpec := { name := "fnExactFrameOk", vars := ["loop.example/signalbox/impl.errNone"], fn := fun _ => fun
  | [d1, d2, g1] => { results := [.lit (.bool false)], args := [d1, d2], vars := [g1] }
  | _ => none }
def FnExactFrameOkWrongFalsely : Prop := fnExactFrameOkRow.holds Tryz.pinned (OpenSpec.ofChange fnExactFrameOkWrong)

/-- 'laws.FnExactDoFrame': WHATEVER THE INPUT: true; the input reads as it did. -/
def fnExactDoFrameSpec : ChangeSpec := { name := "fnExactDoFrame", vars := ["loop.example/signalbox/impl.errNone", "loop.example/signalbox/impl.errHeld", "loop.example/signalbox/impl.errBarred", "loop.example/signalbox/impl.errFilled", "loop.example/signalbox/impl.errWanted", "loop.example/signalbox/impl.errUnder", "loop.example/signalbox/impl.errNotSet"], fn := fun _ => fun
  | [d1, d2, d3, g1, g2, g3, g4, g5, g6, g7] => { results := [.lit (.bool true)], args := [d1, d2, d3], vars := [g1, g2, g3, g4, g5, g6, g7] }
  | _ => none }
def fnExactDoFrameRow : OpenClaim := { program := "ytkeilejbelblcaagreatdoor", sum := "8d5023eb852fe3091240d7f70caa09d879fae6185999af00dfbf735bcf6e813b", func := "loop.example/signalbox/laws.FnExactDoFrame", spec := "fnExactDoFrame", inPlace := ["internal/reflectlite.TypeOf"], unfollowed := true, recurses := true, named := ["loop.example/signalbox/impl.errNone", "loop.example/signalbox/impl.errHeld", "loop.example/signalbox/impl.errBarred", "loop.example/signalbox/impl.errFilled", "loop.example/signalbox/impl.errWanted", "loop.example/signalbox/impl.errUnder", "loop.example/signalbox/impl.errNotSet"], ifaces := true, apart := false, laid := [("loop.example/signalbox/impl.errNone", laid_loop_example_signalbox_impl_errNone), ("loop.example/signalbox/impl.errHeld", laid_loop_example_signalbox_impl_errHeld), ("loop.example/signalbox/impl.errBarred", laid_loop_example_signalbox_impl_errBarred), ("loop.example/signalbox/impl.errFilled", laid_loop_example_signalbox_impl_errFilled), ("loop.example/signalbox/impl.errWanted", laid_loop_example_signalbox_impl_errWanted), ("loop.example/signalbox/impl.errUnder", laid_loop_example_signalbox_impl_errUnder), ("loop.example/signalbox/impl.errNotSet", laid_loop_example_signalbox_impl_errNotSet)] }
def FnExactDoFrameSaid : Prop := fnExactDoFrameRow.holds Tryz.pinned (OpenSpec.ofChange fnExactDoFrameSpec)

/-- ITS FALSE NEIGHBOUR: 'it returns false'. Refute it at one input. -/
def fnExactDoFrameWrong : ChangeSpec := { name := "fnExactDoFrame", vars := ["loop.example/signalbox/impl.errNone", "loop.example/signalbox/impl.errHeld", "loop.example/signalbox/impl.errBarred", "loop.example/signalbox/impl.errFilled", "loop.example/signalbox/impl.errWanted", "loop.example/signalbox/impl.errUnder", "loop.example/signalbox/impl.errNotSet"], fn := fun _ => fun
  | [d1, d2, d3, g1, g2, g3, g4, g5, g6, g7] => { results := [.lit (.bool false)], args := [d1, d2, d3], vars := [g1, g2, g3, g4, g5, g6, g7] }
  | _ => none }
def FnExactDoFrameWrongFalsely : Prop := fnExactDoFrameRow.holds Tryz.pinned (OpenSpec.ofChange fnExactDoFrameWrong)

/-- 'laws.FnExactProved': WHATEVER THE INPUT: true; the input reads as it did. -/
def fnExactProvedSpec : ChangeSpec := { name := "fnExactProved", vars := ["loop.example/signalbox/impl.errNone"], fn := fun _ => fun
  | [d1, d2, d3, g1] => { results := [.lit (.bool true)], args := [d1, d2, d3], vars := [g1] }
  | _ => none }
def fnExactProvedRow : OpenClaim := { program := "ytkeilejbelblcaagreatdoor", sum := "8d5023eb852fe3091240d7f70caa09d879fae6185999af00dfbf735bcf6e813b", func := "loop.example/signalbox/laws.FnExactProved", spec := "fnExactProved", unfollowed := true, recurses := true, named := ["loop.example/signalbox/impl.errNone"], ifaces := true, apart := false, laid := [("loop.example/signalbox/impl.errNone", laid_loop_example_signalbox_impl_errNone)] }
def FnExactProvedSaid : Prop := fnExactProvedRow.holds Tryz.pinned (OpenSpec.ofChange fnExactProvedSpec)

/-- ITS FALSE NEIGHBOUR: 'it returns false'. Refute it at one input. -/
def fnExactProvedWrong : ChangeSpec := { name := "fnExactProved", vars := ["loop.example/signalbox/impl.errNone"], fn := fun _ => fun
  | [d1, d2, d3, g1] => { results := [.lit (.bool false)], args := [d1, d2, d3], vars := [g1] }
  | _ => none }
def FnExactProvedWrongFalsely : Prop := fnExactProvedRow.holds Tryz.pinned (OpenSpec.ofChange fnExactProvedWrong)

/- THE SECOND FORM. 'bulk': how many values and letters a reading holds, each counted each time it is reached (what is shared counts as often as it is met; a slice's spare places count too). A statement '..UptoSaid' is the law's where the arguments, and the package variables that the reading takes, are together of bulk at most 1048576: NARROWER than '..Said'. Prove '..Said' where nothing that the law and all that it calls make is longer than what came in: it says more and counts as full. Else prove '..UptoSaid'. A law counts once. -/
mutual
def uptoBulk {H : Type} : DataW H → Nat
  | .lit (.string bytes) => bytes.length + 1
  | .lit _ => 1
  | .nil => 1
  | .ptr d => uptoBulk d + 1
  | .slice elems spare => uptoBulkAll elems + uptoBulkAll spare + 1
  | .agg parts => uptoBulkAll parts + 1
  | .iface _ d => uptoBulk d + 1
  | .map entries => uptoBulkEntries entries + 1
  | .held _ => 1
def uptoBulkAll {H : Type} : List (DataW H) → Nat
  | [] => 0
  | d :: r => uptoBulk d + uptoBulkAll r
def uptoBulkEntries {H : Type} : List (Lit × DataW H) → Nat
  | [] => 0
  | x :: r => uptoBulkEntry x + uptoBulkEntries r
def uptoBulkEntry {H : Type} : Lit × DataW H → Nat
  | (.string bytes, d) => bytes.length + uptoBulk d + 1
  | (_, d) => uptoBulk d + 1
 end
def uptoSmall : (H : Type) → List (DataW H) → Bool := fun _ ds => decide (uptoBulkAll ds ≤ 1048576)
def OpenSpec.upto (s : _root_.Go.ChangeSpec) : _root_.Go.OpenSpec := { _root_.Go.OpenSpec.ofChange s with cond := some uptoSmall }

/-- 'laws.FnExactFrameOk', WHERE WHAT IT READS IS OF BULK AT MOST 1048576: true; the input reads as it did. -/
def fnExactFrameOkUptoRow : OpenClaim := { program := "ytkeilejbelblcaagreatdoor", sum := "8d5023eb852fe3091240d7f70caa09d879fae6185999af00dfbf735bcf6e813b", func := "loop.example/signalbox/laws.FnExactFrameOk", spec := "fnExactFrameOk", unfollowed := true, recurses := true, named := ["loop.example/signalbox/impl.errNone"], ifaces := true, apart := false, laid := [("loop.example/signalbox/impl.errNone", laid_loop_example_signalbox_impl_errNone)], narrowed := true }
def FnExactFrameOkUptoSaid : Prop := fnExactFrameOkUptoRow.holds Tryz.pinned (OpenSpec.upto fnExactFrameOkSpec)

/-- 'laws.FnExactDoFrame', WHERE WHAT IT READS IS OF BULK AT MOST 1048576: true; the input reads as it did. -/
def fnExactDoFrameUptoRow : OpenClaim := { program := "ytkeilejbelblcaagreatdoor", sum := "8d5023eb852fe3091240d7f70caa09d879fae6185999af00dfbf735bcf6e813b", func := "loop.example/signalbox/laws.FnExactDoFrame", spec := "fnExactDoFrame", inPlace := ["internal/reflectlite.TypeOf"], unfollowed := true, recurses := true, named := ["loop.example/signalbox/impl.errNone", "loop.example/signalbox/impl.errHeld", "loop.example/signalbox/impl.errBarred", "loop.example/signalbox/impl.errFilled", "loop.example/signalbox/impl.errWanted", "loop.example/signalbox/impl.errUnder", "loop.example/signalbox/impl.errNotSet"], ifaces := true, apart := false, laid := [("loop.example/signalbox/impl.errNone", laid_loop_example_signalbox_impl_errNone), ("loop.example/signalbox/impl.errHeld", laid_loop_example_signalbox_impl_errHeld), ("loop.example/signalbox/impl.errBarred", laid_loop_example_signalbox_impl_errBarred), ("loop.example/signalbox/impl.errFilled", laid_loop_example_signalbox_impl_errFilled), ("loop.example/signalbox/impl.errWanted", laid_loop_example_signalbox_impl_errWanted), ("loop.example/signalbox/impl.errUnder", laid_loop_example_signalbox_impl_errUnder), ("loop.example/signalbox/impl.errNotSet", laid_loop_example_signalbox_impl_errNotSet)], narrowed := true }
def FnExactDoFrameUptoSaid : Prop := fnExactDoFrameUptoRow.holds Tryz.pinned (OpenSpec.upto fnExactDoFrameSpec)

/-- 'laws.FnExactProved', WHERE WHAT IT READS IS OF BULK AT MOST 1048576: true; the input reads as it did. -/
def fnExactProvedUptoRow : OpenClaim := { program := "ytkeilejbelblcaagreatdoor", sum := "8d5023eb852fe3091240d7f70caa09d879fae6185999af00dfbf735bcf6e813b", func := "loop.example/signalbox/laws.FnExactProved", spec := "fnExactProved", unfollowed := true, recurses := true, named := ["loop.example/signalbox/impl.errNone"], ifaces := true, apart := false, laid := [("loop.example/signalbox/impl.errNone", laid_loop_example_signalbox_impl_errNone)], narrowed := true }
def FnExactProvedUptoSaid : Prop := fnExactProvedUptoRow.holds Tryz.pinned (OpenSpec.upto fnExactProvedSpec)

end Rows
end Go.Proofs.YtkeilejbelblcaaGreatDoor
