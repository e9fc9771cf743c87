/-
  No cell of these rows narrows 'for every input' (looked for: loops, veiled, ifaces, maps, wideKeys, modest, calm, conditions, laid).
  DERIVED. THE GIVEN ROWS OF THIS SEAT. 6 by the template 'for every input the law returns true; each argument reads behind the call as it read before'; 0 by the template 'total and deterministic' (their statements: YtmcaohablpaknaaTotals.lean).
  GIVEN WITH THE SEED: the statements are not yours to turn. If you find one false, say at which input.
  Laid BY PROGRAM, IN A SANDBOX (cutbox-rows.mjs): the forced cells as the released guide's own fill.sh prints them over the translation 71948cbddc14fe98… (all of the seat's roots in one cut). By AI agents, Wed Nov 11 2026. No macro, syntax, notation, axiom, sorry.
-/
import Derived.Test.YtmcaohablpaknaaChecked
import GoSem.Claim
import GoSem.ClaimJoined
import GoSem.ClaimMapViews
import Derived.JoinedTies
import Derived.KernelRfl
namespace Go.Proofs.Ytmcaohablpaknaa
/- THE CELL 'sum', in the pinned program and in every row, IS THE sha256 OF THE DUMP (.gsa) THAT YtmcaohablpaknaaProg.lean LOADS. Nothing in Lean hashes anything: it is a label: what it is worth is what the hold of that sum in a sandbox is worth. -/
noncomputable def Try.pinned : Pinned := { name := "ytmcaohablpaknaa", sum := "71948cbddc14fe98fb90370997ac1c01def9e0b4c120dac2d886240640c94f70", checked := Try.checked }
namespace Rows
def none {H : Type} : Left H := { results := [], args := [] }

/-- 'laws.FnExactLayoutOk': WHATEVER THE INPUT: true; the input reads as it did. -/
def fnExactLayoutOkSpec : ChangeSpec := { name := "fnExactLayoutOk", fn := fun _ => fun
  | [d] => { results := [.lit (.bool true)], args := [d] }
  | _ => none }
def fnExactLayoutOkRow : OpenClaim := { program := "ytmcaohablpaknaa", sum := "71948cbddc14fe98fb90370997ac1c01def9e0b4c120dac2d886240640c94f70", func := "loop.example/signalbox/laws.FnExactLayoutOk", spec := "fnExactLayoutOk", apart := false }
def FnExactLayoutOkSaid : Prop := fnExactLayoutOkRow.holds Try.pinned (OpenSpec.ofChange fnExactLayoutOkSpec)

/-- ITS FALSE NEIGHBOUR: 'it returns false'. Refute it at one input. -/
def fnExactLayoutOkWrong : ChangeSpec := { name := "fnExactLayoutOk", fn := fun _ => fun
  | [d] => { results := [.lit (.bool false)], args := [d] }
  | _ => none }
def FnExactLayoutOkWrongFalsely : Prop := fnExactLayoutOkRow.holds Try.pinned (OpenSpec.ofChange fnExactLayoutOkWrong)

/-- 'laws.FnExactAround': WHATEVER THE INPUT: true; the input reads as it did. -/
def fnExactAroundSpec : ChangeSpec := { name := "fnExactAround", fn := fun _ => fun
  | [d1, d2] => { results := [.lit (.bool true)], args := [d1, d2] }
  | _ => none }
def fnExactAroundRow : OpenClaim := { program := "ytmcaohablpaknaa", sum := "71948cbddc14fe98fb90370997ac1c01def9e0b4c120dac2d886240640c94f70", func := "loop.example/signalbox/laws.FnExactAround", spec := "fnExactAround", apart := false }
def FnExactAroundSaid : Prop := fnExactAroundRow.holds Try.pinned (OpenSpec.ofChange fnExactAroundSpec)

/-- ITS FALSE NEIGHBOUR: 'it returns false'. Refute it at one input. -/
def fnExactAroundWrong : ChangeSpec := { name := "fnExactAround", fn := fun _ => fun
  | [d1, d2] => { results := [.lit (.bool false)], args := [d1, d2] }
  | _ => none }
def FnExactAroundWrongFalsely : Prop := fnExactAroundRow.holds Try.pinned (OpenSpec.ofChange fnExactAroundWrong)

/-- 'laws.FnExactBeginCount': WHATEVER THE INPUT: true; the input reads as it did. -/
def fnExactBeginCountSpec : ChangeSpec := { name := "fnExactBeginCount", fn := fun _ => fun
  | [d] => { results := [.lit (.bool true)], args := [d] }
  | _ => none }
def fnExactBeginCountRow : OpenClaim := { program := "ytmcaohablpaknaa", sum := "71948cbddc14fe98fb90370997ac1c01def9e0b4c120dac2d886240640c94f70", func := "loop.example/signalbox/laws.FnExactBeginCount", spec := "fnExactBeginCount", apart := false }
def FnExactBeginCountSaid : Prop := fnExactBeginCountRow.holds Try.pinned (OpenSpec.ofChange fnExactBeginCountSpec)

/-- ITS FALSE NEIGHBOUR: 'it returns false'. Refute it at one input. -/
def fnExactBeginCountWrong : ChangeSpec := { name := "fnExactBeginCount", fn := fun _ => fun
  | [d] => { results := [.lit (.bool false)], args := [d] }
  | _ => none }
def FnExactBeginCountWrongFalsely : Prop := fnExactBeginCountRow.holds Try.pinned (OpenSpec.ofChange fnExactBeginCountWrong)

/-- 'laws.FnExactCountEventOk': WHATEVER THE INPUT: true; the input reads as it did. -/
def fnExactCountEventOkSpec : ChangeSpec := { name := "fnExactCountEventOk", fn := fun _ => fun
  | [d1, d2] => { results := [.lit (.bool true)], args := [d1, d2] }
  | _ => none }
def fnExactCountEventOkRow : OpenClaim := { program := "ytmcaohablpaknaa", sum := "71948cbddc14fe98fb90370997ac1c01def9e0b4c120dac2d886240640c94f70", func := "loop.example/signalbox/laws.FnExactCountEventOk", spec := "fnExactCountEventOk", apart := false }
def FnExactCountEventOkSaid : Prop := fnExactCountEventOkRow.holds Try.pinned (OpenSpec.ofChange fnExactCountEventOkSpec)

/-- ITS FALSE NEIGHBOUR: 'it returns false'. Refute it at one input. -/
def fnExactCountEventOkWrong : ChangeSpec := { name := "fnExactCountEventOk", fn := fun _ => fun
  | [d1, d2] => { results := [.lit (.bool false)], args := [d1, d2] }
  | _ => none }
def FnExactCountEventOkWrongFalsely : Prop := fnExactCountEventOkRow.holds Try.pinned (OpenSpec.ofChange fnExactCountEventOkWrong)

/-- 'laws.FnExactDoCount': WHATEVER THE INPUT: true; the input reads as it did. -/
def fnExactDoCountSpec : ChangeSpec := { name := "fnExactDoCount", fn := fun _ => fun
  | [d1, d2, d3] => { results := [.lit (.bool true)], args := [d1, d2, d3] }
  | _ => none }
def fnExactDoCountRow : OpenClaim := { program := "ytmcaohablpaknaa", sum := "71948cbddc14fe98fb90370997ac1c01def9e0b4c120dac2d886240640c94f70", func := "loop.example/signalbox/laws.FnExactDoCount", spec := "fnExactDoCount", unfollowed := true, recurses := true, apart := false }
def FnExactDoCountSaid : Prop := fnExactDoCountRow.holds Try.pinned (OpenSpec.ofChange fnExactDoCountSpec)

/-- ITS FALSE NEIGHBOUR: 'it returns false'. Refute it at one input. -/
def fnExactDoCountWrong : ChangeSpec := { name := "fnExactDoCount", fn := fun _ => fun
  | [d1, d2, d3] => { results := [.lit (.bool false)], args := [d1, d2, d3] }
  | _ => none }
def FnExactDoCountWrongFalsely : Prop := fnExactDoCountRow.holds Try.pinned (OpenSpec.ofChange fnExactDoCountWrong)

/-- 'laws.FnExactCountOk': WHATEVER THE INPUT: true; the input reads as it did. -/
def fnExactCountOkSpec : ChangeSpec := { name := "fnExactCountOk", fn := fun _ => fun
  | [d1, d2] => { results := [.lit (.bool true)], args := [d1, d2] }
  | _ => none }
def fnExactCountOkRow : OpenClaim := { program := "ytmcaohablpaknaa", sum := "71948cbddc14fe98fb90370997ac1c01def9e0b4c120dac2d886240640c94f70", func := "loop.example/signalbox/laws.FnExactCountOk", spec := "fnExactCountOk", apart := false }
def FnExactCountOkSaid : Prop := fnExactCountOkRow.holds Try.pinned (OpenSpec.ofChange fnExactCountOkSpec)

/-- ITS FALSE NEIGHBOUR: 'it returns false'. Refute it at one input. -/
def fnExactCountOkWrong : ChangeSpec := { name := "fnExactCountOk", fn := fun _ => fun
  | [d1, d2] => { results := [.lit (.bool false)], args := [d1, d2] }
  | _ => none }
def FnExactCountOkWrongFalsely : Prop := fnExactCountOkRow.holds Try.pinned (OpenSpec.ofChange fnExactCountOkWrong)

/- THE SECOND FORM. 'bulk': how many values and letters a reading holds, each counted each time it is reached (what is shared counts as often as it is met; a slice's spare places count too). A statement '..UptoSaid' is the law's where the arguments, and the package variables that the reading takes, are together of bulk at most 1048576: NARROWER than '..Said'. Prove '..Said' where nothing that the law and all that it calls make is longer than what came in: it says more and counts as full. Else prove '..UptoSaid'. A law counts once. -/
mutual
def uptoBulk {H : Type} : DataW H → Nat
  | .lit (.string bytes) => bytes.length + 1
  | .lit _ => 1
  | .nil => 1
  | .ptr d => uptoBulk d + 1
  | .slice elems spare => uptoBulkAll elems + uptoBulkAll spare + 1
  | .agg parts => uptoBulkAll parts + 1
  | .iface _ d => uptoBulk d + 1
  | .map entries => uptoBulkEntries entries + 1
  | .held _ => 1
def uptoBulkAll {H : Type} : List (DataW H) → Nat
  | [] => 0
  | d :: r => uptoBulk d + uptoBulkAll r
def uptoBulkEntries {H : Type} : List (Lit × DataW H) → Nat
  | [] => 0
  | x :: r => uptoBulkEntry x + uptoBulkEntries r
def uptoBulkEntry {H : Type} : Lit × DataW H → Nat
  | (.string bytes, d) => bytes.length + uptoBulk d + 1
  | (_, d) => uptoBulk d + 1
 end
def uptoSmall : (H : Type) → List (DataW H) → Bool := fun _ ds => decide (uptoBulkAll ds ≤ 1048576)
def OpenSpec.upto (s : _root_.Go.ChangeSpec) : _root_.Go.OpenSpec := { _root_.Go.OpenSpec.ofChange s with cond := some uptoSmall }

/-- 'laws.FnExactLayoutOk', WHERE WHAT IT READS IS OF BULK AT MOST 1048576: true; the input reads as it did. -/
def fnExactLayoutOkUptoRow : OpenClaim := { program := "ytmcaohablpaknaa", sum := "71948cbddc14fe98fb90370997ac1c01def9e0b4c120dac2d886240640c94f70", func := "loop.example/signalbox/laws.FnExactLayoutOk", spec := "fnExactLayoutOk", apart := false, narrowed := true }
def FnExactLayoutOkUptoSaid : Prop := fnExactLayoutOkUptoRow.holds Try.pinned (OpenSpec.upto fnExactLayoutOkSpec)

/-- 'laws.FnExactAround', WHERE WHAT IT READS IS OF BULK AT MOST 1048576: true; the input reads as it did. -/
def fnExactAroundUptoRow : OpenClaim := { program := "ytmcaohablpaknaa", sum := "71948cbddc14fe98fb90370997ac1c01def9e0b4c120dac2d886240640c94f70", func := "loop.example/signalbox/laws.FnExactAround", spec := "fnExactAround", apart := false, narrowed := true }
def FnExactAroundUptoSaid : Prop := fnExactAroundUptoRow.holds Try.pinned (OpenSpec.upto fnExactAroundSpec)

/-- 'laws.FnExactBeginCount', WHERE WHAT IT READS IS OF BULK AT MOST 1048576: true; the input reads as it did. -/
def fnExactBeginCountUptoRow : OpenClaim := { program := "ytmcaohablpaknaa", sum := "71948cbddc14fe98fb90370997ac1c01def9e0b4c120dac2d886240640c94f70", func := "loop.example/signalbox/laws.FnExactBeginCount", spec := "fnExactBeginCount", apart := false, narrowed := true }
def FnExactBeginCountUptoSaid : Prop := fnExactBeginCountUptoRow.holds Try.pinned (OpenSpec.upto fnExactBeginCountSpec)

/-- 'laws.FnExactCountEventOk', WHERE WHAT IT READS IS OF BULK AT MOST 1048576: true; the input reads as it did. -/
def fnExactCountEventOkUptoRow : OpenClaim := { program := "ytmcaohablpaknaa", sum := "71948cbddc14fe98fb90370997ac1c01def9e0b4c120dac2d886240640c94f70", func := "loop.example/signalbox/laws.FnExactCountEventOk", spec := "fnExactCountEventOk", apart := false, narrowed := true }
def FnExactCountEventOkUptoSaid : Prop := fnExactCountEventOkUptoRow.holds Try.pinned (OpenSpec.upto fnExactCountEventOkSpec)

/-- 'laws.FnExactDoCount', WHERE WHAT IT READS IS OF BULK AT MOST 1048576: true; the input reads as it did. -/
def fnExactDoCountUptoRow : OpenClaim := { program := "ytmcaohablpaknaa", sum := "71948cbddc14fe98fb90370997ac1c01def9e0b4c120dac2d886240640c94f70", func := "loop.example/signalbox/laws.FnExactDoCount", spec := "fnExactDoCount", unfollowed := true, recurses := true, apart := false, narrowed := true }
def FnExactDoCountUptoSaid : Prop := fnExactDoCountUptoRow.holds Try.pinned (OpenSpec.upto fnExactDoCountSpec)

/-- 'laws.FnExactCountOk', WHERE WHAT IT READS IS OF BULK AT MOST 1048576: true; the input reads as it did. -/
def fnExactCountOkUptoRow : OpenClaim := { program := "ytmcaohablpaknaa", sum := "71948cbddc14fe98fb90370997ac1c01def9e0b4c120dac2d886240640c94f70", func := "loop.example/signalbox/laws.FnExactCountOk", spec := "fnExactCountOk", apart := false, narrowed := true }
def FnExactCountOkUptoSaid : Prop := fnExactCountOkUptoRow.holds Try.pinned (OpenSpec.upto fnExactCountOkSpec)

end Rows
end Go.Proofs.Ytmcaohablpaknaa
