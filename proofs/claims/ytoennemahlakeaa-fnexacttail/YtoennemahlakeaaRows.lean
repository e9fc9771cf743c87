/-
  No cell of these rows narrows 'for every input' (looked for: loops, veiled, ifaces, maps, wideKeys, modest, calm, conditions, laid).
  DERIVED. THE GIVEN ROWS OF THIS SEAT. 4 by the template 'for every input the law returns true; each argument reads behind the call as it read before'; 0 by the template 'total and deterministic' (their statements: YtoennemahlakeaaTotals.lean).
  GIVEN WITH THE SEED: the statements are not yours to turn. If you find one false, say at which input.
  Laid BY PROGRAM, IN A SANDBOX (cutbox-rows.mjs): the forced cells as the released guide's own fill.sh prints them over the translation 2b21841d4d6a44e4… (all of the seat's roots in one cut). By AI agents, Wed Nov 11 2026. No macro, syntax, notation, axiom, sorry.
-/
import Derived.Test.YtoennemahlakeaaChecked
import GoSem.Claim
import GoSem.ClaimJoined
import GoSem.ClaimMapViews
import Derived.JoinedTies
import Derived.KernelRfl
namespace Go.Proofs.Ytoennemahlakeaa
/- THE CELL 'sum', in the pinned program and in every row, IS THE sha256 OF THE DUMP (.gsa) THAT YtoennemahlakeaaProg.lean LOADS. Nothing in Lean hashes anything: it is a label: what it is worth is what the hold of that sum in a sandbox is worth. -/
noncomputable def Try.pinned : Pinned := { name := "ytoennemahlakeaa", sum := "2b21841d4d6a44e4ac530de0cb2fc5d7a12edb94450b833ac181ae485d748fa2", checked := Try.checked }
namespace Rows
def none {H : Type} : Left H := { results := [], args := [] }

/-- 'laws.FnExactLiesOk': WHATEVER THE INPUT: true; the input reads as it did. -/
def fnExactLiesOkSpec : ChangeSpec := { name := "fnExactLiesOk", fn := fun _ => fun
  | [d1, d2] => { results := [.lit (.bool true)], args := [d1, d2] }
  | _ => none }
def fnExactLiesOkRow : OpenClaim := { program := "ytoennemahlakeaa", sum := "2b21841d4d6a44e4ac530de0cb2fc5d7a12edb94450b833ac181ae485d748fa2", func := "loop.example/signalbox/laws.FnExactLiesOk", spec := "fnExactLiesOk", unfollowed := true, recurses := true, apart := false }
def FnExactLiesOkSaid : Prop := fnExactLiesOkRow.holds Try.pinned (OpenSpec.ofChange fnExactLiesOkSpec)

/-- ITS FALSE NEIGHBOUR: 'it returns false'. Refute it at one input. -/
def fnExactLiesOkWrong : ChangeSpec := { name := "fnExactLiesOk", fn := fun _ => fun
  | [d1, d2] => { results := [.lit (.bool false)], args := [d1, d2] }
  | _ => none }
def FnExactLiesOkWrongFalsely : Prop := fnExactLiesOkRow.holds Try.pinned (OpenSpec.ofChange fnExactLiesOkWrong)

/-- 'laws.FnExactTrainOk': WHATEVER THE INPUT: true; the input reads as it did. -/
def fnExactTrainOkSpec : ChangeSpec := { name := "fnExactTrainOk", fn := fun _ => fun
  | [d1, d2] => { results := [.lit (.bool true)], args := [d1, d2] }
  | _ => none }
def fnExactTrainOkRow : OpenClaim := { program := "ytoennemahlakeaa", sum := "2b21841d4d6a44e4ac530de0cb2fc5d7a12edb94450b833ac181ae485d748fa2", func := "loop.example/signalbox/laws.FnExactTrainOk", spec := "fnExactTrainOk", unfollowed := true, recurses := true, apart := false }
def FnExactTrainOkSaid : Prop := fnExactTrainOkRow.holds Try.pinned (OpenSpec.ofChange fnExactTrainOkSpec)

/-- ITS FALSE NEIGHBOUR: 'it returns false'. Refute it at one input. -/
def fnExactTrainOkWrong : ChangeSpec := { name := "fnExactTrainOk", fn := fun _ => fun
  | [d1, d2] => { results := [.lit (.bool false)], args := [d1, d2] }
  | _ => none }
def FnExactTrainOkWrongFalsely : Prop := fnExactTrainOkRow.holds Try.pinned (OpenSpec.ofChange fnExactTrainOkWrong)

/-- 'laws.FnExactTail': WHATEVER THE INPUT: true; the input reads as it did. -/
def fnExactTailSpec : ChangeSpec := { name := "fnExactTail", fn := fun _ => fun
  | [d1, d2] => { results := [.lit (.bool true)], args := [d1, d2] }
  | _ => none }
def fnExactTailRow : OpenClaim := { program := "ytoennemahlakeaa", sum := "2b21841d4d6a44e4ac530de0cb2fc5d7a12edb94450b833ac181ae485d748fa2", func := "loop.example/signalbox/laws.FnExactTail", spec := "fnExactTail", unfollowed := true, recurses := true, apart := false }
def FnExactTailSaid : Prop := fnExactTailRow.holds Try.pinned (OpenSpec.ofChange fnExactTailSpec)

/-- ITS FALSE NEIGHBOUR: 'it returns false'. Refute it at one input. -/
def fnExactTailWrong : ChangeSpec := { name := "fnExactTail", fn := fun _ => fun
  | [d1, d2] => { results := [.lit (.bool false)], args := [d1, d2] }
  | _ => none }
def FnExactTailWrongFalsely : Prop := fnExactTailRow.holds Try.pinned (OpenSpec.ofChange fnExactTailWrong)

/-- 'laws.FnExactSits': WHATEVER THE INPUT: true; the input reads as it did. -/
def fnExactSitsSpec : ChangeSpec := { name := "fnExactSits", fn := fun _ => fun
  | [d1, d2, d3] => { results := [.lit (.bool true)], args := [d1, d2, d3] }
  | _ => none }
def fnExactSitsRow : OpenClaim := { program := "ytoennemahlakeaa", sum := "2b21841d4d6a44e4ac530de0cb2fc5d7a12edb94450b833ac181ae485d748fa2", func := "loop.example/signalbox/laws.FnExactSits", spec := "fnExactSits", unfollowed := true, recurses := true, apart := false }
def FnExactSitsSaid : Prop := fnExactSitsRow.holds Try.pinned (OpenSpec.ofChange fnExactSitsSpec)

/-- ITS FALSE NEIGHBOUR: 'it returns false'. Refute it at one input. -/
def fnExactSitsWrong : ChangeSpec := { name := "fnExactSits", fn := fun _ => fun
  | [d1, d2, d3] => { results := [.lit (.bool false)], args := [d1, d2, d3] }
  | _ => none }
def FnExactSitsWrongFalsely : Prop := fnExactSitsRow.holds Try.pinned (OpenSpec.ofChange fnExactSitsWrong)

/- THE SECOND FORM. 'bulk': how many values and letters a reading holds, each counted each time it is reached (what is shared counts as often as it is met; a slice's spare places count too). A statement '..UptoSaid' is the law's where the arguments, and the package variables that the reading takes, are together of bulk at most 1048576: NARROWER than '..Said'. Prove '..Said' where nothing that the law and all that it calls make is longer than what came in: it says more and counts as full. Else prove '..UptoSaid'. A law counts once. -/
mutual
def uptoBulk {H : Type} : DataW H → Nat
  | .lit (.string bytes) => bytes.length + 1
  | .lit _ => 1
  | .nil => 1
  | .ptr d => uptoBulk d + 1
  | .slice elems spare => uptoBulkAll elems + uptoBulkAll spare + 1
  | .agg parts => uptoBulkAll parts + 1
  | .iface _ d => uptoBulk d + 1
  | .map entries => uptoBulkEntries entries + 1
  | .held _ => 1
def uptoBulkAll {H : Type} : List (DataW H) → Nat
  | [] => 0
  | d :: r => uptoBulk d + uptoBulkAll r
def uptoBulkEntries {H : Type} : List (Lit × DataW H) → Nat
  | [] => 0
  | x :: r => uptoBulkEntry x + uptoBulkEntries r
def uptoBulkEntry {H : Type} : Lit × DataW H → Nat
  | (.string bytes, d) => bytes.length + uptoBulk d + 1
  | (_, d) => uptoBulk d + 1
 end
def uptoSmall : (H : Type) → List (DataW H) → Bool := fun _ ds => decide (uptoBulkAll ds ≤ 1048576)
def OpenSpec.upto (s : _root_.Go.ChangeSpec) : _root_.Go.OpenSpec := { _root_.Go.OpenSpec.ofChange s with cond := some uptoSmall }

/-- 'laws.FnExactLiesOk', WHERE WHAT IT READS IS OF BULK AT MOST 1048576: true; the input reads as it did. -/
def fnExactLiesOkUptoRow : OpenClaim := { program := "ytoennemahlakeaa", sum := "2b21841d4d6a44e4ac530de0cb2fc5d7a12edb94450b833ac181ae485d748fa2", func := "loop.example/signalbox/laws.FnExactLiesOk", spec := "fnExactLiesOk", unfollowed := true, recurses := true, apart := false, narrowed := true }
def FnExactLiesOkUptoSaid : Prop := fnExactLiesOkUptoRow.holds Try.pinned (OpenSpec.upto fnExactLiesOkSpec)

/-- 'laws.FnExactTrainOk', WHERE WHAT IT READS IS OF BULK AT MOST 1048576: true; the input reads as it did. -/
def fnExactTrainOkUptoRow : OpenClaim := { program := "ytoennemahlakeaa", sum := "2b21841d4d6a44e4ac530de0cb2fc5d7a12edb94450b833ac181ae485d748fa2", func := "loop.example/signalbox/laws.FnExactTrainOk", spec := "fnExactTrainOk", unfollowed := true, recurses := true, apart := false, narrowed := true }
def FnExactTrainOkUptoSaid : Prop := fnExactTrainOkUptoRow.holds Try.pinned (OpenSpec.upto fnExactTrainOkSpec)

/-- 'laws.FnExactTail', WHERE WHAT IT READS IS OF BULK AT MOST 1048576: true; the input reads as it did. -/
def fnExactTailUptoRow : OpenClaim := { program := "ytoennemahlakeaa", sum := "2b21841d4d6a44e4ac530de0cb2fc5d7a12edb94450b833ac181ae485d748fa2", func := "loop.example/signalbox/laws.FnExactTail", spec := "fnExactTail", unfollowed := true, recurses := true, apart := false, narrowed := true }
def FnExactTailUptoSaid : Prop := fnExactTailUptoRow.holds Try.pinned (OpenSpec.upto fnExactTailSpec)

/-- 'laws.FnExactSits', WHERE WHAT IT READS IS OF BULK AT MOST 1048576: true; the input reads as it did. -/
def fnExactSitsUptoRow : OpenClaim := { program := "ytoennemahlakeaa", sum := "2b21841d4d6a44e4ac530de0cb2fc5d7a12edb94450b833ac181ae485d748fa2", func := "loop.example/signalbox/laws.FnExactSits", spec := "fnExactSits", unfollowed := true, recurses := true, apart := false, narrowed := true }
def FnExactSitsUptoSaid : Prop := fnExactSitsUptoRow.holds Try.pinned (OpenSpec.upto fnExactSitsSpec)

end Rows
end Go.Proofs.Ytoennemahlakeaa
