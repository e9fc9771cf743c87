import Derived.Test.YtmcaohablpaknaaOp
import Derived.OpenShut
import Derived.ShutString
import Derived.ChangeOld
import Derived.Below
namespace Go.Proofs.Ytmcaohablpaknaa
open Go.ChangeShapes Go.WideShapes Go.ChangeAt Go.RowKit Go.Joins

theorem own : ownKnob Try.prog.godebug = none := by kernel_rfl
theorem laidOut : laidOutB Try.prog = true := by kernel_rfl

set_option maxRecDepth 100000 in
theorem open_layoutV {H : Type} {enc : TypeId × Value → H} {w : World} {base : Nat} {spare : Nat → Bool} {held : Bool} {r : Reach} {b0 : Nat} {v : Value} {d : DataW H} {p : List MemPlace} (hv : Value.okWide Try.prog w r b0 24 v) (h : DataW.Trod enc Try.prog w base spare held 24 v d p) :
    ∃ (sec : Int) (a : Option Addr) (n cap : Nat) (K : Nat → Nat → Int), v = .agg #[.int .i64 sec, .slice a n cap] ∧ n ≤ maxLen ∧ VsAt 2 0 w a n (intF K) := by
  obtain ⟨cs, rfl, hsz⟩ := okWide_struct Try.underlying24 hv
  obtain ⟨fuel, hf⟩ := h
  obtain ⟨sec, a, n, cap, K, he, h1, h2⟩ := open_layout hf
  refine ⟨sec, a, n, cap, K, ?_, h1, h2⟩
  have : cs.toList = _ := he
  rw [← Array.toArray_toList (xs := cs), this]

set_option maxRecDepth 100000 in
theorem open_stateV {H : Type} {enc : TypeId × Value → H} {w : World} {base : Nat} {spare : Nat → Bool} {held : Bool} {r : Reach} {b0 : Nat} {v : Value} {d : DataW H} {p : List MemPlace} (hv : Value.okWide Try.prog w r b0 54 v) (h : DataW.Trod enc Try.prog w base spare held 54 v d p) :
    ∃ (ok : Bool) (sa da : Option Addr) (ns nd sc dc : Nat) (S : Nat → Sec) (D : Nat → Bool), v = .agg #[.bool ok, .slice sa ns sc, .slice da nd dc] ∧ ns ≤ maxLen ∧ nd ≤ maxLen ∧ VsAt 5 0 w sa ns (secF S) ∧ VsAt 1 0 w da nd (boolF D) := by
  obtain ⟨cs, rfl, hsz⟩ := okWide_struct Try.underlying54 hv
  obtain ⟨fuel, hf⟩ := h
  obtain ⟨ok, sa, da, ns, nd, sc, dc, S, D, he, h1, h2⟩ := open_state hf
  refine ⟨ok, sa, da, ns, nd, sc, dc, S, D, ?_, h1, h2⟩
  have : cs.toList = _ := he
  rw [← Array.toArray_toList (xs := cs), this]

set_option maxRecDepth 100000 in
theorem open_eventV {H : Type} {enc : TypeId × Value → H} {w : World} {base : Nat} {spare : Nat → Bool} {held : Bool} {r : Reach} {b0 : Nat} {v : Value} {d : DataW H} {p : List MemPlace} (hv : Value.okWide Try.prog w r b0 47 v) (h : DataW.Trod enc Try.prog w base spare held 47 v d p) :
    ∃ op of dir : Int, v = .agg #[.int .i64 op, .int .i64 of, .int .i64 dir] := by
  obtain ⟨cs, rfl, hsz⟩ := okWide_struct Try.underlying47 hv
  obtain ⟨fuel, hf⟩ := h
  obtain ⟨op, of, dir, he⟩ := open_event hf
  refine ⟨op, of, dir, ?_⟩
  have : cs.toList = _ := he
  rw [← Array.toArray_toList (xs := cs), this]

set_option maxRecDepth 100000 in
theorem open_intV {H : Type} {enc : TypeId × Value → H} {w : World} {base : Nat} {spare : Nat → Bool} {held : Bool} {r : Reach} {b0 : Nat} {v : Value} {d : DataW H} {p : List MemPlace} (hv : Value.okWide Try.prog w r b0 3 v) (_h : DataW.Trod enc Try.prog w base spare held 3 v d p) : ∃ x : Int, v = .int .i64 x := by
  exact okWide_int Try.underlying3 hv

end Go.Proofs.Ytmcaohablpaknaa
