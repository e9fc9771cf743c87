import Derived.Test.YtpghgdnhfhdgmaaRows
import Derived.Test.YtpghgdnhfhdgmaaEl
import Derived.Test.YtpghgdnhfhdgmaaOp
import Derived.OpenShut
import Derived.ShutString
import Derived.ChangeOld
import Derived.Below
namespace Go.Proofs.Ytpghgdnhfhdgmaa
open Go.ChangeShapes Go.WideShapes Go.ChangeAt Go.RowKit Go.Joins

theorem own : ownKnob Try.prog.godebug = none := by kernel_rfl
theorem laidOut : laidOutB Try.prog = true := by kernel_rfl

set_option maxRecDepth 100000 in
/-- a route by value, opened -/
theorem open_routeV {H : Type} {enc : TypeId × Value → H} {w : World} {base : Nat} {spare : Nat → Bool} {held : Bool} {r : Reach} {b0 : Nat} {v : Value} {d : DataW H} {p : List MemPlace} (hv : Value.okWide Try.prog w r b0 28 v) (h : DataW.Trod enc Try.prog w base spare held 28 v d p) :
    ∃ (r : Rt) (sa la xa qa oa fa : Option Addr) (sc lc xc qc oc fc : Nat), v = .agg #[.int .i64 r.fr, .int .i64 r.to, .slice sa r.ns sc, .slice la r.nl lc, .slice xa r.nx xc, .slice qa r.np qc, .slice oa r.no oc, .slice fa r.nf fc] ∧ r.fits ∧ RtIn 0 w r sa la xa qa oa fa := by
  obtain ⟨cs, rfl, hsz⟩ := okWide_struct Try.underlying28 hv
  obtain ⟨fuel, hf⟩ := h
  obtain ⟨r, sa, la, xa, qa, oa, fa, sc, lc, xc, qc, oc, fc, he, h1, h2⟩ := open_route hf
  refine ⟨r, sa, la, xa, qa, oa, fa, sc, lc, xc, qc, oc, fc, ?_, h1, h2⟩
  have : cs.toList = _ := he
  rw [← Array.toArray_toList (xs := cs), this]

set_option maxRecDepth 100000 in
theorem excludeLifted (os : Os) (started : os.Started) (H : Type) (enc : TypeId × Value → H) :
    ReturnsInHanded {} Try.checked os 4 .any (Rows.fnExactExcludeSpec.pre6 enc Try.prog Try.f4 Rows.fnExactExcludeRow.domain false) (Rows.fnExactExcludeSpec.post enc Try.prog Try.f4 false true false false) := by
  refine returnsInHanded_of_change (C := Try.checked) own started (by kernel_rfl) Try.func4
    (ChangeSpec.witness6 (enc := enc) (C := Try.checked) false ⟨#[], #[.agg #[.int .i64 0, .int .i64 0, .slice none 0 0, .slice none 0 0, .slice none 0 0, .slice none 0 0, .slice none 0 0, .slice none 0 0], .agg #[.int .i64 0, .int .i64 0, .slice none 0 0, .slice none 0 0, .slice none 0 0, .slice none 0 0, .slice none 0 0, .slice none 0 0]], []⟩ 8 (by kernel_rfl) (by kernel_rfl) (by kernel_rfl) (by kernel_rfl)) ?_
  intro W base args ds gs before hval0 hW hcnd _
  have hval : ∀ (j : Nat) t v, Try.f4.params[j]? = some t → args[j]? = some v → Value.okWide Try.prog W .any base t v := hval0
  have hW' := hW
  obtain ⟨p, q, hA0, hV, rfl, hfz, hnd⟩ := hW
  have hA : DataW.TrodAll enc Try.prog W 0 (fun _ => true) true Try.f4.params.toList args.toList ds p := hA0
  rw [Try.params4] at hA hval
  obtain ⟨v0, vs0, d0, ds0, p0, q0, hargs, rfl, rfl, h0, r0⟩ := trodAll_cons hA
  obtain ⟨v1, vs1, d1, ds1, p1, q1, hargs1, rfl, rfl, h1, r1⟩ := trodAll_cons r0
  obtain ⟨rfl, rfl, rfl⟩ := trodAll_nil r1
  obtain rfl : args = #[v0, v1] := by cases args; simp_all
  obtain ⟨rfl, rfl⟩ := trodVars_none hV
  have k0 := h0
  have k1 := h1
  have lt0 : ∀ x ∈ p0, x.block < W.heap.size := by obtain ⟨m, hm⟩ := k0; exact DataW.trod_lt m _ _ _ hm
  have lt1 : ∀ x ∈ p1, x.block < W.heap.size := by obtain ⟨m, hm⟩ := k1; exact DataW.trod_lt m _ _ _ hm
  obtain ⟨r, sa, la, xa, qa, oa, fa, sc, lc, xc, qc, oc, fc, rfl, hfit, hin⟩ := open_routeV (hval 0 28 v0 rfl rfl) h0
  obtain ⟨s, sa', la', xa', qa', oa', fa', sc', lc', xc', qc', oc', fc', rfl, hfit', hin'⟩ := open_routeV (hval 1 28 v1 rfl rfl) h1
  clear hA0 hval0
  refine (law4 r s sa la xa qa oa fa sc lc xc qc oc fc sa' la' xa' qa' oa' fa' sc' lc' xc' qc' oc' fc' W hfit hfit' hin hin').mono fun e W' ⟨he, bel⟩ => ?_
  subst he
  exact ⟨_, rfl, _, _, _, [], _, [], hW', trodAll_mk1 (shut_bool Try.underlying4 _), (trodAll_cons_mk (Below.trod laidOut (by kernel_rfl) (of_decide_eq_true (by kernel_rfl)) k0 bel lt0) (trodAll_cons_mk (Below.trod laidOut (by kernel_rfl) (of_decide_eq_true (by kernel_rfl)) k1 bel lt1) trodAll_mk0)), rfl, bel.frame _, fun h => by cases h⟩

theorem excludeOver : Rows.fnExactExcludeRow.holds Try.pinned (OpenSpec.ofChange Rows.fnExactExcludeSpec) :=
  OpenClaim.holds_of_wide 4 Try.f4 rfl rfl rfl rfl rfl rfl rfl ⟨rfl, rfl, rfl, rfl, rfl⟩ rfl rfl rfl rfl rfl (by kernel_rfl) Try.func4 (by kernel_rfl)
    (of_decide_eq_true (by kernel_rfl)) (by unfold Func.isWrapper; first | (rw [if_pos (by decide +kernel)]; kernel_rfl) | (rw [if_neg (by decide +kernel)]; exact ⟨rfl, rfl⟩))
    (fun os started H enc _ => excludeLifted os started H enc)

theorem fnExactExclude_proved : Rows.FnExactExcludeSaid := excludeOver
#print axioms fnExactExclude_proved

end Go.Proofs.Ytpghgdnhfhdgmaa
