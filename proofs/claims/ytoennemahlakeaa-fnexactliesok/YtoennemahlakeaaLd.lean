import Derived.Test.YtoennemahlakeaaRows
import Derived.Test.YtoennemahlakeaaLc
import Derived.Test.YtoennemahlakeaaOpen
import Derived.OpenShut
import Derived.ShutString
import Derived.ChangeOld
import Derived.Below
namespace Go.Proofs.Ytoennemahlakeaa
open Go.ChangeShapes Go.WideShapes Go.ChangeAt Go.RowKit Go.Joins

theorem own : ownKnob Try.prog.godebug = none := by kernel_rfl
theorem laidOut : laidOutB Try.prog = true := by kernel_rfl

section
open Go.Deep
variable {H : Type} {enc : TypeId × Value → H} {w : World} {base : Nat} {spare : Nat → Bool} {held : Bool}
theorem open_intsI {fuel : Nat} {v : Value} {x : DataW H × List MemPlace} (h : DataW.trod enc Try.prog w base spare held fuel 26 [v] = some x) :
    ∃ (a : Option Addr) (n cap : Nat) (D : Nat → Int), v = .slice a n cap ∧ n ≤ maxLen ∧ IsAt 0 w a n D := by
  rcases open_slice Try.underlying26 h with ⟨hcs, _⟩ | ⟨a, len, cap, m, k, D, Pl, hcs, _, hl, hm, hmm, _, hel⟩
  · simp only [List.cons.injEq, and_true] at hcs
    exact ⟨none, 0, 0, fun _ => 0, hcs, by simp [maxLen], fun h => absurd h (by omega)⟩
  · simp only [List.cons.injEq, and_true] at hcs
    have hlm : len ≤ m := by rw [hmm]; split <;> omega
    rw [cells3] at hel
    obtain ⟨P, hP⟩ := @choose_lt Int ⟨0⟩ len (fun i p => w.cells? base (a.add (i * 1)) 1 = some [.int .i64 p]) (fun i hi => by
      obtain ⟨cs', h1, h2⟩ := hel i (by omega)
      obtain ⟨p, e1, _, _⟩ := DataW.trod_int Try.underlying3 h2
      subst e1
      exact ⟨p, h1⟩)
    refine ⟨some a, len, cap, P, hcs, by omega, fun h0 => ?_⟩
    obtain ⟨b, off, sp⟩ := a
    have hs : sp = none := by
      have h1 := hP 0 h0
      rw [Nat.zero_mul] at h1
      exact spot_none h1
    subst hs
    have hcell : ∀ i, i < len → w.cell? ⟨b, off + i, none⟩ = some (.int .i64 (P i)) := fun i hi => by
      obtain ⟨_, _, hc⟩ := World.cells?_some (hP i hi)
      rw [add_none] at hc
      have g0 := hc 0 (by omega)
      rw [add_none, Nat.mul_one] at g0
      exact g0
    exact ⟨b, off, rfl, Nat.zero_le _, World.block_lt_of_cell? w _ (hcell 0 h0), hcell⟩
end

set_option maxRecDepth 100000 in
theorem liesLifted (os : Os) (started : os.Started) (H : Type) (enc : TypeId × Value → H) :
    ReturnsInHanded {} Try.checked os 3 .any (Rows.fnExactLiesOkSpec.pre6 enc Try.prog Try.f3 Rows.fnExactLiesOkRow.domain false) (Rows.fnExactLiesOkSpec.post enc Try.prog Try.f3 false true false false) := by
  refine returnsInHanded_of_change (C := Try.checked) own started (by kernel_rfl) Try.func3
    (ChangeSpec.witness6 (enc := enc) (C := Try.checked) false ⟨#[], #[.agg #[.slice none 0 0, .slice none 0 0], .slice none 0 0], []⟩ 8 (by kernel_rfl) (by kernel_rfl) (by kernel_rfl) (by kernel_rfl)) ?_
  intro W base args ds gs before hval0 hW hcnd _
  have hval : ∀ (j : Nat) t v, Try.f3.params[j]? = some t → args[j]? = some v → Value.okWide Try.prog W .any base t v := hval0
  have hW' := hW
  obtain ⟨p, q, hA0, hV, rfl, hfz, hnd⟩ := hW
  have hA : DataW.TrodAll enc Try.prog W 0 (fun _ => true) true Try.f3.params.toList args.toList ds p := hA0
  rw [Try.params3] at hA hval
  obtain ⟨v0, vs0, d0, ds0, p0, q0, hargs, rfl, rfl, h0, r0⟩ := trodAll_cons hA
  obtain ⟨v1, vs1, d1, ds1, p1, q1, rfl, rfl, rfl, h1, r1⟩ := trodAll_cons r0
  obtain ⟨rfl, rfl, rfl⟩ := trodAll_nil r1
  obtain rfl : args = #[v0, v1] := by cases args; simp_all
  obtain ⟨rfl, rfl⟩ := trodVars_none hV
  have k0 := h0
  have k1 := h1
  have lt0 : ∀ x ∈ p0, x.block < W.heap.size := by obtain ⟨m, hm⟩ := k0; exact DataW.trod_lt m _ _ _ hm
  have lt1 : ∀ x ∈ p1, x.block < W.heap.size := by obtain ⟨m, hm⟩ := k1; exact DataW.trod_lt m _ _ _ hm
  obtain ⟨x0, x1, y0, y1, fu, rfl, _, _, g0, g1⟩ := open_agg2 Try.underlying25 (by kernel_rfl) cells25 (hval 0 25 v0 rfl rfl) h0
  obtain ⟨pa, n, pc, P, rfl, hn, hP, hps⟩ := open_pieces g0
  obtain ⟨ja, m, jc, J, rfl, hm, hJ, hjs⟩ := open_joints g1
  obtain ⟨a1, len1, cap1, rfl⟩ := okWide_slice Try.underlying26 (hval 1 26 v1 rfl rfl)
  obtain ⟨fu1, hf1⟩ := h1
  obtain ⟨sa, k, sc, S, hse, hk, hS⟩ := open_intsI (by simpa [Value.cells] using hf1)
  simp only [Value.slice.injEq] at hse
  obtain ⟨rfl, rfl, rfl⟩ := hse
  clear hA0 hval0
  refine (law3 pa n pc P ja m jc J a1 len1 cap1 S W hn hm hk hP hJ hps hjs hS).mono fun e W' ⟨he, bel⟩ => ?_
  subst he
  exact ⟨_, rfl, _, _, _, [], _, [], hW', trodAll_mk1 (shut_bool Try.underlying4 _), (trodAll_cons_mk (Below.trod laidOut (by kernel_rfl) (of_decide_eq_true (by kernel_rfl)) k0 bel lt0) (trodAll_cons_mk (Below.trod laidOut (by kernel_rfl) (of_decide_eq_true (by kernel_rfl)) k1 bel lt1) trodAll_mk0)), rfl, bel.frame _, fun h => by cases h⟩

theorem liesOver : Rows.fnExactLiesOkRow.holds Try.pinned (OpenSpec.ofChange Rows.fnExactLiesOkSpec) :=
  OpenClaim.holds_of_wide 3 Try.f3 rfl rfl rfl rfl rfl rfl rfl ⟨rfl, rfl, rfl, rfl, rfl⟩ rfl rfl rfl rfl rfl (by kernel_rfl) Try.func3 (by kernel_rfl)
    (of_decide_eq_true (by kernel_rfl)) (by unfold Func.isWrapper; first | (rw [if_pos (by decide +kernel)]; kernel_rfl) | (rw [if_neg (by decide +kernel)]; exact ⟨rfl, rfl⟩))
    (fun os started H enc _ => liesLifted os started H enc)

theorem fnExactLiesOk_proved : Rows.FnExactLiesOkSaid := liesOver
#print axioms fnExactLiesOk_proved

end Go.Proofs.Ytoennemahlakeaa
