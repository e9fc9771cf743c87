import Derived.Test.YtmcaohablpaknaaRr
import Derived.Test.YtmcaohablpaknaaEv
namespace Go.Proofs.Ytmcaohablpaknaa
open Go.RowKit Go.ChangeShapes Go.WideShapes

theorem ownsInts_base {w : World} {B B' : Nat} {v : Value} {zs : List Int} (h : w.ownsInts B 3 .i64 v zs) (hB : B' ≤ B) : w.ownsInts B' 3 .i64 v zs := by
  refine ⟨⟨h.1.1, ?_⟩, h.2⟩
  rcases h.1.2 with q | ⟨g, cap, cur, q1, q2, q3⟩
  · exact .inl q
  · exact .inr ⟨g, cap, cur, q1, by omega, q3⟩

set_option maxRecDepth 10000 in
set_option maxHeartbeats 4000000 in
theorem arI (sec : Int) (a : Option Addr) (n cap : Nat) (K : Nat → Nat → Int) (x : Int) (w : World) (hn : n ≤ 1048576) (hE : VsAt 2 0 w a n (intF K)) :
    Calls Try.prog 15 #[.agg #[.int .i64 sec, .slice a n cap], .int .i64 x] w fun e w' => ∃ v, e = .returned v ∧ w'.ownsInts w.heap.size 3 .i64 v (arF sec n K x) ∧ Below w.heap.size w w' := by
  have HE : Hid (VsAt 2 0 w a n (intF K)) := hE
  clear hE
  go_enter Try.func15, Try.ntmps15
  go_wp2_with fail
  have B0 := bel1 w (.cells #[.int .i64 sec, .slice a n cap] 29)
  have L0 := Box.new w 29 #[.int .i64 sec, .slice a n cap]
  refine (layI sec a n cap K _ hn (HE.out.mono (Nat.le_refl _) B0 (Nat.le_refl _))).mono ?_
  rintro e w1 ⟨rfl, hb1⟩
  have L1 := L0.mono hb1 (Nat.le_refl _)
  have B1 := B0.trans (hb1.mono B0.size)
  have l0 : w1.cell? ⟨w.heap.size, 0, none⟩ = some (.int .i64 sec) := L1.cell 0
  have l1 : w1.cell? ⟨w.heap.size, 1, none⟩ = some (.slice a n cap) := L1.cell 1
  have HB : Hid (Below w.heap.size w w1 ∧ Box w1 w.heap.size 29 #[.int .i64 sec, .slice a n cap]) := ⟨B1, L1⟩
  clear L0 B0 L1 B1 hb1
  by_cases hok : layOk sec n K = 0
  · have hg := layGood hok
    have s1 := hg.s1
    have s2 := hg.s2
    have n120 : n ≤ 120 := hg.m
    have HG : Hid (LayGood sec n K) := hg
    have HF : Hid (0 ≤ x ∧ x ≤ sec - 1 → arF sec n K x = arN K x n) := fun h => by unfold arF; rw [if_pos ⟨hok, h⟩]
    have HN : Hid (¬ (0 ≤ x ∧ x ≤ sec - 1) → arF sec n K x = []) := fun h => by unfold arF; rw [if_neg (fun q => h q.2)]
    clear hg
    rw [hok]
    clear hok
    by_cases hx : 0 ≤ x ∧ x ≤ sec - 1
    · go_wp2_with fail
      refine (isSecT sec a n cap x _ s1 s2 hx).mono ?_
      rintro e w2 ⟨rfl, hb2⟩
      have L2 := HB.out.2.mono hb2 (Nat.le_refl _)
      have HB2 : Hid (Below w.heap.size w w2) := HB.out.1.trans (hb2.mono HB.out.1.size)
      have l0 : w2.cell? ⟨w.heap.size, 0, none⟩ = some (.int .i64 sec) := L2.cell 0
      have l1 : w2.cell? ⟨w.heap.size, 1, none⟩ = some (.slice a n cap) := L2.cell 1
      clear L2 hb2
      go_wp2_with fail
      refine (ringsI sec a n cap K _ HG.out (HE.out.mono (Nat.le_refl _) HB2.out (Nat.le_refl _))).mono ?_
      rintro e w3 ⟨b, hb, rfl, hR, hb3⟩
      obtain ⟨v, p1, p2⟩ := hR.at n120 (s := x) (by omega)
      have q0 := p1 w3 rfl
      have HH : Hid (w3.ownsInts w.heap.size 3 .i64 v (arN K x n) ∧ Below w.heap.size w w3) := ⟨ownsInts_base p2 (by have := HB2.out.size; omega), HB2.out.trans (hb3.mono HB2.out.size)⟩
      clear p1 p2 hR hb3
      go_wp2_with fail
      go_ret
      exact ⟨v, rfl, by rw [HF.out hx]; exact HH.out.1, HH.out.2⟩
    · go_wp2_with fail
      refine (isSecF sec a n cap x _ s1 s2 hx).mono ?_
      rintro e w2 ⟨rfl, hb2⟩
      have HB2 : Hid (Below w.heap.size w w2) := HB.out.1.trans (hb2.mono HB.out.1.size)
      clear hb2
      go_wp2_with fail
      go_ret
      exact ⟨_, rfl, by rw [HN.out hx]; exact World.ownsInts_nil _ _ _ _, HB2.out⟩
  · have HN : Hid (arF sec n K x = []) := by
      show arF sec n K x = []
      unfold arF
      rw [if_neg (fun q => hok q.1)]
    generalize layOk sec n K = r at hok
    go_wp2_with fail
    go_ret
    exact ⟨_, rfl, by rw [HN.out]; exact World.ownsInts_nil _ _ _ _, HB.out.1⟩

end Go.Proofs.Ytmcaohablpaknaa
