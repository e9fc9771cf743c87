import Derived.Test.YtkeilejbelblcaaGreatDoorIb
namespace Go.Proofs.YtkeilejbelblcaaGreatDoor
open Go.RowKit

/-- the switches that a way needs -/
def nd (y : Wy) (i : Nat) : Int := cat y.nl y.L y.F i 0
/-- the turns of a way are right, all together -/
def turnsF (p : Pl) (y : Wy) : Bool := decide (y.nl ≤ 30) && decide (y.nf ≤ 30) && allB (tuF (cat y.nl y.L y.F) p.nw) (y.nl + y.nf)
theorem tu_low {L : Nat → Nat → Int} {m i : Nat} (h : tuF L m i = true) (hm : m ≤ 40) : 0 ≤ L i 0 ∧ L i 0 < 64 := by
  simp only [tuF, inB, Bool.and_eq_true, decide_eq_true_eq] at h
  omega
theorem tuF_of {y : Wy} {m q : Nat} (hm : m ≤ 40) (hq : ∀ i, i < q → tuF (cat y.nl y.L y.F) m i = true) (h1 : inB (cat y.nl y.L y.F q 0) 0 ((m : Int) - 1) = true) (h2 : inB (cat y.nl y.L y.F q 1) 1 2 = true) :
    tuF (cat y.nl y.L y.F) m q = !mt (mkA (nd y) q) (mkB (nd y) q) (cat y.nl y.L y.F q 0) := by
  have hr : 0 ≤ cat y.nl y.L y.F q 0 ∧ cat y.nl y.L y.F q 0 ≤ (m : Int) - 1 := by simpa [inB] using h1
  rw [mk_has (S := nd y) hr.1 (by omega) fun i hi => tu_low (hq i hi) hm, anyB, tuF, h1, h2, Bool.true_and, Bool.true_and, Bool.not_not]
  refine allB_congr fun i _ => ?_
  rw [Bool.eq_iff_iff]
  simp only [nd, ne_eq, decide_not, Bool.not_eq_eq_eq_not, Bool.not_true]
  first | exact Iff.rfl | exact decide_eq_false_iff_not.symm | (rw [decide_eq_false_iff_not, decide_eq_false_iff_not])

set_option maxRecDepth 100000 in
set_option maxHeartbeats 8000000 in
theorem turns60 (p : Pl) (wa ya ba : Option Addr) (wc yc bc : Nat) (y : Wy) (sa oa ma : Option Addr) (lb lo fb fo : Nat) (sc lc fc oc mc : Nat) (w : World) (hw : p.nw ≤ 40) (hs : y.small 1048576) (hL : VsAt 2 0 w (some ⟨lb, lo, none⟩) y.nl (intF y.L)) (hF : VsAt 2 0 w (some ⟨fb, fo, none⟩) y.nf (intF y.F)) :
    Calls Tryz.prog 128 #[.agg #[.int .i64 p.sec, .slice wa p.nw wc, .slice ya p.ny yc, .slice ba p.nb bc, .int .i64 p.hold], .agg #[.slice sa y.ns sc, .slice (some ⟨lb, lo, none⟩) y.nl lc, .slice (some ⟨fb, fo, none⟩) y.nf fc, .slice oa y.no oc, .slice ma y.nm mc]] w fun e w' => e = .returned (.bool (turnsF p y)) ∧ Below w.heap.size w w' := by
  obtain ⟨s1, s2, s3, s4, s5⟩ := hs
  have H : Hid (VsAt 2 0 w (some ⟨lb, lo, none⟩) y.nl (intF y.L) ∧ VsAt 2 0 w (some ⟨fb, fo, none⟩) y.nf (intF y.F)) := ⟨hL, hF⟩
  clear hL hF
  go_enter Tryz.func128, Tryz.ntmps128
  by_cases h30 : (30 : Int) < (y.nl : Int)
  · have d30 : decide ((30 : Int) < (y.nl : Int)) = true := by simpa using h30
    go_wp2_with fail
    go_ret
    exact ⟨by simp [turnsF]; omega, bel2 _ _ _⟩
  have d30 : decide ((30 : Int) < (y.nl : Int)) = false := by simpa using h30
  by_cases g30 : (30 : Int) < (y.nf : Int)
  · have e30 : decide ((30 : Int) < (y.nf : Int)) = true := by simpa using g30
    go_wp2_with fail
    go_ret
    exact ⟨by simp [turnsF]; omega, bel2 _ _ _⟩
  have e30 : decide ((30 : Int) < (y.nf : Int)) = false := by simpa using g30
  go_wp2_with fail
  have B0 := bel3 w (.cells #[.int .i64 p.sec, .slice wa p.nw wc, .slice ya p.ny yc, .slice ba p.nb bc, .int .i64 p.hold] 37) (.cells #[.slice sa y.ns sc, .slice (some ⟨lb, lo, none⟩) y.nl lc, .slice (some ⟨fb, fo, none⟩) y.nf fc, .slice oa y.no oc, .slice ma y.nm mc] 112) (.cells #[.int .u64 0, .int .u64 0] 192)
  have X0 : Box (((w.alloc (.cells #[.int .i64 p.sec, .slice wa p.nw wc, .slice ya p.ny yc, .slice ba p.nb bc, .int .i64 p.hold] 37)).alloc (.cells #[.slice sa y.ns sc, .slice (some ⟨lb, lo, none⟩) y.nl lc, .slice (some ⟨fb, fo, none⟩) y.nf fc, .slice oa y.no oc, .slice ma y.nm mc] 112)).alloc (.cells #[.int .u64 0, .int .u64 0] 192)) w.heap.size 37 #[.int .i64 p.sec, .slice wa p.nw wc, .slice ya p.ny yc, .slice ba p.nb bc, .int .i64 p.hold] := ((Box.new w 37 _).alloc _).alloc _
  have M0 : Box (((w.alloc (.cells #[.int .i64 p.sec, .slice wa p.nw wc, .slice ya p.ny yc, .slice ba p.nb bc, .int .i64 p.hold] 37)).alloc (.cells #[.slice sa y.ns sc, .slice (some ⟨lb, lo, none⟩) y.nl lc, .slice (some ⟨fb, fo, none⟩) y.nf fc, .slice oa y.no oc, .slice ma y.nm mc] 112)).alloc (.cells #[.int .u64 0, .int .u64 0] 192)) (w.heap.size + 1 + 1) 192 #[.int .u64 0, .int .u64 0] := by have := Box.new ((w.alloc (.cells #[.int .i64 p.sec, .slice wa p.nw wc, .slice ya p.ny yc, .slice ba p.nb bc, .int .i64 p.hold] 37)).alloc (.cells #[.slice sa y.ns sc, .slice (some ⟨lb, lo, none⟩) y.nl lc, .slice (some ⟨fb, fo, none⟩) y.nf fc, .slice oa y.no oc, .slice ma y.nm mc] 112)) 192 #[.int .u64 0, .int .u64 0]; simpa using this
  refine (needs72 y sa oa ma lb lo fb fo sc lc fc oc mc _ (by omega) (by omega) (H.out.1.mono (Nat.le_refl _) B0 (Nat.le_refl _)) (H.out.2.mono (Nat.le_refl _) B0 (Nat.le_refl _))).mono ?_
  rintro e w1 ⟨v, rfl, ho, hb1⟩
  obtain ⟨va, vc, hv⟩ := ho.val
  rw [hv] at ho ⊢
  have HS1 : Hid (Below w.heap.size w w1 ∧ Box w1 w.heap.size 37 #[.int .i64 p.sec, .slice wa p.nw wc, .slice ya p.ny yc, .slice ba p.nb bc, .int .i64 p.hold] ∧ Box w1 (w.heap.size + 1 + 1) 192 #[.int .u64 ((mkA (nd y) 0 : Nat) : Int), .int .u64 ((mkB (nd y) 0 : Nat) : Int)] ∧ VsAt 2 (w.heap.size + 1 + 1 + 1) w1 va (y.nl + y.nf) (intF (cat y.nl y.L y.F))) := ⟨B0.trans (hb1.mono B0.size), X0.mono hb1 (Nat.le_refl _), by have := M0.mono hb1 (Nat.le_refl _); simpa [mkA, mkB] using this, ho.vs.le (by simp)⟩
  clear ho hb1 hv B0 X0 M0 d30 e30
  go_wp2_with fail
  go_loopw [21] (fun i wr => ∃ q : Nat, q ≤ y.nl + y.nf ∧ i = .int .i64 q ∧ Hid (∀ i, i < q → tuF (cat y.nl y.L y.F) p.nw i = true) ∧ Hid (Below w.heap.size w wr ∧ Box wr w.heap.size 37 #[.int .i64 p.sec, .slice wa p.nw wc, .slice ya p.ny yc, .slice ba p.nb bc, .int .i64 p.hold] ∧ Box wr (w.heap.size + 1 + 1) 192 #[.int .u64 ((mkA (nd y) q : Nat) : Int), .int .u64 ((mkB (nd y) q : Nat) : Int)] ∧ VsAt 2 (w.heap.size + 1 + 1 + 1) wr va (y.nl + y.nf) (intF (cat y.nl y.L y.F)))) (fun i _ => y.nl + y.nf - (intOf i).toNat)
  case atStart => exact ⟨0, Nat.zero_le _, rfl, fun i hi => absurd hi (Nat.not_lt_zero _), HS1⟩
  case round =>
    obtain ⟨q, hq, rfl, HQ, HB⟩ := hrel
    by_cases hlt : q < y.nl + y.nf
    · obtain ⟨b, off, hva, _, hb, hc⟩ := HB.out.2.2.2 (by omega)
      have c0 : wr.cell? ⟨b, off + q * 2, none⟩ = some (.int .i64 (cat y.nl y.L y.F q 0)) := hc q hlt 0 (by omega)
      have c1 : wr.cell? ⟨b, off + q * 2 + 1, none⟩ = some (.int .i64 (cat y.nl y.L y.F q 1)) := hc q hlt 1 (by omega)
      have x1 : wr.cell? ⟨w.heap.size, 1, none⟩ = some (.slice wa p.nw wc) := HB.out.2.1.cell 1
      have z1 : w.heap.size < wr.heap.size := HB.out.2.1.lt
      have z3 : w.heap.size + 1 + 1 < wr.heap.size := HB.out.2.2.1.lt
      clear hc hb
      subst hva
      obtain ⟨u0, hu0⟩ : ∃ u, u = cat y.nl y.L y.F q 0 := ⟨_, rfl⟩
      obtain ⟨u1, hu1⟩ : ∃ u, u = cat y.nl y.L y.F q 1 := ⟨_, rfl⟩
      have HU : Hid (u0 = cat y.nl y.L y.F q 0 ∧ u1 = cat y.nl y.L y.F q 1) := ⟨hu0, hu1⟩
      rw [← hu0] at c0
      rw [← hu1] at c1
      clear hu0 hu1
      have hq0 : (0 : Int) ≤ (q : Int) := by omega
      have hqn : (q : Int) < (y.nl : Int) + (y.nf : Int) := by omega
      go_wp2_with fail
      have B1 := bel1 wr (.cells #[.int .i64 u0, .int .i64 u1] 146)
      have HB1 : Hid (Below w.heap.size w (wr.alloc (.cells #[.int .i64 u0, .int .i64 u1] 146)) ∧ Box (wr.alloc (.cells #[.int .i64 u0, .int .i64 u1] 146)) w.heap.size 37 #[.int .i64 p.sec, .slice wa p.nw wc, .slice ya p.ny yc, .slice ba p.nb bc, .int .i64 p.hold] ∧ Box (wr.alloc (.cells #[.int .i64 u0, .int .i64 u1] 146)) (w.heap.size + 1 + 1) 192 #[.int .u64 ((mkA (nd y) q : Nat) : Int), .int .u64 ((mkB (nd y) q : Nat) : Int)] ∧ VsAt 2 (w.heap.size + 1 + 1 + 1) (wr.alloc (.cells #[.int .i64 u0, .int .i64 u1] 146)) (some ⟨b, off, none⟩) (y.nl + y.nf) (intF (cat y.nl y.L y.F))) := ⟨HB.out.1.trans (B1.mono HB.out.1.size), HB.out.2.1.mono B1 (Nat.le_refl _), HB.out.2.2.1.mono B1 (Nat.le_refl _), HB.out.2.2.2.mono (Nat.le_refl _) B1 (Nat.le_refl _)⟩
      have HX1 : Hid (Box (wr.alloc (.cells #[.int .i64 u0, .int .i64 u1] 146)) wr.heap.size 146 #[.int .i64 u0, .int .i64 u1]) := Box.new wr 146 _
      clear c0 c1 x1 B1 HB
      refine (place68 wa p.nw wc u0 _ (by omega)).mono ?_
      rintro e wx ⟨he, hwx⟩
      have hwx := hwx.symm
      subst hwx
      cases f1 : inB u0 0 ((p.nw : Int) - 1) with
      | false =>
        rw [f1] at he
        subst he
        go_wp2_with fail
        go_ret
        refine ⟨?_, HB1.out.1⟩
        have : tuF (cat y.nl y.L y.F) p.nw q = false := by simp [tuF, ← HU.out.1, f1]
        simp [turnsF, allB_no hlt this]
      | true =>
      rw [f1] at he
      subst he
      go_wp2_with fail
      refine (within30 u1 1 2 _).mono ?_
      rintro e wx ⟨he, hwx⟩
      have hwx := hwx.symm
      subst hwx
      cases f2 : inB u1 1 2 with
      | false =>
        rw [f2] at he
        subst he
        go_wp2_with fail
        go_ret
        refine ⟨?_, HB1.out.1⟩
        have : tuF (cat y.nl y.L y.F) p.nw q = false := by simp [tuF, ← HU.out.2, f2]
        simp [turnsF, allB_no hlt this]
      | true =>
      rw [f2] at he
      subst he
      have hel := tuF_of hw HQ.out (by rw [← HU.out.1]; exact f1) (by rw [← HU.out.2]; exact f2)
      rw [← HU.out.1] at hel
      have m0 : (wr.alloc (.cells #[.int .i64 u0, .int .i64 u1] 146)).cell? ⟨w.heap.size + 1 + 1, 0, none⟩ = some (.int .u64 ((mkA (nd y) q : Nat) : Int)) := HB1.out.2.2.1.cell 0
      have m1 : (wr.alloc (.cells #[.int .i64 u0, .int .i64 u1] 146)).cell? ⟨w.heap.size + 1 + 1, 1, none⟩ = some (.int .u64 ((mkB (nd y) q : Nat) : Int)) := HB1.out.2.2.1.cell 1
      generalize wr.alloc (.cells #[.int .i64 u0, .int .i64 u1] 146) = W1 at HB1 HX1 m0 m1 ⊢
      have xx : W1.cell? ⟨wr.heap.size, 0, none⟩ = some (.int .i64 u0) := HX1.out.cell 0
      go_wp2_with fail
      clear m0 m1 xx
      refine (has61 (mkA (nd y) q) (mkB (nd y) q) u0 _ (mkA_lt _ _) (mkB_lt _ _)).mono ?_
      rintro e w2 ⟨he, hb2⟩
      have HB2 : Hid (Below w.heap.size w w2 ∧ Box w2 w.heap.size 37 #[.int .i64 p.sec, .slice wa p.nw wc, .slice ya p.ny yc, .slice ba p.nb bc, .int .i64 p.hold] ∧ Box w2 (w.heap.size + 1 + 1) 192 #[.int .u64 ((mkA (nd y) q : Nat) : Int), .int .u64 ((mkB (nd y) q : Nat) : Int)] ∧ VsAt 2 (w.heap.size + 1 + 1 + 1) w2 (some ⟨b, off, none⟩) (y.nl + y.nf) (intF (cat y.nl y.L y.F))) := ⟨HB1.out.1.trans (hb2.mono HB1.out.1.size), HB1.out.2.1.mono hb2 (Nat.le_refl _), HB1.out.2.2.1.mono hb2 (Nat.le_refl _), HB1.out.2.2.2.mono (Nat.le_refl _) hb2 (Nat.le_refl _)⟩
      have HX2 : Hid (Box w2 wr.heap.size 146 #[.int .i64 u0, .int .i64 u1]) := HX1.out.mono hb2 (Nat.le_refl _)
      clear hb2 HB1 HX1
      cases f3 : mt (mkA (nd y) q) (mkB (nd y) q) u0 with
      | true =>
        rw [f3] at he hel
        subst he
        go_wp2_with fail
        go_ret
        exact ⟨by simp [turnsF, allB_no hlt hel], HB2.out.1⟩
      | false =>
      rw [f3] at he hel
      subst he
      have HQ2 : Hid (∀ i, i < q + 1 → tuF (cat y.nl y.L y.F) p.nw i = true) := fun i hi => by
        by_cases e : i = q
        · subst e
          exact hel
        · exact HQ.out i (by omega)
      clear hel
      have m0 : w2.cell? ⟨w.heap.size + 1 + 1, 0, none⟩ = some (.int .u64 ((mkA (nd y) q : Nat) : Int)) := HB2.out.2.2.1.cell 0
      have m1 : w2.cell? ⟨w.heap.size + 1 + 1, 1, none⟩ = some (.int .u64 ((mkB (nd y) q : Nat) : Int)) := HB2.out.2.2.1.cell 1
      have xx : w2.cell? ⟨wr.heap.size, 0, none⟩ = some (.int .i64 u0) := HX2.out.cell 0
      go_wp2_with fail
      clear m0 m1 xx
      refine (with71 (mkA (nd y) q) (mkB (nd y) q) u0 _ (mkA_lt _ _) (mkB_lt _ _)).mono ?_
      rintro e w3 ⟨rfl, hb3⟩
      have HB3 : Hid (Below w.heap.size w w3 ∧ Box w3 w.heap.size 37 #[.int .i64 p.sec, .slice wa p.nw wc, .slice ya p.ny yc, .slice ba p.nb bc, .int .i64 p.hold] ∧ Box w3 (w.heap.size + 1 + 1) 192 #[.int .u64 ((mkA (nd y) q : Nat) : Int), .int .u64 ((mkB (nd y) q : Nat) : Int)] ∧ VsAt 2 (w.heap.size + 1 + 1 + 1) w3 (some ⟨b, off, none⟩) (y.nl + y.nf) (intF (cat y.nl y.L y.F))) := ⟨HB2.out.1.trans (hb3.mono HB2.out.1.size), HB2.out.2.1.mono hb3 (Nat.le_refl _), HB2.out.2.2.1.mono hb3 (Nat.le_refl _), HB2.out.2.2.2.mono (Nat.le_refl _) hb3 (Nat.le_refl _)⟩
      clear hb3 HB2 HX2
      have m0 : w3.cell? ⟨w.heap.size + 1 + 1, 0, none⟩ = some (.int .u64 ((mkA (nd y) q : Nat) : Int)) := HB3.out.2.2.1.cell 0
      have m1 : w3.cell? ⟨w.heap.size + 1 + 1, 1, none⟩ = some (.int .u64 ((mkB (nd y) q : Nat) : Int)) := HB3.out.2.2.1.cell 1
      have g0 := HB3.out.2.2.1.free 0
      have g1 := HB3.out.2.2.1.free 1
      go_wp2_with fail
      go_roundw
      case rel =>
        have hle : w.heap.size ≤ w.heap.size + 1 + 1 := by omega
        refine ⟨q + 1, by omega, by go_num, HQ2, (HB3.out.1.setCell (p := ⟨w.heap.size + 1 + 1, 0, none⟩) hle _).setCell (p := ⟨w.heap.size + 1 + 1, 1, none⟩) hle _, (HB3.out.2.1.other (p := ⟨w.heap.size + 1 + 1, 0, none⟩) (by show w.heap.size ≠ w.heap.size + 1 + 1; omega) _).other (p := ⟨w.heap.size + 1 + 1, 1, none⟩) (by show w.heap.size ≠ w.heap.size + 1 + 1; omega) _, ?_, HB3.out.2.2.2.keep (Nat.le_refl _) (by simp [World.setCell]) fun g hg _ => ?_⟩
        · have := (HB3.out.2.2.1.set 0 (.int .u64 ((mA (mkA (nd y) q) u0 : Nat) : Int))).set 1 (.int .u64 ((mB (mkB (nd y) q) u0 : Nat) : Int))
          have e1 : mkA (nd y) (q + 1) = mA (mkA (nd y) q) u0 := by rw [mkA, HU.out.1]; rfl
          have e2 : mkB (nd y) (q + 1) = mB (mkB (nd y) q) u0 := by rw [mkB, HU.out.1]; rfl
          rw [e1, e2]
          simpa using this
        · have hne : g ≠ w.heap.size + 1 + 1 := by omega
          rw [Below.heap_setCell _ _ _ _ hne, Below.heap_setCell _ _ _ _ hne]
      case measure => simp [intOf]; omega
    · obtain rfl : q = y.nl + y.nf := by omega
      go_wp2_with fail
      go_ret
      exact ⟨by simp only [turnsF, allB_iff.2 HQ.out]; simp; omega, HB.out.1⟩

end Go.Proofs.YtkeilejbelblcaaGreatDoor
