import Derived.Test.YtkeilejbelblcaaGreatDoorGK1Tf
namespace Go.Proofs.YtkeilejbelblcaaGreatDoor
open Go.RowKit

/-- a way of one's own: its lists in blocks that follow each other -/
structure WyOwn (C : Nat) (w : World) (y : Wy) (b1 b2 b3 b4 b5 : Nat) : Prop where
  c1 : C ≤ b1
  c2 : b1 < b2
  c3 : b2 < b3
  c4 : b3 < b4
  c5 : b4 < b5
  s : VOwn b1 3 1 w (.slice (some ⟨b1, 0, none⟩) y.ns y.ns) y.ns (oneF y.S)
  l : VOwn b2 146 2 w (.slice (some ⟨b2, 0, none⟩) y.nl y.nl) y.nl (intF y.L)
  f : VOwn b3 146 2 w (.slice (some ⟨b3, 0, none⟩) y.nf y.nf) y.nf (intF y.F)
  o : VOwn b4 3 1 w (.slice (some ⟨b4, 0, none⟩) y.no y.no) y.no (oneF y.O)
  m : VOwn b5 3 1 w (.slice (some ⟨b5, 0, none⟩) y.nm y.nm) y.nm (oneF y.M)
theorem WyOwn.keep {C C' : Nat} {w w' : World} {y : Wy} {b1 b2 b3 b4 b5 : Nat} (h : WyOwn C w y b1 b2 b3 b4 b5) (hC : C' ≤ C) (hk : ∀ g, C ≤ g → g ≤ b5 → w'.heap[g]? = w.heap[g]?) : WyOwn C' w' y b1 b2 b3 b4 b5 := by
  obtain ⟨h1, h2, h3, h4, h5, a, b, c, d, e⟩ := h
  refine ⟨by omega, h2, h3, h4, h5, a.keep (Nat.le_refl _) ?_, b.keep (Nat.le_refl _) ?_, c.keep (Nat.le_refl _) ?_, d.keep (Nat.le_refl _) ?_, e.keep (Nat.le_refl _) ?_⟩ <;>
  · intro g hg
    simp only [Value.ownBlock, Option.some.injEq] at hg
    exact hk g (by omega) (by omega)
theorem WyOwn.lt {C : Nat} {w : World} {y : Wy} {b1 b2 b3 b4 b5 : Nat} (h : WyOwn C w y b1 b2 b3 b4 b5) : b5 < w.heap.size := (h.m.lt rfl).2
theorem WyOwn.mono {C C' : Nat} {w w' : World} {y : Wy} {b1 b2 b3 b4 b5 N : Nat} (h : WyOwn C w y b1 b2 b3 b4 b5) (hC : C' ≤ C) (hb : Below N w w') (hN : w.heap.size ≤ N) : WyOwn C' w' y b1 b2 b3 b4 b5 := h.keep hC fun g _ hg => hb.block g (by have := h.lt; omega)
theorem WyOwn.in {C C' : Nat} {w : World} {y : Wy} {b1 b2 b3 b4 b5 : Nat} (h : WyOwn C w y b1 b2 b3 b4 b5) (hC : C' ≤ C) : WyIn C' w y (some ⟨b1, 0, none⟩) (some ⟨b2, 0, none⟩) (some ⟨b3, 0, none⟩) (some ⟨b4, 0, none⟩) (some ⟨b5, 0, none⟩) := by
  have h1 := h.c1
  have h2 := h.c2
  have h3 := h.c3
  have h4 := h.c4
  have h5 := h.c5
  exact ⟨h.s.vs.le (by omega), h.l.vs.le (by omega), h.f.vs.le (by omega), h.o.vs.le (by omega), h.m.vs.le (by omega)⟩

set_option maxRecDepth 100000 in
set_option maxHeartbeats 4000000 in
theorem toWay (y : Wy) (sa la fa oa ma : Option Addr) (sc lc fc oc mc : Nat) (w : World) (hs : y.small 1048576) (h : WyIn 0 w y sa la fa oa ma) :
    Calls Tryz.prog 74 #[.agg #[.slice sa y.ns sc, .slice la y.nl lc, .slice fa y.nf fc, .slice oa y.no oc, .slice ma y.nm mc]] w fun e w' => ∃ b1 b2 b3 b4 b5, e = .returned (.agg #[.slice (some ⟨b1, 0, none⟩) y.ns y.ns, .slice (some ⟨b2, 0, none⟩) y.nl y.nl, .slice (some ⟨b3, 0, none⟩) y.nf y.nf, .slice (some ⟨b4, 0, none⟩) y.no y.no, .slice (some ⟨b5, 0, none⟩) y.nm y.nm]) ∧ WyOwn w.heap.size w' y b1 b2 b3 b4 b5 ∧ Below w.heap.size w w' := by
  obtain ⟨s1, s2, s3, s4, s5⟩ := hs
  have H : Hid (WyIn 0 w y sa la fa oa ma) := h
  clear h
  go_enter Tryz.func74, Tryz.ntmps74
  go_wp2_with fail
  have A0 : Box (w.alloc (.cells #[.slice sa y.ns sc, .slice la y.nl lc, .slice fa y.nf fc, .slice oa y.no oc, .slice ma y.nm mc] 120)) w.heap.size 120 #[.slice sa y.ns sc, .slice la y.nl lc, .slice fa y.nf fc, .slice oa y.no oc, .slice ma y.nm mc] := Box.new w 120 _
  have R0 : Box ((w.alloc (.cells #[.slice sa y.ns sc, .slice la y.nl lc, .slice fa y.nf fc, .slice oa y.no oc, .slice ma y.nm mc] 120)).alloc (.cells #[.slice none 0 0, .slice none 0 0, .slice none 0 0, .slice none 0 0, .slice none 0 0] 112)) (w.heap.size + 1) 112 #[.slice none 0 0, .slice none 0 0, .slice none 0 0, .slice none 0 0, .slice none 0 0] := by have := Box.new (w.alloc (.cells #[.slice sa y.ns sc, .slice la y.nl lc, .slice fa y.nf fc, .slice oa y.no oc, .slice ma y.nm mc] 120)) 112 #[.slice none 0 0, .slice none 0 0, .slice none 0 0, .slice none 0 0, .slice none 0 0]; simpa using this
  have O1 : Box (((w.alloc (.cells #[.slice sa y.ns sc, .slice la y.nl lc, .slice fa y.nf fc, .slice oa y.no oc, .slice ma y.nm mc] 120)).alloc (.cells #[.slice none 0 0, .slice none 0 0, .slice none 0 0, .slice none 0 0, .slice none 0 0] 112)).alloc (.cells #[.slice none 0 0, .slice none 0 0, .slice none 0 0, .slice none 0 0, .slice none 0 0] 112)) (w.heap.size + 1 + 1) 112 #[.slice none 0 0, .slice none 0 0, .slice none 0 0, .slice none 0 0, .slice none 0 0] := by have := Box.new ((w.alloc (.cells #[.slice sa y.ns sc, .slice la y.nl lc, .slice fa y.nf fc, .slice oa y.no oc, .slice ma y.nm mc] 120)).alloc (.cells #[.slice none 0 0, .slice none 0 0, .slice none 0 0, .slice none 0 0, .slice none 0 0] 112)) 112 #[.slice none 0 0, .slice none 0 0, .slice none 0 0, .slice none 0 0, .slice none 0 0]; simpa using this
  have A1 := (A0.alloc (.cells #[.slice none 0 0, .slice none 0 0, .slice none 0 0, .slice none 0 0, .slice none 0 0] 112)).alloc (.cells #[.slice none 0 0, .slice none 0 0, .slice none 0 0, .slice none 0 0, .slice none 0 0] 112)
  have R1 := R0.alloc (.cells #[.slice none 0 0, .slice none 0 0, .slice none 0 0, .slice none 0 0, .slice none 0 0] 112)
  have B1 : Below w.heap.size w (((w.alloc (.cells #[.slice sa y.ns sc, .slice la y.nl lc, .slice fa y.nf fc, .slice oa y.no oc, .slice ma y.nm mc] 120)).alloc (.cells #[.slice none 0 0, .slice none 0 0, .slice none 0 0, .slice none 0 0, .slice none 0 0] 112)).alloc (.cells #[.slice none 0 0, .slice none 0 0, .slice none 0 0, .slice none 0 0, .slice none 0 0] 112)) := bel3 w _ _ _
  clear A0 R0
  refine (toIntS sa y.ns sc y.S _ (by omega) (H.out.s.mono (Nat.le_refl _) B1 (Nat.le_refl _))).mono ?_
  rintro e w1 ⟨b1, hb1, rfl, o1, hl1⟩
  have A11 := A1.mono hl1 (Nat.le_refl _)
  have R11 := R1.mono hl1 (Nat.le_refl _)
  have O11 := O1.mono hl1 (Nat.le_refl _)
  have B11 := B1.trans (hl1.mono B1.size)
  have hk1 : w.heap.size + 1 + 1 < b1 := by rw [hb1]; simp
  have hz1 : b1 < w1.heap.size := (o1.lt rfl).2
  clear hl1 hb1 A1 R1 O1 B1
  have xa1 : w1.cell? ⟨w.heap.size, 1, none⟩ = some _ := A11.cell 1
  have xo1 : w1.cell? ⟨w.heap.size + 1 + 1, 0, none⟩ = some (.slice none 0 0) := O11.cell 0
  have xf1 := O11.free 0
  have HH1 : Hid (Box w1 w.heap.size 120 _ ∧ Box w1 (w.heap.size + 1) 112 _ ∧ Box w1 (w.heap.size + 1 + 1) 112 _ ∧ Below w.heap.size w w1) := ⟨A11, R11, O11, B11⟩
  have P1_1 : Hid (VOwn b1 3 1 w1 (.slice (some ⟨b1, 0, none⟩) y.ns y.ns) y.ns (oneF y.S)) := o1
  clear A11 R11 O11 B11 o1
  go_wp2_with fail
  obtain ⟨A11, R11, O11, B11⟩ := HH1.out
  have A2 := A11.other (p := ⟨w.heap.size + 1 + 1, 0, none⟩) (by show w.heap.size ≠ w.heap.size + 1 + 1; omega) (.slice (some ⟨b1, 0, none⟩) y.ns y.ns)
  have R2 := R11.other (p := ⟨w.heap.size + 1 + 1, 0, none⟩) (by show w.heap.size + 1 ≠ w.heap.size + 1 + 1; omega) (.slice (some ⟨b1, 0, none⟩) y.ns y.ns)
  have O2 := O11.set 0 (.slice (some ⟨b1, 0, none⟩) y.ns y.ns)
  have B2 := B11.setCell (p := ⟨w.heap.size + 1 + 1, 0, none⟩) (by show w.heap.size ≤ w.heap.size + 1 + 1; omega) (.slice (some ⟨b1, 0, none⟩) y.ns y.ns)
  have o1 := P1_1.out.keep (Nat.le_refl _) (fun g hg => Below.heap_setCell w1 ⟨w.heap.size + 1 + 1, 0, none⟩ (.slice (some ⟨b1, 0, none⟩) y.ns y.ns) g (by simp only [Value.ownBlock, Option.some.injEq] at hg; show g ≠ w.heap.size + 1 + 1; omega))
  clear HH1 A11 R11 O11 B11 xa1 xo1 xf1 P1_1
  refine (toTurnS la y.nl lc y.L _ (by omega) (H.out.l.mono (Nat.le_refl _) B2 (Nat.le_refl _))).mono ?_
  rintro e w2 ⟨b2, hb2, rfl, o2, hl2⟩
  have A12 := A2.mono hl2 (Nat.le_refl _)
  have R12 := R2.mono hl2 (Nat.le_refl _)
  have O12 := O2.mono hl2 (Nat.le_refl _)
  have B12 := B2.trans (hl2.mono B2.size)
  have o1 := o1.mono (Nat.le_refl _) hl2 (Nat.le_refl _)
  have hk2 : b1 < b2 := by rw [hb2, size_setc]; exact hz1
  have hz2 : b2 < w2.heap.size := (o2.lt rfl).2
  clear hl2 hb2 A2 R2 O2 B2 hz1
  have xa2 : w2.cell? ⟨w.heap.size, 2, none⟩ = some _ := A12.cell 2
  have xo2 : w2.cell? ⟨w.heap.size + 1 + 1, 1, none⟩ = some (.slice none 0 0) := O12.cell 1
  have xf2 := O12.free 1
  have HH2 : Hid (Box w2 w.heap.size 120 _ ∧ Box w2 (w.heap.size + 1) 112 _ ∧ Box w2 (w.heap.size + 1 + 1) 112 _ ∧ Below w.heap.size w w2) := ⟨A12, R12, O12, B12⟩
  have P2_1 : Hid (VOwn b1 3 1 w2 (.slice (some ⟨b1, 0, none⟩) y.ns y.ns) y.ns (oneF y.S)) := o1
  have P2_2 : Hid (VOwn b2 146 2 w2 (.slice (some ⟨b2, 0, none⟩) y.nl y.nl) y.nl (intF y.L)) := o2
  clear A12 R12 O12 B12 o1 o2
  go_wp2_with fail
  obtain ⟨A12, R12, O12, B12⟩ := HH2.out
  have A3 := A12.other (p := ⟨w.heap.size + 1 + 1, 1, none⟩) (by show w.heap.size ≠ w.heap.size + 1 + 1; omega) (.slice (some ⟨b2, 0, none⟩) y.nl y.nl)
  have R3 := R12.other (p := ⟨w.heap.size + 1 + 1, 1, none⟩) (by show w.heap.size + 1 ≠ w.heap.size + 1 + 1; omega) (.slice (some ⟨b2, 0, none⟩) y.nl y.nl)
  have O3 := O12.set 1 (.slice (some ⟨b2, 0, none⟩) y.nl y.nl)
  have B3 := B12.setCell (p := ⟨w.heap.size + 1 + 1, 1, none⟩) (by show w.heap.size ≤ w.heap.size + 1 + 1; omega) (.slice (some ⟨b2, 0, none⟩) y.nl y.nl)
  have o1 := P2_1.out.keep (Nat.le_refl _) (fun g hg => Below.heap_setCell w2 ⟨w.heap.size + 1 + 1, 1, none⟩ (.slice (some ⟨b2, 0, none⟩) y.nl y.nl) g (by simp only [Value.ownBlock, Option.some.injEq] at hg; show g ≠ w.heap.size + 1 + 1; omega))
  have o2 := P2_2.out.keep (Nat.le_refl _) (fun g hg => Below.heap_setCell w2 ⟨w.heap.size + 1 + 1, 1, none⟩ (.slice (some ⟨b2, 0, none⟩) y.nl y.nl) g (by simp only [Value.ownBlock, Option.some.injEq] at hg; show g ≠ w.heap.size + 1 + 1; omega))
  clear HH2 A12 R12 O12 B12 xa2 xo2 xf2 P2_1 P2_2
  refine (toTurnS fa y.nf fc y.F _ (by omega) (H.out.f.mono (Nat.le_refl _) B3 (Nat.le_refl _))).mono ?_
  rintro e w3 ⟨b3, hb3, rfl, o3, hl3⟩
  have A13 := A3.mono hl3 (Nat.le_refl _)
  have R13 := R3.mono hl3 (Nat.le_refl _)
  have O13 := O3.mono hl3 (Nat.le_refl _)
  have B13 := B3.trans (hl3.mono B3.size)
  have o1 := o1.mono (Nat.le_refl _) hl3 (Nat.le_refl _)
  have o2 := o2.mono (Nat.le_refl _) hl3 (Nat.le_refl _)
  have hk3 : b2 < b3 := by rw [hb3, size_setc]; exact hz2
  have hz3 : b3 < w3.heap.size := (o3.lt rfl).2
  clear hl3 hb3 A3 R3 O3 B3 hz2
  have xa3 : w3.cell? ⟨w.heap.size, 3, none⟩ = some _ := A13.cell 3
  have xo3 : w3.cell? ⟨w.heap.size + 1 + 1, 2, none⟩ = some (.slice none 0 0) := O13.cell 2
  have xf3 := O13.free 2
  have HH3 : Hid (Box w3 w.heap.size 120 _ ∧ Box w3 (w.heap.size + 1) 112 _ ∧ Box w3 (w.heap.size + 1 + 1) 112 _ ∧ Below w.heap.size w w3) := ⟨A13, R13, O13, B13⟩
  have P3_1 : Hid (VOwn b1 3 1 w3 (.slice (some ⟨b1, 0, none⟩) y.ns y.ns) y.ns (oneF y.S)) := o1
  have P3_2 : Hid (VOwn b2 146 2 w3 (.slice (some ⟨b2, 0, none⟩) y.nl y.nl) y.nl (intF y.L)) := o2
  have P3_3 : Hid (VOwn b3 146 2 w3 (.slice (some ⟨b3, 0, none⟩) y.nf y.nf) y.nf (intF y.F)) := o3
  clear A13 R13 O13 B13 o1 o2 o3
  go_wp2_with fail
  obtain ⟨A13, R13, O13, B13⟩ := HH3.out
  have A4 := A13.other (p := ⟨w.heap.size + 1 + 1, 2, none⟩) (by show w.heap.size ≠ w.heap.size + 1 + 1; omega) (.slice (some ⟨b3, 0, none⟩) y.nf y.nf)
  have R4 := R13.other (p := ⟨w.heap.size + 1 + 1, 2, none⟩) (by show w.heap.size + 1 ≠ w.heap.size + 1 + 1; omega) (.slice (some ⟨b3, 0, none⟩) y.nf y.nf)
  have O4 := O13.set 2 (.slice (some ⟨b3, 0, none⟩) y.nf y.nf)
  have B4 := B13.setCell (p := ⟨w.heap.size + 1 + 1, 2, none⟩) (by show w.heap.size ≤ w.heap.size + 1 + 1; omega) (.slice (some ⟨b3, 0, none⟩) y.nf y.nf)
  have o1 := P3_1.out.keep (Nat.le_refl _) (fun g hg => Below.heap_setCell w3 ⟨w.heap.size + 1 + 1, 2, none⟩ (.slice (some ⟨b3, 0, none⟩) y.nf y.nf) g (by simp only [Value.ownBlock, Option.some.injEq] at hg; show g ≠ w.heap.size + 1 + 1; omega))
  have o2 := P3_2.out.keep (Nat.le_refl _) (fun g hg => Below.heap_setCell w3 ⟨w.heap.size + 1 + 1, 2, none⟩ (.slice (some ⟨b3, 0, none⟩) y.nf y.nf) g (by simp only [Value.ownBlock, Option.some.injEq] at hg; show g ≠ w.heap.size + 1 + 1; omega))
  have o3 := P3_3.out.keep (Nat.le_refl _) (fun g hg => Below.heap_setCell w3 ⟨w.heap.size + 1 + 1, 2, none⟩ (.slice (some ⟨b3, 0, none⟩) y.nf y.nf) g (by simp only [Value.ownBlock, Option.some.injEq] at hg; show g ≠ w.heap.size + 1 + 1; omega))
  clear HH3 A13 R13 O13 B13 xa3 xo3 xf3 P3_1 P3_2 P3_3
  refine (toIntS oa y.no oc y.O _ (by omega) (H.out.o.mono (Nat.le_refl _) B4 (Nat.le_refl _))).mono ?_
  rintro e w4 ⟨b4, hb4, rfl, o4, hl4⟩
  have A14 := A4.mono hl4 (Nat.le_refl _)
  have R14 := R4.mono hl4 (Nat.le_refl _)
  have O14 := O4.mono hl4 (Nat.le_refl _)
  have B14 := B4.trans (hl4.mono B4.size)
  have o1 := o1.mono (Nat.le_refl _) hl4 (Nat.le_refl _)
  have o2 := o2.mono (Nat.le_refl _) hl4 (Nat.le_refl _)
  have o3 := o3.mono (Nat.le_refl _) hl4 (Nat.le_refl _)
  have hk4 : b3 < b4 := by rw [hb4, size_setc]; exact hz3
  have hz4 : b4 < w4.heap.size := (o4.lt rfl).2
  clear hl4 hb4 A4 R4 O4 B4 hz3
  have xa4 : w4.cell? ⟨w.heap.size, 4, none⟩ = some _ := A14.cell 4
  have xo4 : w4.cell? ⟨w.heap.size + 1 + 1, 3, none⟩ = some (.slice none 0 0) := O14.cell 3
  have xf4 := O14.free 3
  have HH4 : Hid (Box w4 w.heap.size 120 _ ∧ Box w4 (w.heap.size + 1) 112 _ ∧ Box w4 (w.heap.size + 1 + 1) 112 _ ∧ Below w.heap.size w w4) := ⟨A14, R14, O14, B14⟩
  have P4_1 : Hid (VOwn b1 3 1 w4 (.slice (some ⟨b1, 0, none⟩) y.ns y.ns) y.ns (oneF y.S)) := o1
  have P4_2 : Hid (VOwn b2 146 2 w4 (.slice (some ⟨b2, 0, none⟩) y.nl y.nl) y.nl (intF y.L)) := o2
  have P4_3 : Hid (VOwn b3 146 2 w4 (.slice (some ⟨b3, 0, none⟩) y.nf y.nf) y.nf (intF y.F)) := o3
  have P4_4 : Hid (VOwn b4 3 1 w4 (.slice (some ⟨b4, 0, none⟩) y.no y.no) y.no (oneF y.O)) := o4
  clear A14 R14 O14 B14 o1 o2 o3 o4
  go_wp2_with fail
  obtain ⟨A14, R14, O14, B14⟩ := HH4.out
  have A5 := A14.other (p := ⟨w.heap.size + 1 + 1, 3, none⟩) (by show w.heap.size ≠ w.heap.size + 1 + 1; omega) (.slice (some ⟨b4, 0, none⟩) y.no y.no)
  have R5 := R14.other (p := ⟨w.heap.size + 1 + 1, 3, none⟩) (by show w.heap.size + 1 ≠ w.heap.size + 1 + 1; omega) (.slice (some ⟨b4, 0, none⟩) y.no y.no)
  have O5 := O14.set 3 (.slice (some ⟨b4, 0, none⟩) y.no y.no)
  have B5 := B14.setCell (p := ⟨w.heap.size + 1 + 1, 3, none⟩) (by show w.heap.size ≤ w.heap.size + 1 + 1; omega) (.slice (some ⟨b4, 0, none⟩) y.no y.no)
  have o1 := P4_1.out.keep (Nat.le_refl _) (fun g hg => Below.heap_setCell w4 ⟨w.heap.size + 1 + 1, 3, none⟩ (.slice (some ⟨b4, 0, none⟩) y.no y.no) g (by simp only [Value.ownBlock, Option.some.injEq] at hg; show g ≠ w.heap.size + 1 + 1; omega))
  have o2 := P4_2.out.keep (Nat.le_refl _) (fun g hg => Below.heap_setCell w4 ⟨w.heap.size + 1 + 1, 3, none⟩ (.slice (some ⟨b4, 0, none⟩) y.no y.no) g (by simp only [Value.ownBlock, Option.some.injEq] at hg; show g ≠ w.heap.size + 1 + 1; omega))
  have o3 := P4_3.out.keep (Nat.le_refl _) (fun g hg => Below.heap_setCell w4 ⟨w.heap.size + 1 + 1, 3, none⟩ (.slice (some ⟨b4, 0, none⟩) y.no y.no) g (by simp only [Value.ownBlock, Option.some.injEq] at hg; show g ≠ w.heap.size + 1 + 1; omega))
  have o4 := P4_4.out.keep (Nat.le_refl _) (fun g hg => Below.heap_setCell w4 ⟨w.heap.size + 1 + 1, 3, none⟩ (.slice (some ⟨b4, 0, none⟩) y.no y.no) g (by simp only [Value.ownBlock, Option.some.injEq] at hg; show g ≠ w.heap.size + 1 + 1; omega))
  clear HH4 A14 R14 O14 B14 xa4 xo4 xf4 P4_1 P4_2 P4_3 P4_4
  refine (toIntS ma y.nm mc y.M _ (by omega) (H.out.m.mono (Nat.le_refl _) B5 (Nat.le_refl _))).mono ?_
  rintro e w5 ⟨b5, hb5, rfl, o5, hl5⟩
  have A15 := A5.mono hl5 (Nat.le_refl _)
  have R15 := R5.mono hl5 (Nat.le_refl _)
  have O15 := O5.mono hl5 (Nat.le_refl _)
  have B15 := B5.trans (hl5.mono B5.size)
  have o1 := o1.mono (Nat.le_refl _) hl5 (Nat.le_refl _)
  have o2 := o2.mono (Nat.le_refl _) hl5 (Nat.le_refl _)
  have o3 := o3.mono (Nat.le_refl _) hl5 (Nat.le_refl _)
  have o4 := o4.mono (Nat.le_refl _) hl5 (Nat.le_refl _)
  have hk5 : b4 < b5 := by rw [hb5, size_setc]; exact hz4
  have hz5 : b5 < w5.heap.size := (o5.lt rfl).2
  clear hl5 hb5 A5 R5 O5 B5 hz4
  have xo5 : w5.cell? ⟨w.heap.size + 1 + 1, 4, none⟩ = some (.slice none 0 0) := O15.cell 4
  have xf5 := O15.free 4
  have HH5 : Hid (Box w5 w.heap.size 120 _ ∧ Box w5 (w.heap.size + 1) 112 _ ∧ Box w5 (w.heap.size + 1 + 1) 112 _ ∧ Below w.heap.size w w5) := ⟨A15, R15, O15, B15⟩
  have P5_1 : Hid (VOwn b1 3 1 w5 (.slice (some ⟨b1, 0, none⟩) y.ns y.ns) y.ns (oneF y.S)) := o1
  have P5_2 : Hid (VOwn b2 146 2 w5 (.slice (some ⟨b2, 0, none⟩) y.nl y.nl) y.nl (intF y.L)) := o2
  have P5_3 : Hid (VOwn b3 146 2 w5 (.slice (some ⟨b3, 0, none⟩) y.nf y.nf) y.nf (intF y.F)) := o3
  have P5_4 : Hid (VOwn b4 3 1 w5 (.slice (some ⟨b4, 0, none⟩) y.no y.no) y.no (oneF y.O)) := o4
  have P5_5 : Hid (VOwn b5 3 1 w5 (.slice (some ⟨b5, 0, none⟩) y.nm y.nm) y.nm (oneF y.M)) := o5
  have xo5a : w5.cell? ⟨w.heap.size + 1 + 1, 0, none⟩ = some (.slice (some ⟨b1, 0, none⟩) y.ns y.ns) := O15.cell 0
  have xo5b : w5.cell? ⟨w.heap.size + 1 + 1, 1, none⟩ = some (.slice (some ⟨b2, 0, none⟩) y.nl y.nl) := O15.cell 1
  have xo5c : w5.cell? ⟨w.heap.size + 1 + 1, 2, none⟩ = some (.slice (some ⟨b3, 0, none⟩) y.nf y.nf) := O15.cell 2
  have xo5d : w5.cell? ⟨w.heap.size + 1 + 1, 3, none⟩ = some (.slice (some ⟨b4, 0, none⟩) y.no y.no) := O15.cell 3
  have xr0 : w5.cell? ⟨w.heap.size + 1, 0, none⟩ = some (.slice none 0 0) := R15.cell 0
  have xr1 : w5.cell? ⟨w.heap.size + 1, 1, none⟩ = some (.slice none 0 0) := R15.cell 1
  have xr2 : w5.cell? ⟨w.heap.size + 1, 2, none⟩ = some (.slice none 0 0) := R15.cell 2
  have xr3 : w5.cell? ⟨w.heap.size + 1, 3, none⟩ = some (.slice none 0 0) := R15.cell 3
  have xr4 : w5.cell? ⟨w.heap.size + 1, 4, none⟩ = some (.slice none 0 0) := R15.cell 4
  have xg0 := R15.free 0
  have xg1 := R15.free 1
  have xg2 := R15.free 2
  have xg3 := R15.free 3
  have xg4 := R15.free 4
  clear A15 R15 O15 B15 o1 o2 o3 o4 o5
  go_wp2_with fail
  refine bodyPost_ret (v := .agg #[.slice (some ⟨b1, 0, none⟩) y.ns y.ns, .slice (some ⟨b2, 0, none⟩) y.nl y.nl, .slice (some ⟨b3, 0, none⟩) y.nf y.nf, .slice (some ⟨b4, 0, none⟩) y.no y.no, .slice (some ⟨b5, 0, none⟩) y.nm y.nm]) (by simp [results, Tryz.results74, go_sem, xr0, xr1, xr2, xr3, xr4]) rfl ⟨b1, b2, b3, b4, b5, rfl, ?_, ?_⟩
  · refine ⟨by omega, hk2, hk3, hk4, hk5, P5_1.out.keep (Nat.le_refl _) (fun g hg => ?_), P5_2.out.keep (Nat.le_refl _) (fun g hg => ?_), P5_3.out.keep (Nat.le_refl _) (fun g hg => ?_), P5_4.out.keep (Nat.le_refl _) (fun g hg => ?_), P5_5.out.keep (Nat.le_refl _) (fun g hg => ?_)⟩
    all_goals
      simp only [Value.ownBlock, Option.some.injEq] at hg
      have h1 : g ≠ w.heap.size + 1 := by omega
      have h2 : g ≠ w.heap.size + 1 + 1 := by omega
      rw [Below.heap_setCell _ _ _ _ h1, Below.heap_setCell _ _ _ _ h1, Below.heap_setCell _ _ _ _ h1, Below.heap_setCell _ _ _ _ h1, Below.heap_setCell _ _ _ _ h1, Below.heap_setCell _ _ _ _ h2]
  · obtain ⟨_, _, _, B15⟩ := HH5.out
    have h1 : w.heap.size ≤ w.heap.size + 1 := by omega
    have h2 : w.heap.size ≤ w.heap.size + 1 + 1 := by omega
    exact (((((B15.setCell h2 _).setCell h1 _).setCell h1 _).setCell h1 _).setCell h1 _).setCell h1 _


end Go.Proofs.YtkeilejbelblcaaGreatDoor
