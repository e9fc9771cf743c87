import Derived.Test.YtpghgdnhfhdgmaaTo
namespace Go.Proofs.Ytpghgdnhfhdgmaa
open Go.RowKit

/-- a route's lists, each in a block of its own, the blocks in a row from C on -/
structure RtOwn (C : Nat) (w : World) (r : Rt) (b1 b2 b3 b4 b5 b6 : Nat) : Prop where
  c1 : C ≤ b1
  c2 : b1 < b2
  c3 : b2 < b3
  c4 : b3 < b4
  c5 : b4 < b5
  c6 : b5 < b6
  s : Own b1 97 2 w (.slice (some ⟨b1, 0, none⟩) r.ns r.ns) (lsF 2 r.ns r.S)
  l : Own b2 62 2 w (.slice (some ⟨b2, 0, none⟩) r.nl r.nl) (lsF 2 r.nl r.L)
  x : Own b3 3 1 w (.slice (some ⟨b3, 0, none⟩) r.nx r.nx) (lsF 1 r.nx r.X)
  q : Own b4 103 3 w (.slice (some ⟨b4, 0, none⟩) r.np r.np) (lsF 3 r.np r.Q)
  o : Own b5 103 3 w (.slice (some ⟨b5, 0, none⟩) r.no r.no) (lsF 3 r.no r.O)
  f : Own b6 64 4 w (.slice (some ⟨b6, 0, none⟩) r.nf r.nf) (lsF 4 r.nf r.F)
theorem Own.lt0 {B : Nat} {e : TypeId} {c : Nat} {w : World} {l : List Rw} {g n cap : Nat} (h : Own B e c w (.slice (some ⟨g, 0, none⟩) n cap) l) : g < w.heap.size := (h.lt rfl).2
theorem RtOwn.lt {C : Nat} {w : World} {r : Rt} {b1 b2 b3 b4 b5 b6 : Nat} (h : RtOwn C w r b1 b2 b3 b4 b5 b6) : b6 < w.heap.size := h.f.lt0
theorem RtOwn.mono {C C' : Nat} {w w' : World} {r : Rt} {b1 b2 b3 b4 b5 b6 N : Nat} (h : RtOwn C w r b1 b2 b3 b4 b5 b6) (hC : C' ≤ C) (hb : Below N w w') (hN : w.heap.size ≤ N) : RtOwn C' w' r b1 b2 b3 b4 b5 b6 :=
  ⟨Nat.le_trans hC h.c1, h.c2, h.c3, h.c4, h.c5, h.c6, h.s.mono (Nat.le_refl _) hb hN, h.l.mono (Nat.le_refl _) hb hN, h.x.mono (Nat.le_refl _) hb hN, h.q.mono (Nat.le_refl _) hb hN, h.o.mono (Nat.le_refl _) hb hN, h.f.mono (Nat.le_refl _) hb hN⟩
theorem Own.ns {B : Nat} {e : TypeId} {c : Nat} {w : World} {b n cap : Nat} {F : Nat → Nat → Int} (h : Own B e c w (.slice (some ⟨b, 0, none⟩) n cap) (lsF c n F)) : NsAt c B w (some ⟨b, 0, none⟩) n F := by
  obtain ⟨a, cp, h1, h2⟩ := h.ls.val
  rw [lsF_len] at h1 h2
  simp only [Value.slice.injEq] at h1
  obtain ⟨rfl, _, _⟩ := h1
  intro h0
  obtain ⟨b', off, h3, h4, h5, h6⟩ := h2 h0
  exact ⟨b', off, h3, h4, h5, fun i hi j hj => by rw [h6 i hi j hj, lsF_fn hi hj]⟩
theorem NsAt.le {c C C' : Nat} {w : World} {a : Option Addr} {n : Nat} {F : Nat → Nat → Int} (h : NsAt c C w a n F) (hC : C' ≤ C) : NsAt c C' w a n F := h.keep hC (Nat.le_refl _) fun _ _ _ => rfl
/-- as its reading -/
theorem RtOwn.rt {C : Nat} {w : World} {r : Rt} {b1 b2 b3 b4 b5 b6 : Nat} (h : RtOwn C w r b1 b2 b3 b4 b5 b6) : RtIn C w r (some ⟨b1, 0, none⟩) (some ⟨b2, 0, none⟩) (some ⟨b3, 0, none⟩) (some ⟨b4, 0, none⟩) (some ⟨b5, 0, none⟩) (some ⟨b6, 0, none⟩) := by
  have h1 := h.c1
  have h2 := h.c2
  have h3 := h.c3
  have h4 := h.c4
  have h5 := h.c5
  have h6 := h.c6
  exact ⟨h.s.ns.le h1, h.l.ns.le (by omega), h.x.ns.le (by omega), h.q.ns.le (by omega), h.o.ns.le (by omega), h.f.ns.le (by omega)⟩

set_option maxRecDepth 100000 in
set_option maxHeartbeats 4000000 in
theorem toRoute (r : Rt) (sa la xa qa oa fa : Option Addr) (sc lc xc qc oc fc : Nat) (w : World) (hs : r.small) (h : RtIn 0 w r sa la xa qa oa fa) :
    Calls Try.prog 8 #[.agg #[.int .i64 r.fr, .int .i64 r.to, .slice sa r.ns sc, .slice la r.nl lc, .slice xa r.nx xc, .slice qa r.np qc, .slice oa r.no oc, .slice fa r.nf fc]] w fun e w' =>
      ∃ b1 b2 b3 b4 b5 b6, e = .returned (.agg #[.int .i64 r.fr, .int .i64 r.to, .slice (some ⟨b1, 0, none⟩) r.ns r.ns, .slice (some ⟨b2, 0, none⟩) r.nl r.nl, .slice (some ⟨b3, 0, none⟩) r.nx r.nx, .slice (some ⟨b4, 0, none⟩) r.np r.np, .slice (some ⟨b5, 0, none⟩) r.no r.no, .slice (some ⟨b6, 0, none⟩) r.nf r.nf]) ∧ RtOwn w.heap.size w' r b1 b2 b3 b4 b5 b6 ∧ Below w.heap.size w w' := by
  obtain ⟨s1, s2, s3, s4, s5, s6⟩ := hs
  have H : Hid (RtIn 0 w r sa la xa qa oa fa) := h
  clear h
  go_enter Try.func8, Try.ntmps8
  go_wp2_with fail
  have A0 : Box (w.alloc (.cells #[.int .i64 r.fr, .int .i64 r.to, .slice sa r.ns sc, .slice la r.nl lc, .slice xa r.nx xc, .slice qa r.np qc, .slice oa r.no oc, .slice fa r.nf fc] 28)) w.heap.size 28 #[.int .i64 r.fr, .int .i64 r.to, .slice sa r.ns sc, .slice la r.nl lc, .slice xa r.nx xc, .slice qa r.np qc, .slice oa r.no oc, .slice fa r.nf fc] := Box.new w 28 _
  have R0 : Box ((w.alloc (.cells #[.int .i64 r.fr, .int .i64 r.to, .slice sa r.ns sc, .slice la r.nl lc, .slice xa r.nx xc, .slice qa r.np qc, .slice oa r.no oc, .slice fa r.nf fc] 28)).alloc (.cells #[.int .i64 0, .int .i64 0, .slice none 0 0, .slice none 0 0, .slice none 0 0, .slice none 0 0, .slice none 0 0, .slice none 0 0] 36)) (w.heap.size + 1) 36 #[.int .i64 0, .int .i64 0, .slice none 0 0, .slice none 0 0, .slice none 0 0, .slice none 0 0, .slice none 0 0, .slice none 0 0] := by have := Box.new (w.alloc (.cells #[.int .i64 r.fr, .int .i64 r.to, .slice sa r.ns sc, .slice la r.nl lc, .slice xa r.nx xc, .slice qa r.np qc, .slice oa r.no oc, .slice fa r.nf fc] 28)) 36 #[.int .i64 0, .int .i64 0, .slice none 0 0, .slice none 0 0, .slice none 0 0, .slice none 0 0, .slice none 0 0, .slice none 0 0]; simpa using this
  have O1 : Box (((w.alloc (.cells #[.int .i64 r.fr, .int .i64 r.to, .slice sa r.ns sc, .slice la r.nl lc, .slice xa r.nx xc, .slice qa r.np qc, .slice oa r.no oc, .slice fa r.nf fc] 28)).alloc (.cells #[.int .i64 0, .int .i64 0, .slice none 0 0, .slice none 0 0, .slice none 0 0, .slice none 0 0, .slice none 0 0, .slice none 0 0] 36)).alloc (.cells #[.int .i64 r.fr, .int .i64 r.to, .slice none 0 0, .slice none 0 0, .slice none 0 0, .slice none 0 0, .slice none 0 0, .slice none 0 0] 36)) (w.heap.size + 1 + 1) 36 #[.int .i64 r.fr, .int .i64 r.to, .slice none 0 0, .slice none 0 0, .slice none 0 0, .slice none 0 0, .slice none 0 0, .slice none 0 0] := by have := Box.new ((w.alloc (.cells #[.int .i64 r.fr, .int .i64 r.to, .slice sa r.ns sc, .slice la r.nl lc, .slice xa r.nx xc, .slice qa r.np qc, .slice oa r.no oc, .slice fa r.nf fc] 28)).alloc (.cells #[.int .i64 0, .int .i64 0, .slice none 0 0, .slice none 0 0, .slice none 0 0, .slice none 0 0, .slice none 0 0, .slice none 0 0] 36)) 36 #[.int .i64 r.fr, .int .i64 r.to, .slice none 0 0, .slice none 0 0, .slice none 0 0, .slice none 0 0, .slice none 0 0, .slice none 0 0]; simpa using this
  have A1 := (A0.alloc (.cells #[.int .i64 0, .int .i64 0, .slice none 0 0, .slice none 0 0, .slice none 0 0, .slice none 0 0, .slice none 0 0, .slice none 0 0] 36)).alloc (.cells #[.int .i64 r.fr, .int .i64 r.to, .slice none 0 0, .slice none 0 0, .slice none 0 0, .slice none 0 0, .slice none 0 0, .slice none 0 0] 36)
  have R1 := R0.alloc (.cells #[.int .i64 r.fr, .int .i64 r.to, .slice none 0 0, .slice none 0 0, .slice none 0 0, .slice none 0 0, .slice none 0 0, .slice none 0 0] 36)
  have B1 : Below w.heap.size w (((w.alloc (.cells #[.int .i64 r.fr, .int .i64 r.to, .slice sa r.ns sc, .slice la r.nl lc, .slice xa r.nx xc, .slice qa r.np qc, .slice oa r.no oc, .slice fa r.nf fc] 28)).alloc (.cells #[.int .i64 0, .int .i64 0, .slice none 0 0, .slice none 0 0, .slice none 0 0, .slice none 0 0, .slice none 0 0, .slice none 0 0] 36)).alloc (.cells #[.int .i64 r.fr, .int .i64 r.to, .slice none 0 0, .slice none 0 0, .slice none 0 0, .slice none 0 0, .slice none 0 0, .slice none 0 0] 36)) := bel3 w _ _ _
  clear A0 R0
  refine (toStepS sa r.ns sc r.S _ s1 (H.out.s.mono (Nat.le_refl _) B1 (Nat.le_refl _))).mono ?_
  rintro e w1 ⟨b1, hb1, rfl, o1, hl1⟩
  have A11 := A1.mono hl1 (Nat.le_refl _)
  have R11 := R1.mono hl1 (Nat.le_refl _)
  have O11 := O1.mono hl1 (Nat.le_refl _)
  have B11 := B1.trans (hl1.mono B1.size)
  have hk1 : w.heap.size + 1 + 1 < b1 := by rw [hb1]; simp
  have hz1 : b1 < w1.heap.size := o1.lt0
  clear hl1 hb1 A1 R1 O1 B1
  have xa1 : w1.cell? ⟨w.heap.size, 3, none⟩ = some _ := A11.cell 3
  have xo1 : w1.cell? ⟨w.heap.size + 1 + 1, 2, none⟩ = some (.slice none 0 0) := O11.cell 2
  have xf1 := O11.free 2
  have HH1 : Hid (Box w1 w.heap.size 28 _ ∧ Box w1 (w.heap.size + 1) 36 _ ∧ Box w1 (w.heap.size + 1 + 1) 36 _ ∧ Below w.heap.size w w1) := ⟨A11, R11, O11, B11⟩
  have P1_1 : Hid (Own b1 97 2 w1 (.slice (some ⟨b1, 0, none⟩) r.ns r.ns) (lsF 2 r.ns r.S)) := o1
  clear A11 R11 O11 B11 o1
  go_wp2_with fail
  obtain ⟨A11, R11, O11, B11⟩ := HH1.out
  have A2 := A11.other (p := ⟨w.heap.size + 1 + 1, 2, none⟩) (by show w.heap.size ≠ w.heap.size + 1 + 1; omega) (.slice (some ⟨b1, 0, none⟩) r.ns r.ns)
  have R2 := R11.other (p := ⟨w.heap.size + 1 + 1, 2, none⟩) (by show w.heap.size + 1 ≠ w.heap.size + 1 + 1; omega) (.slice (some ⟨b1, 0, none⟩) r.ns r.ns)
  have O2 := O11.set 2 (.slice (some ⟨b1, 0, none⟩) r.ns r.ns)
  have B2 := B11.setCell (p := ⟨w.heap.size + 1 + 1, 2, none⟩) (by show w.heap.size ≤ w.heap.size + 1 + 1; omega) (.slice (some ⟨b1, 0, none⟩) r.ns r.ns)
  have o1 := P1_1.out.keep (Nat.le_refl _) (fun g hg => Below.heap_setCell w1 ⟨w.heap.size + 1 + 1, 2, none⟩ (.slice (some ⟨b1, 0, none⟩) r.ns r.ns) g (by simp only [Value.ownBlock, Option.some.injEq] at hg; show g ≠ w.heap.size + 1 + 1; omega))
  clear HH1 A11 R11 O11 B11 xa1 xo1 xf1 P1_1
  refine (toLieS la r.nl lc r.L _ s2 (H.out.l.mono (Nat.le_refl _) B2 (Nat.le_refl _))).mono ?_
  rintro e w2 ⟨b2, hb2, rfl, o2, hl2⟩
  have A12 := A2.mono hl2 (Nat.le_refl _)
  have R12 := R2.mono hl2 (Nat.le_refl _)
  have O12 := O2.mono hl2 (Nat.le_refl _)
  have B12 := B2.trans (hl2.mono B2.size)
  have o1 := o1.mono (Nat.le_refl _) hl2 (Nat.le_refl _)
  have hk2 : b1 < b2 := by rw [hb2, size_setc]; exact hz1
  have hz2 : b2 < w2.heap.size := o2.lt0
  clear hl2 hb2 A2 R2 O2 B2 hz1
  have xa2 : w2.cell? ⟨w.heap.size, 4, none⟩ = some _ := A12.cell 4
  have xo2 : w2.cell? ⟨w.heap.size + 1 + 1, 3, none⟩ = some (.slice none 0 0) := O12.cell 3
  have xf2 := O12.free 3
  have HH2 : Hid (Box w2 w.heap.size 28 _ ∧ Box w2 (w.heap.size + 1) 36 _ ∧ Box w2 (w.heap.size + 1 + 1) 36 _ ∧ Below w.heap.size w w2) := ⟨A12, R12, O12, B12⟩
  have P2_1 : Hid (Own b1 97 2 w2 (.slice (some ⟨b1, 0, none⟩) r.ns r.ns) (lsF 2 r.ns r.S)) := o1
  have P2_2 : Hid (Own b2 62 2 w2 (.slice (some ⟨b2, 0, none⟩) r.nl r.nl) (lsF 2 r.nl r.L)) := o2
  clear A12 R12 O12 B12 o1 o2
  go_wp2_with fail
  obtain ⟨A12, R12, O12, B12⟩ := HH2.out
  have A3 := A12.other (p := ⟨w.heap.size + 1 + 1, 3, none⟩) (by show w.heap.size ≠ w.heap.size + 1 + 1; omega) (.slice (some ⟨b2, 0, none⟩) r.nl r.nl)
  have R3 := R12.other (p := ⟨w.heap.size + 1 + 1, 3, none⟩) (by show w.heap.size + 1 ≠ w.heap.size + 1 + 1; omega) (.slice (some ⟨b2, 0, none⟩) r.nl r.nl)
  have O3 := O12.set 3 (.slice (some ⟨b2, 0, none⟩) r.nl r.nl)
  have B3 := B12.setCell (p := ⟨w.heap.size + 1 + 1, 3, none⟩) (by show w.heap.size ≤ w.heap.size + 1 + 1; omega) (.slice (some ⟨b2, 0, none⟩) r.nl r.nl)
  have o1 := P2_1.out.keep (Nat.le_refl _) (fun g hg => Below.heap_setCell w2 ⟨w.heap.size + 1 + 1, 3, none⟩ (.slice (some ⟨b2, 0, none⟩) r.nl r.nl) g (by simp only [Value.ownBlock, Option.some.injEq] at hg; show g ≠ w.heap.size + 1 + 1; omega))
  have o2 := P2_2.out.keep (Nat.le_refl _) (fun g hg => Below.heap_setCell w2 ⟨w.heap.size + 1 + 1, 3, none⟩ (.slice (some ⟨b2, 0, none⟩) r.nl r.nl) g (by simp only [Value.ownBlock, Option.some.injEq] at hg; show g ≠ w.heap.size + 1 + 1; omega))
  clear HH2 A12 R12 O12 B12 xa2 xo2 xf2 P2_1 P2_2
  refine (toIntS xa r.nx xc r.X _ s3 (H.out.x.mono (Nat.le_refl _) B3 (Nat.le_refl _))).mono ?_
  rintro e w3 ⟨b3, hb3, rfl, o3, hl3⟩
  have A13 := A3.mono hl3 (Nat.le_refl _)
  have R13 := R3.mono hl3 (Nat.le_refl _)
  have O13 := O3.mono hl3 (Nat.le_refl _)
  have B13 := B3.trans (hl3.mono B3.size)
  have o1 := o1.mono (Nat.le_refl _) hl3 (Nat.le_refl _)
  have o2 := o2.mono (Nat.le_refl _) hl3 (Nat.le_refl _)
  have hk3 : b2 < b3 := by rw [hb3, size_setc]; exact hz2
  have hz3 : b3 < w3.heap.size := o3.lt0
  clear hl3 hb3 A3 R3 O3 B3 hz2
  have xa3 : w3.cell? ⟨w.heap.size, 5, none⟩ = some _ := A13.cell 5
  have xo3 : w3.cell? ⟨w.heap.size + 1 + 1, 4, none⟩ = some (.slice none 0 0) := O13.cell 4
  have xf3 := O13.free 4
  have HH3 : Hid (Box w3 w.heap.size 28 _ ∧ Box w3 (w.heap.size + 1) 36 _ ∧ Box w3 (w.heap.size + 1 + 1) 36 _ ∧ Below w.heap.size w w3) := ⟨A13, R13, O13, B13⟩
  have P3_1 : Hid (Own b1 97 2 w3 (.slice (some ⟨b1, 0, none⟩) r.ns r.ns) (lsF 2 r.ns r.S)) := o1
  have P3_2 : Hid (Own b2 62 2 w3 (.slice (some ⟨b2, 0, none⟩) r.nl r.nl) (lsF 2 r.nl r.L)) := o2
  have P3_3 : Hid (Own b3 3 1 w3 (.slice (some ⟨b3, 0, none⟩) r.nx r.nx) (lsF 1 r.nx r.X)) := o3
  clear A13 R13 O13 B13 o1 o2 o3
  go_wp2_with fail
  obtain ⟨A13, R13, O13, B13⟩ := HH3.out
  have A4 := A13.other (p := ⟨w.heap.size + 1 + 1, 4, none⟩) (by show w.heap.size ≠ w.heap.size + 1 + 1; omega) (.slice (some ⟨b3, 0, none⟩) r.nx r.nx)
  have R4 := R13.other (p := ⟨w.heap.size + 1 + 1, 4, none⟩) (by show w.heap.size + 1 ≠ w.heap.size + 1 + 1; omega) (.slice (some ⟨b3, 0, none⟩) r.nx r.nx)
  have O4 := O13.set 4 (.slice (some ⟨b3, 0, none⟩) r.nx r.nx)
  have B4 := B13.setCell (p := ⟨w.heap.size + 1 + 1, 4, none⟩) (by show w.heap.size ≤ w.heap.size + 1 + 1; omega) (.slice (some ⟨b3, 0, none⟩) r.nx r.nx)
  have o1 := P3_1.out.keep (Nat.le_refl _) (fun g hg => Below.heap_setCell w3 ⟨w.heap.size + 1 + 1, 4, none⟩ (.slice (some ⟨b3, 0, none⟩) r.nx r.nx) g (by simp only [Value.ownBlock, Option.some.injEq] at hg; show g ≠ w.heap.size + 1 + 1; omega))
  have o2 := P3_2.out.keep (Nat.le_refl _) (fun g hg => Below.heap_setCell w3 ⟨w.heap.size + 1 + 1, 4, none⟩ (.slice (some ⟨b3, 0, none⟩) r.nx r.nx) g (by simp only [Value.ownBlock, Option.some.injEq] at hg; show g ≠ w.heap.size + 1 + 1; omega))
  have o3 := P3_3.out.keep (Nat.le_refl _) (fun g hg => Below.heap_setCell w3 ⟨w.heap.size + 1 + 1, 4, none⟩ (.slice (some ⟨b3, 0, none⟩) r.nx r.nx) g (by simp only [Value.ownBlock, Option.some.injEq] at hg; show g ≠ w.heap.size + 1 + 1; omega))
  clear HH3 A13 R13 O13 B13 xa3 xo3 xf3 P3_1 P3_2 P3_3
  refine (toPartS qa r.np qc r.Q _ s4 (H.out.q.mono (Nat.le_refl _) B4 (Nat.le_refl _))).mono ?_
  rintro e w4 ⟨b4, hb4, rfl, o4, hl4⟩
  have A14 := A4.mono hl4 (Nat.le_refl _)
  have R14 := R4.mono hl4 (Nat.le_refl _)
  have O14 := O4.mono hl4 (Nat.le_refl _)
  have B14 := B4.trans (hl4.mono B4.size)
  have o1 := o1.mono (Nat.le_refl _) hl4 (Nat.le_refl _)
  have o2 := o2.mono (Nat.le_refl _) hl4 (Nat.le_refl _)
  have o3 := o3.mono (Nat.le_refl _) hl4 (Nat.le_refl _)
  have hk4 : b3 < b4 := by rw [hb4, size_setc]; exact hz3
  have hz4 : b4 < w4.heap.size := o4.lt0
  clear hl4 hb4 A4 R4 O4 B4 hz3
  have xa4 : w4.cell? ⟨w.heap.size, 6, none⟩ = some _ := A14.cell 6
  have xo4 : w4.cell? ⟨w.heap.size + 1 + 1, 5, none⟩ = some (.slice none 0 0) := O14.cell 5
  have xf4 := O14.free 5
  have HH4 : Hid (Box w4 w.heap.size 28 _ ∧ Box w4 (w.heap.size + 1) 36 _ ∧ Box w4 (w.heap.size + 1 + 1) 36 _ ∧ Below w.heap.size w w4) := ⟨A14, R14, O14, B14⟩
  have P4_1 : Hid (Own b1 97 2 w4 (.slice (some ⟨b1, 0, none⟩) r.ns r.ns) (lsF 2 r.ns r.S)) := o1
  have P4_2 : Hid (Own b2 62 2 w4 (.slice (some ⟨b2, 0, none⟩) r.nl r.nl) (lsF 2 r.nl r.L)) := o2
  have P4_3 : Hid (Own b3 3 1 w4 (.slice (some ⟨b3, 0, none⟩) r.nx r.nx) (lsF 1 r.nx r.X)) := o3
  have P4_4 : Hid (Own b4 103 3 w4 (.slice (some ⟨b4, 0, none⟩) r.np r.np) (lsF 3 r.np r.Q)) := o4
  clear A14 R14 O14 B14 o1 o2 o3 o4
  go_wp2_with fail
  obtain ⟨A14, R14, O14, B14⟩ := HH4.out
  have A5 := A14.other (p := ⟨w.heap.size + 1 + 1, 5, none⟩) (by show w.heap.size ≠ w.heap.size + 1 + 1; omega) (.slice (some ⟨b4, 0, none⟩) r.np r.np)
  have R5 := R14.other (p := ⟨w.heap.size + 1 + 1, 5, none⟩) (by show w.heap.size + 1 ≠ w.heap.size + 1 + 1; omega) (.slice (some ⟨b4, 0, none⟩) r.np r.np)
  have O5 := O14.set 5 (.slice (some ⟨b4, 0, none⟩) r.np r.np)
  have B5 := B14.setCell (p := ⟨w.heap.size + 1 + 1, 5, none⟩) (by show w.heap.size ≤ w.heap.size + 1 + 1; omega) (.slice (some ⟨b4, 0, none⟩) r.np r.np)
  have o1 := P4_1.out.keep (Nat.le_refl _) (fun g hg => Below.heap_setCell w4 ⟨w.heap.size + 1 + 1, 5, none⟩ (.slice (some ⟨b4, 0, none⟩) r.np r.np) g (by simp only [Value.ownBlock, Option.some.injEq] at hg; show g ≠ w.heap.size + 1 + 1; omega))
  have o2 := P4_2.out.keep (Nat.le_refl _) (fun g hg => Below.heap_setCell w4 ⟨w.heap.size + 1 + 1, 5, none⟩ (.slice (some ⟨b4, 0, none⟩) r.np r.np) g (by simp only [Value.ownBlock, Option.some.injEq] at hg; show g ≠ w.heap.size + 1 + 1; omega))
  have o3 := P4_3.out.keep (Nat.le_refl _) (fun g hg => Below.heap_setCell w4 ⟨w.heap.size + 1 + 1, 5, none⟩ (.slice (some ⟨b4, 0, none⟩) r.np r.np) g (by simp only [Value.ownBlock, Option.some.injEq] at hg; show g ≠ w.heap.size + 1 + 1; omega))
  have o4 := P4_4.out.keep (Nat.le_refl _) (fun g hg => Below.heap_setCell w4 ⟨w.heap.size + 1 + 1, 5, none⟩ (.slice (some ⟨b4, 0, none⟩) r.np r.np) g (by simp only [Value.ownBlock, Option.some.injEq] at hg; show g ≠ w.heap.size + 1 + 1; omega))
  clear HH4 A14 R14 O14 B14 xa4 xo4 xf4 P4_1 P4_2 P4_3 P4_4
  refine (toPartS oa r.no oc r.O _ s5 (H.out.o.mono (Nat.le_refl _) B5 (Nat.le_refl _))).mono ?_
  rintro e w5 ⟨b5, hb5, rfl, o5, hl5⟩
  have A15 := A5.mono hl5 (Nat.le_refl _)
  have R15 := R5.mono hl5 (Nat.le_refl _)
  have O15 := O5.mono hl5 (Nat.le_refl _)
  have B15 := B5.trans (hl5.mono B5.size)
  have o1 := o1.mono (Nat.le_refl _) hl5 (Nat.le_refl _)
  have o2 := o2.mono (Nat.le_refl _) hl5 (Nat.le_refl _)
  have o3 := o3.mono (Nat.le_refl _) hl5 (Nat.le_refl _)
  have o4 := o4.mono (Nat.le_refl _) hl5 (Nat.le_refl _)
  have hk5 : b4 < b5 := by rw [hb5, size_setc]; exact hz4
  have hz5 : b5 < w5.heap.size := o5.lt0
  clear hl5 hb5 A5 R5 O5 B5 hz4
  have xa5 : w5.cell? ⟨w.heap.size, 7, none⟩ = some _ := A15.cell 7
  have xo5 : w5.cell? ⟨w.heap.size + 1 + 1, 6, none⟩ = some (.slice none 0 0) := O15.cell 6
  have xf5 := O15.free 6
  have HH5 : Hid (Box w5 w.heap.size 28 _ ∧ Box w5 (w.heap.size + 1) 36 _ ∧ Box w5 (w.heap.size + 1 + 1) 36 _ ∧ Below w.heap.size w w5) := ⟨A15, R15, O15, B15⟩
  have P5_1 : Hid (Own b1 97 2 w5 (.slice (some ⟨b1, 0, none⟩) r.ns r.ns) (lsF 2 r.ns r.S)) := o1
  have P5_2 : Hid (Own b2 62 2 w5 (.slice (some ⟨b2, 0, none⟩) r.nl r.nl) (lsF 2 r.nl r.L)) := o2
  have P5_3 : Hid (Own b3 3 1 w5 (.slice (some ⟨b3, 0, none⟩) r.nx r.nx) (lsF 1 r.nx r.X)) := o3
  have P5_4 : Hid (Own b4 103 3 w5 (.slice (some ⟨b4, 0, none⟩) r.np r.np) (lsF 3 r.np r.Q)) := o4
  have P5_5 : Hid (Own b5 103 3 w5 (.slice (some ⟨b5, 0, none⟩) r.no r.no) (lsF 3 r.no r.O)) := o5
  clear A15 R15 O15 B15 o1 o2 o3 o4 o5
  go_wp2_with fail
  obtain ⟨A15, R15, O15, B15⟩ := HH5.out
  have A6 := A15.other (p := ⟨w.heap.size + 1 + 1, 6, none⟩) (by show w.heap.size ≠ w.heap.size + 1 + 1; omega) (.slice (some ⟨b5, 0, none⟩) r.no r.no)
  have R6 := R15.other (p := ⟨w.heap.size + 1 + 1, 6, none⟩) (by show w.heap.size + 1 ≠ w.heap.size + 1 + 1; omega) (.slice (some ⟨b5, 0, none⟩) r.no r.no)
  have O6 := O15.set 6 (.slice (some ⟨b5, 0, none⟩) r.no r.no)
  have B6 := B15.setCell (p := ⟨w.heap.size + 1 + 1, 6, none⟩) (by show w.heap.size ≤ w.heap.size + 1 + 1; omega) (.slice (some ⟨b5, 0, none⟩) r.no r.no)
  have o1 := P5_1.out.keep (Nat.le_refl _) (fun g hg => Below.heap_setCell w5 ⟨w.heap.size + 1 + 1, 6, none⟩ (.slice (some ⟨b5, 0, none⟩) r.no r.no) g (by simp only [Value.ownBlock, Option.some.injEq] at hg; show g ≠ w.heap.size + 1 + 1; omega))
  have o2 := P5_2.out.keep (Nat.le_refl _) (fun g hg => Below.heap_setCell w5 ⟨w.heap.size + 1 + 1, 6, none⟩ (.slice (some ⟨b5, 0, none⟩) r.no r.no) g (by simp only [Value.ownBlock, Option.some.injEq] at hg; show g ≠ w.heap.size + 1 + 1; omega))
  have o3 := P5_3.out.keep (Nat.le_refl _) (fun g hg => Below.heap_setCell w5 ⟨w.heap.size + 1 + 1, 6, none⟩ (.slice (some ⟨b5, 0, none⟩) r.no r.no) g (by simp only [Value.ownBlock, Option.some.injEq] at hg; show g ≠ w.heap.size + 1 + 1; omega))
  have o4 := P5_4.out.keep (Nat.le_refl _) (fun g hg => Below.heap_setCell w5 ⟨w.heap.size + 1 + 1, 6, none⟩ (.slice (some ⟨b5, 0, none⟩) r.no r.no) g (by simp only [Value.ownBlock, Option.some.injEq] at hg; show g ≠ w.heap.size + 1 + 1; omega))
  have o5 := P5_5.out.keep (Nat.le_refl _) (fun g hg => Below.heap_setCell w5 ⟨w.heap.size + 1 + 1, 6, none⟩ (.slice (some ⟨b5, 0, none⟩) r.no r.no) g (by simp only [Value.ownBlock, Option.some.injEq] at hg; show g ≠ w.heap.size + 1 + 1; omega))
  clear HH5 A15 R15 O15 B15 xa5 xo5 xf5 P5_1 P5_2 P5_3 P5_4 P5_5
  refine (toFlankS fa r.nf fc r.F _ s6 (H.out.f.mono (Nat.le_refl _) B6 (Nat.le_refl _))).mono ?_
  rintro e w6 ⟨b6, hb6, rfl, o6, hl6⟩
  have A16 := A6.mono hl6 (Nat.le_refl _)
  have R16 := R6.mono hl6 (Nat.le_refl _)
  have O16 := O6.mono hl6 (Nat.le_refl _)
  have B16 := B6.trans (hl6.mono B6.size)
  have o1 := o1.mono (Nat.le_refl _) hl6 (Nat.le_refl _)
  have o2 := o2.mono (Nat.le_refl _) hl6 (Nat.le_refl _)
  have o3 := o3.mono (Nat.le_refl _) hl6 (Nat.le_refl _)
  have o4 := o4.mono (Nat.le_refl _) hl6 (Nat.le_refl _)
  have o5 := o5.mono (Nat.le_refl _) hl6 (Nat.le_refl _)
  have hk6 : b5 < b6 := by rw [hb6, size_setc]; exact hz5
  have hz6 : b6 < w6.heap.size := o6.lt0
  clear hl6 hb6 A6 R6 O6 B6 hz5
  have xo60 : w6.cell? ⟨w.heap.size + 1 + 1, 0, none⟩ = some _ := O16.cell 0
  have xr60 : w6.cell? ⟨w.heap.size + 1, 0, none⟩ = some _ := R16.cell 0
  have xg60 := R16.free 0
  have xo61 : w6.cell? ⟨w.heap.size + 1 + 1, 1, none⟩ = some _ := O16.cell 1
  have xr61 : w6.cell? ⟨w.heap.size + 1, 1, none⟩ = some _ := R16.cell 1
  have xg61 := R16.free 1
  have xo62 : w6.cell? ⟨w.heap.size + 1 + 1, 2, none⟩ = some _ := O16.cell 2
  have xr62 : w6.cell? ⟨w.heap.size + 1, 2, none⟩ = some _ := R16.cell 2
  have xg62 := R16.free 2
  have xo63 : w6.cell? ⟨w.heap.size + 1 + 1, 3, none⟩ = some _ := O16.cell 3
  have xr63 : w6.cell? ⟨w.heap.size + 1, 3, none⟩ = some _ := R16.cell 3
  have xg63 := R16.free 3
  have xo64 : w6.cell? ⟨w.heap.size + 1 + 1, 4, none⟩ = some _ := O16.cell 4
  have xr64 : w6.cell? ⟨w.heap.size + 1, 4, none⟩ = some _ := R16.cell 4
  have xg64 := R16.free 4
  have xo65 : w6.cell? ⟨w.heap.size + 1 + 1, 5, none⟩ = some _ := O16.cell 5
  have xr65 : w6.cell? ⟨w.heap.size + 1, 5, none⟩ = some _ := R16.cell 5
  have xg65 := R16.free 5
  have xo66 : w6.cell? ⟨w.heap.size + 1 + 1, 6, none⟩ = some _ := O16.cell 6
  have xr66 : w6.cell? ⟨w.heap.size + 1, 6, none⟩ = some _ := R16.cell 6
  have xg66 := R16.free 6
  have xo67 : w6.cell? ⟨w.heap.size + 1 + 1, 7, none⟩ = some _ := O16.cell 7
  have xr67 : w6.cell? ⟨w.heap.size + 1, 7, none⟩ = some _ := R16.cell 7
  have xg67 := R16.free 7
  have xf6 := O16.free 7
  have HH6 : Hid (Box w6 w.heap.size 28 _ ∧ Box w6 (w.heap.size + 1) 36 _ ∧ Box w6 (w.heap.size + 1 + 1) 36 _ ∧ Below w.heap.size w w6) := ⟨A16, R16, O16, B16⟩
  have P6_1 : Hid (Own b1 97 2 w6 (.slice (some ⟨b1, 0, none⟩) r.ns r.ns) (lsF 2 r.ns r.S)) := o1
  have P6_2 : Hid (Own b2 62 2 w6 (.slice (some ⟨b2, 0, none⟩) r.nl r.nl) (lsF 2 r.nl r.L)) := o2
  have P6_3 : Hid (Own b3 3 1 w6 (.slice (some ⟨b3, 0, none⟩) r.nx r.nx) (lsF 1 r.nx r.X)) := o3
  have P6_4 : Hid (Own b4 103 3 w6 (.slice (some ⟨b4, 0, none⟩) r.np r.np) (lsF 3 r.np r.Q)) := o4
  have P6_5 : Hid (Own b5 103 3 w6 (.slice (some ⟨b5, 0, none⟩) r.no r.no) (lsF 3 r.no r.O)) := o5
  have P6_6 : Hid (Own b6 64 4 w6 (.slice (some ⟨b6, 0, none⟩) r.nf r.nf) (lsF 4 r.nf r.F)) := o6
  clear A16 R16 O16 B16 o1 o2 o3 o4 o5 o6
  go_wp2_with fail
  refine bodyPost_ret (v := .agg #[.int .i64 r.fr, .int .i64 r.to, .slice (some ⟨b1, 0, none⟩) r.ns r.ns, .slice (some ⟨b2, 0, none⟩) r.nl r.nl, .slice (some ⟨b3, 0, none⟩) r.nx r.nx, .slice (some ⟨b4, 0, none⟩) r.np r.np, .slice (some ⟨b5, 0, none⟩) r.no r.no, .slice (some ⟨b6, 0, none⟩) r.nf r.nf]) (by simp [results, Try.results8, go_sem, xr60, xr61, xr62, xr63, xr64, xr65, xr66, xr67]) rfl ⟨b1, b2, b3, b4, b5, b6, rfl, ?_, ?_⟩
  · have hz0 : w.heap.size + 1 + 1 < b1 := hk1
    refine ⟨by omega, hk2, hk3, hk4, hk5, hk6, P6_1.out.keep (Nat.le_refl _) (fun g hg => ?_), P6_2.out.keep (Nat.le_refl _) (fun g hg => ?_), P6_3.out.keep (Nat.le_refl _) (fun g hg => ?_), P6_4.out.keep (Nat.le_refl _) (fun g hg => ?_), P6_5.out.keep (Nat.le_refl _) (fun g hg => ?_), P6_6.out.keep (Nat.le_refl _) (fun g hg => ?_)⟩
    all_goals
      simp only [Value.ownBlock, Option.some.injEq] at hg
      have h1 : g ≠ w.heap.size + 1 := by omega
      have h2 : g ≠ w.heap.size + 1 + 1 := by omega
      rw [Below.heap_setCell _ _ _ _ h1, Below.heap_setCell _ _ _ _ h1, Below.heap_setCell _ _ _ _ h1, Below.heap_setCell _ _ _ _ h1, Below.heap_setCell _ _ _ _ h1, Below.heap_setCell _ _ _ _ h1, Below.heap_setCell _ _ _ _ h1, Below.heap_setCell _ _ _ _ h1, Below.heap_setCell _ _ _ _ h2]
  · obtain ⟨_, _, _, B16⟩ := HH6.out
    have h1 : w.heap.size ≤ w.heap.size + 1 := by omega
    have h2 : w.heap.size ≤ w.heap.size + 1 + 1 := by omega
    exact ((((((((B16.setCell h2 _).setCell h1 _).setCell h1 _).setCell h1 _).setCell h1 _).setCell h1 _).setCell h1 _).setCell h1 _).setCell h1 _

end Go.Proofs.Ytpghgdnhfhdgmaa
