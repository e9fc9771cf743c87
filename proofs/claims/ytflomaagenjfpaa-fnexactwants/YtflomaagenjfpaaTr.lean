import Derived.Test.YtflomaagenjfpaaTo
namespace Go.Proofs.Ytflomaagenjfpaa
open Go.RowKit

set_option maxRecDepth 100000 in
set_option maxHeartbeats 4000000 in
theorem toRow (r : Rw) (xa fa oa ka : Option Addr) (xc fc oc kc : Nat) (w : World) (hs : r.small) (h : RwIn 0 w r xa fa oa ka) :
    Calls Try.prog 8 #[.agg #[.slice xa r.nn xc, .slice fa r.nf fc, .slice oa r.no oc, .slice ka r.nk kc]] w fun e w' => ∃ xb fb ob kb rr, e = .returned (.agg #[.slice (some ⟨xb, 0, none⟩) r.nn r.nn, .slice (some ⟨fb, 0, none⟩) r.nf r.nf, .slice (some ⟨ob, 0, none⟩) r.no r.no, .slice (some ⟨kb, 0, none⟩) r.nk r.nk]) ∧ RwOwn w.heap.size w' r xb fb ob kb rr ∧ Below w.heap.size w w' := by
  obtain ⟨s1, s2, s3, s4, s5⟩ := hs
  have HS : Hid (∀ i, i < r.nk → r.K i ≤ 1048576) := s5
  have H : Hid (RwIn 0 w r xa fa oa ka) := h
  clear h s5
  go_enter Try.func8, Try.ntmps8
  go_wp2_with fail
  have A1 : Box (((w.alloc (.cells #[.slice xa r.nn xc, .slice fa r.nf fc, .slice oa r.no oc, .slice ka r.nk kc] 26)).alloc (.cells #[.slice none 0 0, .slice none 0 0, .slice none 0 0, .slice none 0 0] 29)).alloc (.cells #[.slice none 0 0, .slice none 0 0, .slice none 0 0, .slice none 0 0] 29)) w.heap.size 26 #[.slice xa r.nn xc, .slice fa r.nf fc, .slice oa r.no oc, .slice ka r.nk kc] := ((Box.new w 26 _).alloc _).alloc _
  have R1 : Box (((w.alloc (.cells #[.slice xa r.nn xc, .slice fa r.nf fc, .slice oa r.no oc, .slice ka r.nk kc] 26)).alloc (.cells #[.slice none 0 0, .slice none 0 0, .slice none 0 0, .slice none 0 0] 29)).alloc (.cells #[.slice none 0 0, .slice none 0 0, .slice none 0 0, .slice none 0 0] 29)) (w.heap.size + 1) 29 #[.slice none 0 0, .slice none 0 0, .slice none 0 0, .slice none 0 0] := by have := (Box.new (w.alloc (.cells #[.slice xa r.nn xc, .slice fa r.nf fc, .slice oa r.no oc, .slice ka r.nk kc] 26)) 29 #[.slice none 0 0, .slice none 0 0, .slice none 0 0, .slice none 0 0]).alloc (.cells #[.slice none 0 0, .slice none 0 0, .slice none 0 0, .slice none 0 0] 29); simpa using this
  have O1 : Box (((w.alloc (.cells #[.slice xa r.nn xc, .slice fa r.nf fc, .slice oa r.no oc, .slice ka r.nk kc] 26)).alloc (.cells #[.slice none 0 0, .slice none 0 0, .slice none 0 0, .slice none 0 0] 29)).alloc (.cells #[.slice none 0 0, .slice none 0 0, .slice none 0 0, .slice none 0 0] 29)) (w.heap.size + 1 + 1) 29 #[.slice none 0 0, .slice none 0 0, .slice none 0 0, .slice none 0 0] := by have := Box.new ((w.alloc (.cells #[.slice xa r.nn xc, .slice fa r.nf fc, .slice oa r.no oc, .slice ka r.nk kc] 26)).alloc (.cells #[.slice none 0 0, .slice none 0 0, .slice none 0 0, .slice none 0 0] 29)) 29 #[.slice none 0 0, .slice none 0 0, .slice none 0 0, .slice none 0 0]; simpa using this
  have B1 : Below w.heap.size w (((w.alloc (.cells #[.slice xa r.nn xc, .slice fa r.nf fc, .slice oa r.no oc, .slice ka r.nk kc] 26)).alloc (.cells #[.slice none 0 0, .slice none 0 0, .slice none 0 0, .slice none 0 0] 29)).alloc (.cells #[.slice none 0 0, .slice none 0 0, .slice none 0 0, .slice none 0 0] 29)) := bel3 w _ _ _
  refine (toIntS xa r.nn xc r.X _ s1 (H.out.x.mono (Nat.le_refl _) B1 (Nat.le_refl _))).mono ?_
  rintro e w1 ⟨xb, hb1, rfl, o1, hl1⟩
  have A11 := A1.mono hl1 (Nat.le_refl _)
  have R11 := R1.mono hl1 (Nat.le_refl _)
  have O11 := O1.mono hl1 (Nat.le_refl _)
  have B11 := B1.trans (hl1.mono B1.size)
  have hk1 : w.heap.size + 1 + 1 < xb := by rw [hb1]; simp
  have hz1 : xb < w1.heap.size := (o1.lt rfl).2
  clear hl1 hb1 A1 R1 O1 B1
  have xa1 : w1.cell? ⟨w.heap.size, 1, none⟩ = some _ := A11.cell 1
  have xo1 : w1.cell? ⟨w.heap.size + 1 + 1, 0, none⟩ = some (.slice none 0 0) := O11.cell 0
  have xf1 := O11.free 0
  have HH1 : Hid (Box w1 w.heap.size 26 _ ∧ Box w1 (w.heap.size + 1) 29 _ ∧ Box w1 (w.heap.size + 1 + 1) 29 _ ∧ Below w.heap.size w w1) := ⟨A11, R11, O11, B11⟩
  have P1_1 : Hid (VOwn xb 3 1 w1 (.slice (some ⟨xb, 0, none⟩) r.nn r.nn) r.nn (oneF r.X)) := o1
  clear A11 R11 O11 B11 o1
  go_wp2_with fail
  obtain ⟨A11, R11, O11, B11⟩ := HH1.out
  have A2 := A11.other (p := ⟨w.heap.size + 1 + 1, 0, none⟩) (by show w.heap.size ≠ w.heap.size + 1 + 1; omega) (.slice (some ⟨xb, 0, none⟩) r.nn r.nn)
  have R2 := R11.other (p := ⟨w.heap.size + 1 + 1, 0, none⟩) (by show w.heap.size + 1 ≠ w.heap.size + 1 + 1; omega) (.slice (some ⟨xb, 0, none⟩) r.nn r.nn)
  have O2 := O11.set 0 (.slice (some ⟨xb, 0, none⟩) r.nn r.nn)
  have B2 := B11.setCell (p := ⟨w.heap.size + 1 + 1, 0, none⟩) (by show w.heap.size ≤ w.heap.size + 1 + 1; omega) (.slice (some ⟨xb, 0, none⟩) r.nn r.nn)
  have o1 := P1_1.out.keep (Nat.le_refl _) (fun g hg => Below.heap_setCell w1 ⟨w.heap.size + 1 + 1, 0, none⟩ (.slice (some ⟨xb, 0, none⟩) r.nn r.nn) g (by have := own_block hg; show g ≠ w.heap.size + 1 + 1; omega))
  clear HH1 A11 R11 O11 B11 xa1 xo1 xf1 P1_1
  refine (toIntS fa r.nf fc r.F _ s2 (H.out.f.mono (Nat.le_refl _) B2 (Nat.le_refl _))).mono ?_
  rintro e w2 ⟨fb, hb2, rfl, o2, hl2⟩
  have A12 := A2.mono hl2 (Nat.le_refl _)
  have R12 := R2.mono hl2 (Nat.le_refl _)
  have O12 := O2.mono hl2 (Nat.le_refl _)
  have B12 := B2.trans (hl2.mono B2.size)
  have o1 := o1.mono (Nat.le_refl _) hl2 (Nat.le_refl _)
  have hk2 : xb < fb := by rw [hb2, size_setc]; exact hz1
  have hz2 : fb < w2.heap.size := (o2.lt rfl).2
  clear hl2 hb2 A2 R2 O2 B2 hz1
  have xa2 : w2.cell? ⟨w.heap.size, 2, none⟩ = some _ := A12.cell 2
  have xo2 : w2.cell? ⟨w.heap.size + 1 + 1, 1, none⟩ = some (.slice none 0 0) := O12.cell 1
  have xf2 := O12.free 1
  have HH2 : Hid (Box w2 w.heap.size 26 _ ∧ Box w2 (w.heap.size + 1) 29 _ ∧ Box w2 (w.heap.size + 1 + 1) 29 _ ∧ Below w.heap.size w w2) := ⟨A12, R12, O12, B12⟩
  have P2_1 : Hid (VOwn xb 3 1 w2 (.slice (some ⟨xb, 0, none⟩) r.nn r.nn) r.nn (oneF r.X)) := o1
  have P2_2 : Hid (VOwn fb 3 1 w2 (.slice (some ⟨fb, 0, none⟩) r.nf r.nf) r.nf (oneF r.F)) := o2
  clear A12 R12 O12 B12 o1 o2
  go_wp2_with fail
  obtain ⟨A12, R12, O12, B12⟩ := HH2.out
  have A3 := A12.other (p := ⟨w.heap.size + 1 + 1, 1, none⟩) (by show w.heap.size ≠ w.heap.size + 1 + 1; omega) (.slice (some ⟨fb, 0, none⟩) r.nf r.nf)
  have R3 := R12.other (p := ⟨w.heap.size + 1 + 1, 1, none⟩) (by show w.heap.size + 1 ≠ w.heap.size + 1 + 1; omega) (.slice (some ⟨fb, 0, none⟩) r.nf r.nf)
  have O3 := O12.set 1 (.slice (some ⟨fb, 0, none⟩) r.nf r.nf)
  have B3 := B12.setCell (p := ⟨w.heap.size + 1 + 1, 1, none⟩) (by show w.heap.size ≤ w.heap.size + 1 + 1; omega) (.slice (some ⟨fb, 0, none⟩) r.nf r.nf)
  have o1 := P2_1.out.keep (Nat.le_refl _) (fun g hg => Below.heap_setCell w2 ⟨w.heap.size + 1 + 1, 1, none⟩ (.slice (some ⟨fb, 0, none⟩) r.nf r.nf) g (by have := own_block hg; show g ≠ w.heap.size + 1 + 1; omega))
  have o2 := P2_2.out.keep (Nat.le_refl _) (fun g hg => Below.heap_setCell w2 ⟨w.heap.size + 1 + 1, 1, none⟩ (.slice (some ⟨fb, 0, none⟩) r.nf r.nf) g (by have := own_block hg; show g ≠ w.heap.size + 1 + 1; omega))
  clear HH2 A12 R12 O12 B12 xa2 xo2 xf2 P2_1 P2_2
  refine (toBoolS oa r.no oc r.O _ s3 (H.out.o.mono (Nat.le_refl _) B3 (Nat.le_refl _))).mono ?_
  rintro e w3 ⟨ob, hb3, rfl, o3, hl3⟩
  have A13 := A3.mono hl3 (Nat.le_refl _)
  have R13 := R3.mono hl3 (Nat.le_refl _)
  have O13 := O3.mono hl3 (Nat.le_refl _)
  have B13 := B3.trans (hl3.mono B3.size)
  have o1 := o1.mono (Nat.le_refl _) hl3 (Nat.le_refl _)
  have o2 := o2.mono (Nat.le_refl _) hl3 (Nat.le_refl _)
  have hk3 : fb < ob := by rw [hb3, size_setc]; exact hz2
  have hz3 : ob < w3.heap.size := (o3.lt rfl).2
  clear hl3 hb3 A3 R3 O3 B3 hz2
  have xa3 : w3.cell? ⟨w.heap.size, 3, none⟩ = some _ := A13.cell 3
  have xo3 : w3.cell? ⟨w.heap.size + 1 + 1, 2, none⟩ = some (.slice none 0 0) := O13.cell 2
  have xf3 := O13.free 2
  have HH3 : Hid (Box w3 w.heap.size 26 _ ∧ Box w3 (w.heap.size + 1) 29 _ ∧ Box w3 (w.heap.size + 1 + 1) 29 _ ∧ Below w.heap.size w w3) := ⟨A13, R13, O13, B13⟩
  have P3_1 : Hid (VOwn xb 3 1 w3 (.slice (some ⟨xb, 0, none⟩) r.nn r.nn) r.nn (oneF r.X)) := o1
  have P3_2 : Hid (VOwn fb 3 1 w3 (.slice (some ⟨fb, 0, none⟩) r.nf r.nf) r.nf (oneF r.F)) := o2
  have P3_3 : Hid (VOwn ob 4 1 w3 (.slice (some ⟨ob, 0, none⟩) r.no r.no) r.no (boolF r.O)) := o3
  clear A13 R13 O13 B13 o1 o2 o3
  go_wp2_with fail
  obtain ⟨A13, R13, O13, B13⟩ := HH3.out
  have A4 := A13.other (p := ⟨w.heap.size + 1 + 1, 2, none⟩) (by show w.heap.size ≠ w.heap.size + 1 + 1; omega) (.slice (some ⟨ob, 0, none⟩) r.no r.no)
  have R4 := R13.other (p := ⟨w.heap.size + 1 + 1, 2, none⟩) (by show w.heap.size + 1 ≠ w.heap.size + 1 + 1; omega) (.slice (some ⟨ob, 0, none⟩) r.no r.no)
  have O4 := O13.set 2 (.slice (some ⟨ob, 0, none⟩) r.no r.no)
  have B4 := B13.setCell (p := ⟨w.heap.size + 1 + 1, 2, none⟩) (by show w.heap.size ≤ w.heap.size + 1 + 1; omega) (.slice (some ⟨ob, 0, none⟩) r.no r.no)
  have o1 := P3_1.out.keep (Nat.le_refl _) (fun g hg => Below.heap_setCell w3 ⟨w.heap.size + 1 + 1, 2, none⟩ (.slice (some ⟨ob, 0, none⟩) r.no r.no) g (by have := own_block hg; show g ≠ w.heap.size + 1 + 1; omega))
  have o2 := P3_2.out.keep (Nat.le_refl _) (fun g hg => Below.heap_setCell w3 ⟨w.heap.size + 1 + 1, 2, none⟩ (.slice (some ⟨ob, 0, none⟩) r.no r.no) g (by have := own_block hg; show g ≠ w.heap.size + 1 + 1; omega))
  have o3 := P3_3.out.keep (Nat.le_refl _) (fun g hg => Below.heap_setCell w3 ⟨w.heap.size + 1 + 1, 2, none⟩ (.slice (some ⟨ob, 0, none⟩) r.no r.no) g (by have := own_block hg; show g ≠ w.heap.size + 1 + 1; omega))
  clear HH3 A13 R13 O13 B13 xa3 xo3 xf3 P3_1 P3_2 P3_3
  refine (toBoolSS ka r.nk kc r.K r.T _ s4 (H.out.k.mono (Nat.le_refl _) B4 (Nat.le_refl _)) HS.out).mono ?_
  rintro e w4 ⟨kb, rr, hb4, rfl, o4, hl4⟩
  have A14 := A4.mono hl4 (Nat.le_refl _)
  have R14 := R4.mono hl4 (Nat.le_refl _)
  have O14 := O4.mono hl4 (Nat.le_refl _)
  have B14 := B4.trans (hl4.mono B4.size)
  have o1 := o1.mono (Nat.le_refl _) hl4 (Nat.le_refl _)
  have o2 := o2.mono (Nat.le_refl _) hl4 (Nat.le_refl _)
  have o3 := o3.mono (Nat.le_refl _) hl4 (Nat.le_refl _)
  have hk4 : ob < kb := by rw [hb4, size_setc]; exact hz3
  have hz4 : kb < w4.heap.size := o4.lt
  clear hl4 hb4 A4 R4 O4 B4 hz3
  have xo4 : w4.cell? ⟨w.heap.size + 1 + 1, 3, none⟩ = some (.slice none 0 0) := O14.cell 3
  have xf4 := O14.free 3
  have yo0 : w4.cell? ⟨w.heap.size + 1 + 1, 0, none⟩ = some (.slice (some ⟨xb, 0, none⟩) r.nn r.nn) := O14.cell 0
  have yo1 : w4.cell? ⟨w.heap.size + 1 + 1, 1, none⟩ = some (.slice (some ⟨fb, 0, none⟩) r.nf r.nf) := O14.cell 1
  have yo2 : w4.cell? ⟨w.heap.size + 1 + 1, 2, none⟩ = some (.slice (some ⟨ob, 0, none⟩) r.no r.no) := O14.cell 2
  have xr0 : w4.cell? ⟨w.heap.size + 1, 0, none⟩ = some (.slice none 0 0) := R14.cell 0
  have xg0 := R14.free 0
  have xr1 : w4.cell? ⟨w.heap.size + 1, 1, none⟩ = some (.slice none 0 0) := R14.cell 1
  have xg1 := R14.free 1
  have xr2 : w4.cell? ⟨w.heap.size + 1, 2, none⟩ = some (.slice none 0 0) := R14.cell 2
  have xg2 := R14.free 2
  have xr3 : w4.cell? ⟨w.heap.size + 1, 3, none⟩ = some (.slice none 0 0) := R14.cell 3
  have xg3 := R14.free 3
  have HH4 : Hid (Box w4 w.heap.size 26 _ ∧ Box w4 (w.heap.size + 1) 29 _ ∧ Box w4 (w.heap.size + 1 + 1) 29 _ ∧ Below w.heap.size w w4) := ⟨A14, R14, O14, B14⟩
  have P4_1 : Hid (VOwn xb 3 1 w4 (.slice (some ⟨xb, 0, none⟩) r.nn r.nn) r.nn (oneF r.X)) := o1
  have P4_2 : Hid (VOwn fb 3 1 w4 (.slice (some ⟨fb, 0, none⟩) r.nf r.nf) r.nf (oneF r.F)) := o2
  have P4_3 : Hid (VOwn ob 4 1 w4 (.slice (some ⟨ob, 0, none⟩) r.no r.no) r.no (boolF r.O)) := o3
  have P4_4 : Hid (BsOwn w4 kb r.nk r.nk r.K r.T rr) := o4
  clear A14 R14 O14 B14 o1 o2 o3 o4
  go_wp2_with fail
  refine bodyPost_ret (v := .agg #[.slice (some ⟨xb, 0, none⟩) r.nn r.nn, .slice (some ⟨fb, 0, none⟩) r.nf r.nf, .slice (some ⟨ob, 0, none⟩) r.no r.no, .slice (some ⟨kb, 0, none⟩) r.nk r.nk]) (by simp [results, Try.results8, go_sem, xr0, xr1, xr2, xr3]) rfl ⟨xb, fb, ob, kb, rr, rfl, ?_, ?_⟩
  · have hQ : RwOwn (w.heap.size + 1 + 1 + 1) w4 r xb fb ob kb rr := ⟨by omega, hk2, hk3, hk4, P4_1.out, P4_2.out, P4_3.out, P4_4.out⟩
    refine hQ.keep (by omega) fun g hg => ?_
    have h1 : g ≠ w.heap.size + 1 := by omega
    have h2 : g ≠ w.heap.size + 1 + 1 := by omega
    rw [Below.heap_setCell _ _ _ _ h1, Below.heap_setCell _ _ _ _ h1, Below.heap_setCell _ _ _ _ h1, Below.heap_setCell _ _ _ _ h1, Below.heap_setCell _ _ _ _ h2]
  · obtain ⟨_, _, _, B13⟩ := HH4.out
    have h1 : w.heap.size ≤ w.heap.size + 1 := by omega
    have h2 : w.heap.size ≤ w.heap.size + 1 + 1 := by omega
    exact ((((B13.setCell h2 _).setCell h1 _).setCell h1 _).setCell h1 _).setCell h1 _

end Go.Proofs.Ytflomaagenjfpaa
