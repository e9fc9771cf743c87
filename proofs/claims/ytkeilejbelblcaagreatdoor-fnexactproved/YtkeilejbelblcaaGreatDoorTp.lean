import Derived.Test.YtkeilejbelblcaaGreatDoorGTsTb
import Derived.Test.YtkeilejbelblcaaGreatDoorGMdSz
namespace Go.Proofs.YtkeilejbelblcaaGreatDoor
open Go.RowKit

theorem WsOwn.keep {w w' : World} {b n k : Nat} {Y : Nat → Wy} {lo : Nat → Nat} (h : WsOwn w b n k Y lo) (hs : w.heap.size ≤ w'.heap.size) (hk : ∀ g, b ≤ g → w'.heap[g]? = w.heap[g]?) : WsOwn w' b n k Y lo := by
  obtain ⟨vs, h1, h2, h3, h4, h5, h6⟩ := h
  refine ⟨vs, h1.keep (hk b (Nat.le_refl _)), h2, h3, Nat.le_trans h4 hs, h5, fun i hi => ?_⟩
  obtain ⟨b1, b2, b3, b4, b5, hr⟩ := h6 i hi
  exact ⟨b1, b2, b3, b4, b5, hr.keep fun g hg _ => hk g (by have := h5 0 i (Nat.zero_le _) (by omega); omega)⟩
theorem BsOwn.keep {w w' : World} {b n k : Nat} {K : Nat → Nat} {T : Nat → Nat → Bool} {r : Nat → Nat} (h : BsOwn w b n k K T r) (hk : ∀ g, b ≤ g → w'.heap[g]? = w.heap[g]?) : BsOwn w' b n k K T r := by
  obtain ⟨vs, h1, h2, h3⟩ := h
  refine ⟨vs, h1.keep (hk b (Nat.le_refl _)), h2, fun i hi => ?_⟩
  obtain ⟨e1, e2, e3, e4⟩ := h3 i hi
  exact ⟨e1, e2.keep (Nat.le_refl _) fun g hg => hk g (by simp only [Value.ownBlock, Option.some.injEq] at hg; omega), e3, e4⟩
/-- a plan of one's own -/
structure PlOwn (C : Nat) (w : World) (p : Pl) (wb yb bb : Nat) (lo r : Nat → Nat) : Prop where
  c1 : C ≤ wb
  c2 : wb < yb
  c3 : lo p.ny ≤ bb
  sw : VOwn wb 3 1 w (.slice (some ⟨wb, 0, none⟩) p.nw p.nw) p.nw (oneF p.W)
  wy : WsOwn w yb p.ny p.ny p.Y lo
  br : BsOwn w bb p.nb p.nb p.K p.T r
theorem WsOwn.lo0 {w : World} {b n k : Nat} {Y : Nat → Wy} {lo : Nat → Nat} (h : WsOwn w b n k Y lo) : b < lo k := by
  obtain ⟨vs, h1, h2, h3, h4, h5, h6⟩ := h
  exact Nat.lt_of_lt_of_le h3 (h5 0 k (Nat.zero_le _) (Nat.le_refl _))
theorem PlOwn.keep {C C' : Nat} {w w' : World} {p : Pl} {wb yb bb : Nat} {lo r : Nat → Nat} (h : PlOwn C w p wb yb bb lo r) (hC : C' ≤ C) (hs : w.heap.size ≤ w'.heap.size) (hk : ∀ g, C ≤ g → w'.heap[g]? = w.heap[g]?) : PlOwn C' w' p wb yb bb lo r := by
  have h1 := h.c1
  have h2 := h.c2
  have h3 := h.c3
  have h4 := h.wy.lo0
  exact ⟨by omega, h2, h3, h.sw.keep (Nat.le_refl _) fun g hg => hk g (by simp only [Value.ownBlock, Option.some.injEq] at hg; omega), h.wy.keep hs fun g hg => hk g (by omega), h.br.keep fun g hg => hk g (by omega)⟩
theorem PlOwn.mono {C C' : Nat} {w w' : World} {p : Pl} {wb yb bb B : Nat} {lo r : Nat → Nat} (h : PlOwn C w p wb yb bb lo r) (hC : C' ≤ C) (hb : Below B w w') (hB : w.heap.size ≤ B) : PlOwn C' w' p wb yb bb lo r :=
  ⟨Nat.le_trans hC h.c1, h.c2, h.c3, h.sw.mono (Nat.le_refl _) hb hB, h.wy.mono hb hB, h.br.mono hb hB⟩
theorem PlOwn.in {C C' : Nat} {w : World} {p : Pl} {wb yb bb : Nat} {lo r : Nat → Nat} (h : PlOwn C w p wb yb bb lo r) (hC : C' ≤ C) : PlIn C' w p (some ⟨wb, 0, none⟩) (some ⟨yb, 0, none⟩) (some ⟨bb, 0, none⟩) := by
  have h1 := h.c1
  have h2 := h.c2
  have h3 := h.c3
  have h4 := h.wy.lo0
  exact ⟨h.sw.vs.le (by omega), h.wy.at (by omega), h.br.at (by omega)⟩

set_option maxRecDepth 100000 in
set_option maxHeartbeats 4000000 in
theorem toPlan (p : Pl) (wa ya ba : Option Addr) (wc yc bc : Nat) (w : World) (hs : p.small) (h : PlIn 0 w p wa ya ba) :
    Calls Tryz.prog 9 #[.agg #[.int .i64 p.sec, .slice wa p.nw wc, .slice ya p.ny yc, .slice ba p.nb bc, .int .i64 p.hold]] w fun e w' => ∃ wb yb bb lo r, e = .returned (.agg #[.int .i64 p.sec, .slice (some ⟨wb, 0, none⟩) p.nw p.nw, .slice (some ⟨yb, 0, none⟩) p.ny p.ny, .slice (some ⟨bb, 0, none⟩) p.nb p.nb, .int .i64 p.hold]) ∧ PlOwn w.heap.size w' p wb yb bb lo r ∧ Below w.heap.size w w' := by
  obtain ⟨s1, s2, s3, s4, s5⟩ := hs
  have HS : Hid ((∀ i, i < p.ny → (p.Y i).small 1048576) ∧ ∀ i, i < p.nb → p.K i ≤ 1048576) := ⟨s3, s5⟩
  have H : Hid (PlIn 0 w p wa ya ba) := h
  clear h s3 s5
  go_enter Tryz.func9, Tryz.ntmps9
  go_wp2_with fail
  have A0 : Box (w.alloc (.cells #[.int .i64 p.sec, .slice wa p.nw wc, .slice ya p.ny yc, .slice ba p.nb bc, .int .i64 p.hold] 26)) w.heap.size 26 #[.int .i64 p.sec, .slice wa p.nw wc, .slice ya p.ny yc, .slice ba p.nb bc, .int .i64 p.hold] := Box.new w 26 _
  have R0 : Box ((w.alloc (.cells #[.int .i64 p.sec, .slice wa p.nw wc, .slice ya p.ny yc, .slice ba p.nb bc, .int .i64 p.hold] 26)).alloc (.cells #[.int .i64 0, .slice none 0 0, .slice none 0 0, .slice none 0 0, .int .i64 0] 37)) (w.heap.size + 1) 37 #[.int .i64 0, .slice none 0 0, .slice none 0 0, .slice none 0 0, .int .i64 0] := by have := Box.new (w.alloc (.cells #[.int .i64 p.sec, .slice wa p.nw wc, .slice ya p.ny yc, .slice ba p.nb bc, .int .i64 p.hold] 26)) 37 #[.int .i64 0, .slice none 0 0, .slice none 0 0, .slice none 0 0, .int .i64 0]; simpa using this
  have O1 : Box (((w.alloc (.cells #[.int .i64 p.sec, .slice wa p.nw wc, .slice ya p.ny yc, .slice ba p.nb bc, .int .i64 p.hold] 26)).alloc (.cells #[.int .i64 0, .slice none 0 0, .slice none 0 0, .slice none 0 0, .int .i64 0] 37)).alloc (.cells #[.int .i64 p.sec, .slice none 0 0, .slice none 0 0, .slice none 0 0, .int .i64 0] 37)) (w.heap.size + 1 + 1) 37 #[.int .i64 p.sec, .slice none 0 0, .slice none 0 0, .slice none 0 0, .int .i64 0] := by have := Box.new ((w.alloc (.cells #[.int .i64 p.sec, .slice wa p.nw wc, .slice ya p.ny yc, .slice ba p.nb bc, .int .i64 p.hold] 26)).alloc (.cells #[.int .i64 0, .slice none 0 0, .slice none 0 0, .slice none 0 0, .int .i64 0] 37)) 37 #[.int .i64 p.sec, .slice none 0 0, .slice none 0 0, .slice none 0 0, .int .i64 0]; simpa using this
  have A1 := (A0.alloc (.cells #[.int .i64 0, .slice none 0 0, .slice none 0 0, .slice none 0 0, .int .i64 0] 37)).alloc (.cells #[.int .i64 p.sec, .slice none 0 0, .slice none 0 0, .slice none 0 0, .int .i64 0] 37)
  have R1 := R0.alloc (.cells #[.int .i64 p.sec, .slice none 0 0, .slice none 0 0, .slice none 0 0, .int .i64 0] 37)
  have B1 : Below w.heap.size w (((w.alloc (.cells #[.int .i64 p.sec, .slice wa p.nw wc, .slice ya p.ny yc, .slice ba p.nb bc, .int .i64 p.hold] 26)).alloc (.cells #[.int .i64 0, .slice none 0 0, .slice none 0 0, .slice none 0 0, .int .i64 0] 37)).alloc (.cells #[.int .i64 p.sec, .slice none 0 0, .slice none 0 0, .slice none 0 0, .int .i64 0] 37)) := bel3 w _ _ _
  clear A0 R0
  refine (toIntS wa p.nw wc p.W _ s1 (H.out.sw.mono (Nat.le_refl _) B1 (Nat.le_refl _))).mono ?_
  rintro e w1 ⟨wb, hb1, rfl, o1, hl1⟩
  have A11 := A1.mono hl1 (Nat.le_refl _)
  have R11 := R1.mono hl1 (Nat.le_refl _)
  have O11 := O1.mono hl1 (Nat.le_refl _)
  have B11 := B1.trans (hl1.mono B1.size)
  have hk1 : w.heap.size + 1 + 1 < wb := by rw [hb1]; simp
  have hz1 : wb < w1.heap.size := (o1.lt rfl).2
  clear hl1 hb1 A1 R1 O1 B1
  have xa1 : w1.cell? ⟨w.heap.size, 2, none⟩ = some _ := A11.cell 2
  have xo1 : w1.cell? ⟨w.heap.size + 1 + 1, 1, none⟩ = some (.slice none 0 0) := O11.cell 1
  have xf1 := O11.free 1
  have HH1 : Hid (Box w1 w.heap.size 26 _ ∧ Box w1 (w.heap.size + 1) 37 _ ∧ Box w1 (w.heap.size + 1 + 1) 37 _ ∧ Below w.heap.size w w1) := ⟨A11, R11, O11, B11⟩
  have P1_1 : Hid (VOwn wb 3 1 w1 (.slice (some ⟨wb, 0, none⟩) p.nw p.nw) p.nw (oneF p.W)) := o1
  clear A11 R11 O11 B11 o1
  go_wp2_with fail
  obtain ⟨A11, R11, O11, B11⟩ := HH1.out
  have A2 := A11.other (p := ⟨w.heap.size + 1 + 1, 1, none⟩) (by show w.heap.size ≠ w.heap.size + 1 + 1; omega) (.slice (some ⟨wb, 0, none⟩) p.nw p.nw)
  have R2 := R11.other (p := ⟨w.heap.size + 1 + 1, 1, none⟩) (by show w.heap.size + 1 ≠ w.heap.size + 1 + 1; omega) (.slice (some ⟨wb, 0, none⟩) p.nw p.nw)
  have O2 := O11.set 1 (.slice (some ⟨wb, 0, none⟩) p.nw p.nw)
  have B2 := B11.setCell (p := ⟨w.heap.size + 1 + 1, 1, none⟩) (by show w.heap.size ≤ w.heap.size + 1 + 1; omega) (.slice (some ⟨wb, 0, none⟩) p.nw p.nw)
  have o1 := P1_1.out.keep (Nat.le_refl _) (fun g hg => Below.heap_setCell w1 ⟨w.heap.size + 1 + 1, 1, none⟩ (.slice (some ⟨wb, 0, none⟩) p.nw p.nw) g (by simp only [Value.ownBlock, Option.some.injEq] at hg; show g ≠ w.heap.size + 1 + 1; omega))
  clear HH1 A11 R11 O11 B11 xa1 xo1 xf1 P1_1
  refine (toWayS ya p.ny yc p.Y _ s2 (H.out.wy.mono (Nat.le_refl _) B2 (Nat.le_refl _)) HS.out.1).mono ?_
  rintro e w2 ⟨yb, lo, hb2, rfl, o2, hl2⟩
  have A12 := A2.mono hl2 (Nat.le_refl _)
  have R12 := R2.mono hl2 (Nat.le_refl _)
  have O12 := O2.mono hl2 (Nat.le_refl _)
  have B12 := B2.trans (hl2.mono B2.size)
  have o1 := o1.mono (Nat.le_refl _) hl2 (Nat.le_refl _)
  have hk2 : wb < yb := by rw [hb2, size_setc]; exact hz1
  have hz2 : lo p.ny ≤ w2.heap.size := by obtain ⟨_, _, _, _, h4, _⟩ := o2; exact h4
  clear hl2 hb2 A2 R2 O2 B2 hz1
  have xa2 : w2.cell? ⟨w.heap.size, 3, none⟩ = some _ := A12.cell 3
  have xo2 : w2.cell? ⟨w.heap.size + 1 + 1, 2, none⟩ = some (.slice none 0 0) := O12.cell 2
  have xf2 := O12.free 2
  have HH2 : Hid (Box w2 w.heap.size 26 _ ∧ Box w2 (w.heap.size + 1) 37 _ ∧ Box w2 (w.heap.size + 1 + 1) 37 _ ∧ Below w.heap.size w w2) := ⟨A12, R12, O12, B12⟩
  have P2_1 : Hid (VOwn wb 3 1 w2 (.slice (some ⟨wb, 0, none⟩) p.nw p.nw) p.nw (oneF p.W)) := o1
  have P2_2 : Hid (WsOwn w2 yb p.ny p.ny p.Y lo) := o2
  clear A12 R12 O12 B12 o1 o2
  go_wp2_with fail
  obtain ⟨A12, R12, O12, B12⟩ := HH2.out
  have A3 := A12.other (p := ⟨w.heap.size + 1 + 1, 2, none⟩) (by show w.heap.size ≠ w.heap.size + 1 + 1; omega) (.slice (some ⟨yb, 0, none⟩) p.ny p.ny)
  have R3 := R12.other (p := ⟨w.heap.size + 1 + 1, 2, none⟩) (by show w.heap.size + 1 ≠ w.heap.size + 1 + 1; omega) (.slice (some ⟨yb, 0, none⟩) p.ny p.ny)
  have O3 := O12.set 2 (.slice (some ⟨yb, 0, none⟩) p.ny p.ny)
  have B3 := B12.setCell (p := ⟨w.heap.size + 1 + 1, 2, none⟩) (by show w.heap.size ≤ w.heap.size + 1 + 1; omega) (.slice (some ⟨yb, 0, none⟩) p.ny p.ny)
  have o1 := P2_1.out.keep (Nat.le_refl _) (fun g hg => Below.heap_setCell w2 ⟨w.heap.size + 1 + 1, 2, none⟩ (.slice (some ⟨yb, 0, none⟩) p.ny p.ny) g (by simp only [Value.ownBlock, Option.some.injEq] at hg; show g ≠ w.heap.size + 1 + 1; omega))
  have o2 := P2_2.out.keep (Nat.le_of_eq (size_setc w2 ⟨w.heap.size + 1 + 1, 2, none⟩ (.slice (some ⟨yb, 0, none⟩) p.ny p.ny)).symm) (fun g hg => Below.heap_setCell w2 ⟨w.heap.size + 1 + 1, 2, none⟩ (.slice (some ⟨yb, 0, none⟩) p.ny p.ny) g (by show g ≠ w.heap.size + 1 + 1; omega))
  clear HH2 A12 R12 O12 B12 xa2 xo2 xf2 P2_1 P2_2
  refine (toBoolSS ba p.nb bc p.K p.T _ s4 (H.out.br.mono (Nat.le_refl _) B3 (Nat.le_refl _)) HS.out.2).mono ?_
  rintro e w3 ⟨bb, r, hb3, rfl, o3, hl3⟩
  have A13 := A3.mono hl3 (Nat.le_refl _)
  have R13 := R3.mono hl3 (Nat.le_refl _)
  have O13 := O3.mono hl3 (Nat.le_refl _)
  have B13 := B3.trans (hl3.mono B3.size)
  have o1 := o1.mono (Nat.le_refl _) hl3 (Nat.le_refl _)
  have o2 := o2.mono hl3 (Nat.le_refl _)
  have hk3 : lo p.ny ≤ bb := by rw [hb3, size_setc]; exact hz2
  clear hl3 hb3 A3 R3 O3 B3 hz2
  have xa3 : w3.cell? ⟨w.heap.size, 4, none⟩ = some _ := A13.cell 4
  have xo3 : w3.cell? ⟨w.heap.size + 1 + 1, 3, none⟩ = some (.slice none 0 0) := O13.cell 3
  have xf3 := O13.free 3
  have xo0 : w3.cell? ⟨w.heap.size + 1 + 1, 0, none⟩ = some (.int .i64 p.sec) := O13.cell 0
  have xo1 : w3.cell? ⟨w.heap.size + 1 + 1, 1, none⟩ = some (.slice (some ⟨wb, 0, none⟩) p.nw p.nw) := O13.cell 1
  have xo2 : w3.cell? ⟨w.heap.size + 1 + 1, 2, none⟩ = some (.slice (some ⟨yb, 0, none⟩) p.ny p.ny) := O13.cell 2
  have xo4 : w3.cell? ⟨w.heap.size + 1 + 1, 4, none⟩ = some (.int .i64 0) := O13.cell 4
  have xf4 := O13.free 4
  have xr0 : w3.cell? ⟨w.heap.size + 1, 0, none⟩ = some (.int .i64 0) := R13.cell 0
  have xg0 := R13.free 0
  have xr1 : w3.cell? ⟨w.heap.size + 1, 1, none⟩ = some (.slice none 0 0) := R13.cell 1
  have xg1 := R13.free 1
  have xr2 : w3.cell? ⟨w.heap.size + 1, 2, none⟩ = some (.slice none 0 0) := R13.cell 2
  have xg2 := R13.free 2
  have xr3 : w3.cell? ⟨w.heap.size + 1, 3, none⟩ = some (.slice none 0 0) := R13.cell 3
  have xg3 := R13.free 3
  have xr4 : w3.cell? ⟨w.heap.size + 1, 4, none⟩ = some (.int .i64 0) := R13.cell 4
  have xg4 := R13.free 4
  have HH3 : Hid (Box w3 w.heap.size 26 _ ∧ Box w3 (w.heap.size + 1) 37 _ ∧ Box w3 (w.heap.size + 1 + 1) 37 _ ∧ Below w.heap.size w w3) := ⟨A13, R13, O13, B13⟩
  have P3_1 : Hid (VOwn wb 3 1 w3 (.slice (some ⟨wb, 0, none⟩) p.nw p.nw) p.nw (oneF p.W)) := o1
  have P3_2 : Hid (WsOwn w3 yb p.ny p.ny p.Y lo) := o2
  have P3_3 : Hid (BsOwn w3 bb p.nb p.nb p.K p.T r) := o3
  clear A13 R13 O13 B13 o1 o2 o3
  go_wp2_with fail
  refine bodyPost_ret (v := .agg #[.int .i64 p.sec, .slice (some ⟨wb, 0, none⟩) p.nw p.nw, .slice (some ⟨yb, 0, none⟩) p.ny p.ny, .slice (some ⟨bb, 0, none⟩) p.nb p.nb, .int .i64 p.hold]) (by simp [results, Tryz.results9, go_sem, xr0, xr1, xr2, xr3, xr4]) rfl ⟨wb, yb, bb, lo, r, rfl, ?_, ?_⟩
  · have h4 := P3_2.out.lo0
    have hQ : PlOwn (w.heap.size + 1 + 1 + 1) w3 p wb yb bb lo r := ⟨by omega, hk2, hk3, P3_1.out, P3_2.out, P3_3.out⟩
    refine hQ.keep (by omega) (by simp [World.setCell]) fun g hg => ?_
    have h1 : g ≠ w.heap.size + 1 := by omega
    have h2 : g ≠ w.heap.size + 1 + 1 := by omega
    rw [Below.heap_setCell _ _ _ _ h1, Below.heap_setCell _ _ _ _ h1, Below.heap_setCell _ _ _ _ h1, Below.heap_setCell _ _ _ _ h1, Below.heap_setCell _ _ _ _ h1, Below.heap_setCell _ _ _ _ h2, Below.heap_setCell _ _ _ _ h2]
  · obtain ⟨_, _, _, B13⟩ := HH3.out
    have h1 : w.heap.size ≤ w.heap.size + 1 := by omega
    have h2 : w.heap.size ≤ w.heap.size + 1 + 1 := by omega
    exact ((((((B13.setCell h2 _).setCell h2 _).setCell h1 _).setCell h1 _).setCell h1 _).setCell h1 _).setCell h1 _

end Go.Proofs.YtkeilejbelblcaaGreatDoor
