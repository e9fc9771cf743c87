import Derived.Test.YtpghgdnhfhdgmaaNs
import Derived.Test.YtpghgdnhfhdgmaaEq
namespace Go.Proofs.Ytpghgdnhfhdgmaa
open Go.RowKit

/-- a route's cells -/
def rtA (r : Rt) (sa la xa qa oa fa : Option Addr) (sc lc xc qc oc fc : Nat) : Array Value := #[.int .i64 r.fr, .int .i64 r.to, .slice sa r.ns sc, .slice la r.nl lc, .slice xa r.nx xc, .slice qa r.np qc, .slice oa r.no oc, .slice fa r.nf fc]
theorem Own.fr {B : Nat} {e : TypeId} {c : Nat} {w w' : World} {v : Value} {l : List Rw} {X : Nat → Prop} (h : Own B e c w v l) (hf : Fr X w w') (hx : ∀ g, v.ownBlock = some g → ¬ X g) : Own B e c w' v l :=
  h.keep (Nat.le_refl _) fun g hg => hf.block g (h.lt hg).2 (hx g hg)
theorem Box.fr {w w' : World} {b : Nat} {T : TypeId} {vs : Array Value} {X : Nat → Prop} (h : Box w b T vs) (hf : Fr X w w') (hx : ¬ X b) : Box w' b T vs := h.keep (hf.block b h.lt hx)

/-- a row of one's own can be written over -/
theorem Own.markable {B : Nat} {e : TypeId} {c : Nat} {w : World} {a : Option Addr} {n cap : Nat} {l : List Rw} (h : Own B e c w (.slice a n cap) l) (hB : B ≤ w.heap.size) :
    ∃ g, (0 < n → a = some ⟨g, 0, none⟩) ∧ (∀ o, 0 ≤ o → o < 0 + n * c → (∃ v, w.cell? ⟨g, o, none⟩ = some v) ∧ w.frozen? ⟨g, o, none⟩ = false) ∧ B ≤ g ∧ g ≤ w.heap.size ∧ (0 < n → g < w.heap.size) := by
  rcases h.shape with ⟨h1, _⟩ | ⟨g, cp, cur, h1, h2, h3, h4, h5, h6, h7⟩
  · simp only [Value.slice.injEq] at h1
    obtain ⟨rfl, rfl, rfl⟩ := h1
    exact ⟨B, fun h => absurd h (Nat.lt_irrefl _), fun o _ ho => absurd ho (by omega), Nat.le_refl _, hB, fun h => absurd h (Nat.lt_irrefl _)⟩
  · have hl : g < w.heap.size := (Array.getElem?_eq_some_iff.1 h3).1
    simp only [Value.slice.injEq] at h1
    obtain ⟨rfl, rfl, rfl⟩ := h1
    exact ⟨g, fun _ => rfl, h.mark, h2, by omega, fun _ => hl⟩

set_option maxRecDepth 100000 in
set_option maxHeartbeats 8000000 in
theorem law3 (r : Rt) (sa la xa qa oa fa : Option Addr) (sc lc xc qc oc fc : Nat) (w : World) (hs : r.fits) (h : RtIn 0 w r sa la xa qa oa fa) :
    Calls Try.prog 3 #[.agg #[.int .i64 r.fr, .int .i64 r.to, .slice sa r.ns sc, .slice la r.nl lc, .slice xa r.nx xc, .slice qa r.np qc, .slice oa r.no oc, .slice fa r.nf fc]] w fun e w' => e = .returned (.bool true) ∧ Below w.heap.size w w' := by
  have H : Hid (RtIn 0 w r sa la xa qa oa fa) := h
  have HS : Hid r.fits := hs
  clear h hs
  go_enter Try.func3, Try.ntmps3
  go_wp2_with fail
  have B0 := bel1 w (.cells #[.int .i64 r.fr, .int .i64 r.to, .slice sa r.ns sc, .slice la r.nl lc, .slice xa r.nx xc, .slice qa r.np qc, .slice oa r.no oc, .slice fa r.nf fc] 28)
  have A0 := Box.new w 28 #[.int .i64 r.fr, .int .i64 r.to, .slice sa r.ns sc, .slice la r.nl lc, .slice xa r.nx xc, .slice qa r.np qc, .slice oa r.no oc, .slice fa r.nf fc]
  refine (szRoute r sa la xa qa oa fa sc lc xc qc oc fc 1048576 _ HS.out (by omega) (by omega)).mono ?_
  rintro e w1 ⟨k1, rfl, hk1, hk1', hb1⟩
  have B1 := B0.trans (hb1.mono B0.size)
  have A1 := A0.mono hb1 (Nat.le_refl _)
  clear B0 A0 hb1
  by_cases hneg : k1 < 0
  · clear hk1
    go_wp2_with fail
    go_ret
    exact ⟨rfl, B1⟩
  · have hsum : r.sum ≤ 1048576 := by have := hk1 (by omega); omega
    have hsm := Rt.small_of hsum
    have hlf : r.nl + r.nf ≤ 1048576 := by unfold Rt.sum at hsum; omega
    have HSM : Hid r.small := hsm
    obtain ⟨s1, s2, s3, s4, s5, s6⟩ := hsm
    clear hk1 hk1' hsum
    obtain ⟨u0, u1, u2, u3, u4, u5, u6, u7⟩ := A1.eight
    have HA1 : Hid (Box w1 w.heap.size 28 _) := A1
    clear A1
    go_wp2_with fail
    clear u0 u1 u2 u3 u4 u5 u6 u7
    refine (toRoute r sa la xa qa oa fa sc lc xc qc oc fc _ HSM.out ((H.out).mono (Nat.le_refl _) B1 (Nat.le_refl _))).mono ?_
    rintro e w2 ⟨b1, b2, b3, b4, b5, b6, rfl, R2, hb2⟩
    have B2 := B1.trans (hb2.mono B1.size)
    have A2 := HA1.out.mono hb2 (Nat.le_refl _)
    have R2r := R2.rt
    clear HA1 hb2 B1 R2
    go_wp2_with fail
    refine (needsS r.fr r.to (some ⟨b1, 0, none⟩) (some ⟨b2, 0, none⟩) (some ⟨b3, 0, none⟩) (some ⟨b4, 0, none⟩) (some ⟨b5, 0, none⟩) (some ⟨b6, 0, none⟩) r.ns r.ns r.nl r.nl r.nx r.nx r.np r.np r.no r.no r.nf r.nf r.L r.F _ s2 s6 (R2r.l.le (Nat.zero_le _)) (R2r.f.le (Nat.zero_le _))).mono ?_
    rintro e w3 ⟨v0, rfl, V3, hb3⟩
    have hNL : (nd (lsF 2 r.nl r.L) r.F r.nf).length ≤ 1048576 := by have := nd_len (lsF 2 r.nl r.L) r.F r.nf; rw [lsF_len] at this; omega
    have HI : Hid (∀ (W : World) (b1 b2 b3 b4 b5 b6 : Nat) (C : Nat), RtOwn C W r b1 b2 b3 b4 b5 b6 → Calls Try.prog 9 #[.agg #[.int .i64 r.fr, .int .i64 r.to, .slice (some ⟨b1, 0, none⟩) r.ns r.ns, .slice (some ⟨b2, 0, none⟩) r.nl r.nl, .slice (some ⟨b3, 0, none⟩) r.nx r.nx, .slice (some ⟨b4, 0, none⟩) r.np r.np, .slice (some ⟨b5, 0, none⟩) r.no r.no, .slice (some ⟨b6, 0, none⟩) r.nf r.nf]] W fun e w' => ∃ v, e = .returned v ∧ Own W.heap.size 62 2 w' v (nd (lsF 2 r.nl r.L) r.F r.nf) ∧ Below W.heap.size W w') := fun W b1 b2 b3 b4 b5 b6 C hR =>
      needsI r.fr r.to _ _ _ _ _ _ r.ns r.ns r.nl r.nl r.nx r.nx r.np r.np r.no r.no r.nf r.nf (lsF 2 r.nl r.L) r.F W (lsF_len _ _ _).symm s2 s6 (lsAt_le hR.l.ls (Nat.zero_le _)) (hR.f.ns.le (Nat.zero_le _))
    generalize nd (lsF 2 r.nl r.L) r.F r.nf = ND at *
    obtain ⟨av, cv, rfl⟩ := V3.val
    have B3 := B2.trans (hb3.mono B2.size)
    have A3 := A2.mono hb3 (Nat.le_refl _)
    clear hb3 B2 A2 R2r
    obtain ⟨u0, u1, u2, u3, u4, u5, u6, u7⟩ := A3.eight
    have HA3 : Hid (Box w3 w.heap.size 28 _) := A3
    have HV3 : Hid (Own w2.heap.size 62 2 w3 (.slice av ND.length cv) ND) := V3
    clear A3 V3
    go_wp2_with fail
    clear u0 u1 u2 u3 u4 u5 u6 u7
    refine (toRoute r sa la xa qa oa fa sc lc xc qc oc fc _ HSM.out ((H.out).mono (Nat.le_refl _) B3 (Nat.le_refl _))).mono ?_
    rintro e w4 ⟨d1, d2, d3, d4, d5, d6, rfl, R4, hb4⟩
    have B4 := B3.trans (hb4.mono B3.size)
    have A4 := HA3.out.mono hb4 (Nat.le_refl _)
    have V4 := HV3.out.mono (Nat.le_refl _) hb4 (Nat.le_refl _)
    have hv3 : ∀ g, (Value.slice av ND.length cv).ownBlock = some g → g < w3.heap.size := fun g hg => (HV3.out.lt hg).2
    have HL3 : Hid (∀ g, (Value.slice av ND.length cv).ownBlock = some g → g < w3.heap.size) := hv3
    have z34 := hb4.size
    have za3 : w.heap.size < w3.heap.size := HA3.out.lt
    have z4 := R4.lt
    clear HA3 HV3 hb4 B3 hv3
    go_wp2_with fail
    have b5' := bel1 w4 (.cells #[.int .i64 r.fr, .int .i64 r.to, .slice (some ⟨d1, 0, none⟩) r.ns r.ns, .slice (some ⟨d2, 0, none⟩) r.nl r.nl, .slice (some ⟨d3, 0, none⟩) r.nx r.nx, .slice (some ⟨d4, 0, none⟩) r.np r.np, .slice (some ⟨d5, 0, none⟩) r.no r.no, .slice (some ⟨d6, 0, none⟩) r.nf r.nf] 36)
    have X5 := Box.new w4 36 #[.int .i64 r.fr, .int .i64 r.to, .slice (some ⟨d1, 0, none⟩) r.ns r.ns, .slice (some ⟨d2, 0, none⟩) r.nl r.nl, .slice (some ⟨d3, 0, none⟩) r.nx r.nx, .slice (some ⟨d4, 0, none⟩) r.np r.np, .slice (some ⟨d5, 0, none⟩) r.no r.no, .slice (some ⟨d6, 0, none⟩) r.nf r.nf]
    have R5 := R4.mono (Nat.le_refl _) b5' (Nat.le_refl _)
    have V5 := V4.mono (Nat.le_refl _) b5' (Nat.le_refl _)
    have A5 := A4.mono b5' (Nat.le_refl _)
    have B5 := B4.trans (b5'.mono B4.size)
    refine (HI.out _ d1 d2 d3 d4 d5 d6 _ R5).mono ?_
    rintro e w6 ⟨v1, rfl, G6, hb6⟩
    obtain ⟨ag, cg, rfl⟩ := G6.val
    have R6 := R5.mono (Nat.le_refl _) hb6 (Nat.le_refl _)
    have V6 := V5.mono (Nat.le_refl _) hb6 (Nat.le_refl _)
    have A6 := A5.mono hb6 (Nat.le_refl _)
    have X6 := X5.mono hb6 (Nat.le_refl _)
    have B6 := B5.trans (hb6.mono B5.size)
    have G6 : Own (w4.heap.size + 1) 62 2 w6 (.slice ag ND.length cg) ND := by simpa using G6
    have H6 : Hid (RtOwn w3.heap.size w6 r d1 d2 d3 d4 d5 d6 ∧ Own w2.heap.size 62 2 w6 (.slice av ND.length cv) ND ∧ Box w6 w.heap.size 28 _ ∧ Box w6 w4.heap.size 36 _ ∧ Below w.heap.size w w6 ∧ Own (w4.heap.size + 1) 62 2 w6 (.slice ag ND.length cg) ND) := ⟨R6, V6, A6, X6, B6, G6⟩
    clear b5' X5 R5 V5 A5 B5 hb6 R6 V6 A6 X6 B6 G6 R4 A4 V4 B4
    go_wp2_with fail
    refine (eqLieS83 ag av ND.length cg cv (fnL ND) _ hNL H6.out.2.2.2.2.2.nsL H6.out.2.1.nsL).mono ?_
    rintro e w7 ⟨rfl, hb7⟩
    obtain ⟨R6, V6, A6, X6, B6, G6⟩ := H6.out
    have R7 := R6.mono (Nat.le_refl _) (hb7.drew) (Nat.le_refl _)
    have V7 := V6.mono (Nat.le_refl _) (hb7.drew) (Nat.le_refl _)
    have A7 := A6.mono (hb7.drew) (Nat.le_refl _)
    have X7 := X6.mono (hb7.drew) (Nat.le_refl _)
    have B7 := B6.trans ((hb7.drew).mono B6.size)
    have G7 := G6.mono (Nat.le_refl _) (hb7.drew) (Nat.le_refl _)
    obtain ⟨u0, u1, u2, u3, u4, u5, u6, u7⟩ := A7.eight
    obtain ⟨x0, x1, x2, x3, x4, x5, x6, x7⟩ := X7.eight
    have u0 : w7.cell? _ = _ := u0
    have u1 : w7.cell? _ = _ := u1
    have u2 : w7.cell? _ = _ := u2
    have u3 : w7.cell? _ = _ := u3
    have u4 : w7.cell? _ = _ := u4
    have u5 : w7.cell? _ = _ := u5
    have u6 : w7.cell? _ = _ := u6
    have u7 : w7.cell? _ = _ := u7
    have x0 : w7.cell? _ = _ := x0
    have x1 : w7.cell? _ = _ := x1
    have x2 : w7.cell? _ = _ := x2
    have x3 : w7.cell? _ = _ := x3
    have x4 : w7.cell? _ = _ := x4
    have x5 : w7.cell? _ = _ := x5
    have x6 : w7.cell? _ = _ := x6
    have x7 : w7.cell? _ = _ := x7
    have H7 : Hid (RtOwn w3.heap.size w7.drew r d1 d2 d3 d4 d5 d6 ∧ Own w2.heap.size 62 2 w7.drew (.slice av ND.length cv) ND ∧ Box w7.drew w.heap.size 28 _ ∧ Box w7.drew w4.heap.size 36 _ ∧ Below w.heap.size w w7.drew ∧ Own (w4.heap.size + 1) 62 2 w7.drew (.slice ag ND.length cg) ND) := ⟨R7, V7, A7, X7, B7, G7⟩
    have x8 : w4.heap.size < w7.heap.size := X7.lt
    clear R6 V6 A6 X6 B6 G6 H6 R7 V7 A7 X7 B7 G7 hb7
    go_wp2_with fail
    go_region_with (first | (go_at_call 8; refine (toRoute r sa la xa qa oa fa sc lc xc qc oc fc _ HSM.out ((H.out).mono (Nat.le_refl _) H7.out.2.2.2.2.1 (Nat.le_refl _))).mono ?_; rintro e w8 ⟨f1, f2, f3, f4, f5, f6, rfl, R8, hb8⟩; have x0 := cell_keep hb8 x8 x0; have x1 := cell_keep hb8 x8 x1; have x2 := cell_keep hb8 x8 x2; have x3 := cell_keep hb8 x8 x3; have x4 := cell_keep hb8 x8 x4; have x5 := cell_keep hb8 x8 x5; have x6 := cell_keep hb8 x8 x6; have x7 := cell_keep hb8 x8 x7; clear u0 u1 u2 u3 u4 u5 u6 u7) | (go_at_call 11; refine (eqRoute48 r (some ⟨d1, 0, none⟩) (some ⟨d2, 0, none⟩) (some ⟨d3, 0, none⟩) (some ⟨d4, 0, none⟩) (some ⟨d5, 0, none⟩) (some ⟨d6, 0, none⟩) (some ⟨f1, 0, none⟩) (some ⟨f2, 0, none⟩) (some ⟨f3, 0, none⟩) (some ⟨f4, 0, none⟩) (some ⟨f5, 0, none⟩) (some ⟨f6, 0, none⟩) r.ns r.nl r.nx r.np r.no r.nf r.ns r.nl r.nx r.np r.no r.nf _ HSM.out ((H7.out.1.mono (Nat.zero_le _) hb8 (Nat.le_refl _)).rt) ((R8.mono (Nat.zero_le _) (Below.refl _ _) (Nat.le_refl _)).rt)).mono ?_; rintro e w9 ⟨rfl, hb9⟩))
    all_goals
      have hb79 := hb8.trans (hb9.mono hb8.size)
      obtain ⟨R7, V7, A7, X7, B7, G7⟩ := H7.out
      have R9 := R7.mono (Nat.le_refl _) hb79 (Nat.le_refl _)
      have V9 := V7.mono (Nat.le_refl _) hb79 (Nat.le_refl _)
      have A9 := A7.mono hb79 (Nat.le_refl _)
      have X9 := X7.mono hb79 (Nat.le_refl _)
      have B9 := B7.trans (hb79.mono B7.size)
      have G9 := G7.mono (Nat.le_refl _) hb79 (Nat.le_refl _)
      clear R7 V7 A7 X7 B7 G7 H7 hb79 hb8 hb9 R8 x0 x1 x2 x3 x4 x5 x6 x7
      obtain ⟨x0, x1, x2, x3, x4, x5, x6, x7⟩ := X9.eight
      have H9 : Hid (RtOwn w3.heap.size w9 r d1 d2 d3 d4 d5 d6 ∧ Own w2.heap.size 62 2 w9 (.slice av ND.length cv) ND ∧ Box w9 w.heap.size 28 _ ∧ Box w9 w4.heap.size 36 _ ∧ Below w.heap.size w w9 ∧ Own (w4.heap.size + 1) 62 2 w9 (.slice ag ND.length cg) ND) := ⟨R9, V9, A9, X9, B9, G9⟩
      clear R9 V9 A9 X9 B9 G9
      go_wp2_with fail
      clear x0 x1 x2 x3 x4 x5 x6 x7
      refine (markRoute r d1 d2 d3 d4 d5 d6 w3.heap.size _ HSM.out H9.out.1).mono ?_
      rintro e w10 ⟨kk, rfl, hf10⟩
      obtain ⟨R9, V9, A9, X9, B9, G9⟩ := H9.out
      have V10 := V9.fr hf10 (fun g hg ⟨q1, _⟩ => by have := HL3.out g hg; omega)
      have A10 := A9.fr hf10 (fun ⟨q1, _⟩ => by omega)
      have B10 := B9.trans (hf10.below (B := w.heap.size) B9.size (fun k hk ⟨q1, _⟩ => by omega))
      have G10 := G9.fr hf10 (fun g hg ⟨_, q2⟩ => by have := (G9.lt hg).1; omega)
      have z10 : w4.heap.size < w10.heap.size := Nat.lt_of_lt_of_le X9.lt hf10.size
      have H10 : Hid (Own w2.heap.size 62 2 w10 (.slice av ND.length cv) ND ∧ Box w10 w.heap.size 28 _ ∧ Below w.heap.size w w10 ∧ Own (w4.heap.size + 1) 62 2 w10 (.slice ag ND.length cg) ND) := ⟨V10, A10, B10, G10⟩
      have hkk : (0 : Int) ≤ (kk : Int) := by omega
      clear R9 V9 A9 X9 B9 G9 H9 V10 A10 B10 G10 hf10
      go_wp2_with fail
      refine (eqLieS83 ag av ND.length cg cv (fnL ND) _ hNL H10.out.2.2.2.nsL H10.out.1.nsL).mono ?_
      rintro e w11 ⟨rfl, hb11⟩
      obtain ⟨V10, A10, B10, G10⟩ := H10.out
      have V11 := V10.mono (Nat.le_refl _) hb11 (Nat.le_refl _)
      have A11 := A10.mono hb11 (Nat.le_refl _)
      have B11 := B10.trans (hb11.mono B10.size)
      have G11 := G10.mono (Nat.le_refl _) hb11 (Nat.le_refl _)
      have z11 : w4.heap.size + 1 ≤ w11.heap.size := by have := hb11.size; omega
      obtain ⟨g, hg1, hg2, hg3, hg4, hg5⟩ := G11.markable z11
      have HG2 : Hid (∀ o, 0 ≤ o → o < 0 + ND.length * 2 → (∃ v, w11.cell? ⟨g, o, none⟩ = some v) ∧ w11.frozen? ⟨g, o, none⟩ = false) := hg2
      have HG1 : Hid (0 < ND.length → ag = some ⟨g, 0, none⟩) := hg1
      have HG5 : Hid (0 < ND.length → g < w11.heap.size) := hg5
      have H11 : Hid (Own w2.heap.size 62 2 w11 (.slice av ND.length cv) ND ∧ Box w11 w.heap.size 28 _ ∧ Below w.heap.size w w11) := ⟨V11, A11, B11⟩
      clear V10 A10 B10 G10 H10 V11 A11 B11 G11 hg1 hg2 hg5 hb11
      go_wp2_with fail
      refine (markLieS53 ag ND.length cg 1 g 0 _ hNL (by omega) HG1.out HG2.out).mono ?_
      rintro e w12 ⟨he, hW12, hm12⟩
      generalize hm0 : 1 + ND.length * 2 = mm at he
      subst he
      obtain ⟨V11, A11, B11⟩ := H11.out
      have V12 := V11.keep (Nat.le_refl _) (fun b hb => hW12.other b (by have := HL3.out b hb; omega))
      have A12 := A11.keep (hW12.other w.heap.size (by omega))
      have B12 := B11.trans (hW12.below.mono (by omega))
      have HM12 : Hid (∀ i, i < ND.length → ∀ j, j < 2 → w12.cell? ⟨g, 0 + i * 2 + j, none⟩ = some (.int .i64 ((1 + i * 2 + j : Nat) : Int))) := hm12
      have H12 : Hid (Own w2.heap.size 62 2 w12 (.slice av ND.length cv) ND ∧ Box w12 w.heap.size 28 _ ∧ Below w.heap.size w w12) := ⟨V12, A12, B12⟩
      have z12 : w12.heap.size = w11.heap.size := hW12.size
      have HZ12 : Hid (w12.heap.size = w11.heap.size) := z12
      clear V11 A11 B11 H11 V12 A12 B12 hm12 hW12 HG2 z12
      have hmm : (0 : Int) ≤ (mm : Int) := by omega
      go_wp2_with fail
      refine (heldLieS58 ag ND.length cg 1 g 0 _ hNL (by omega) HG1.out HM12.out).mono ?_
      rintro e w13 ⟨he, rfl⟩
      rw [hm0] at he
      subst he
      obtain ⟨V12, A12, B12⟩ := H12.out
      obtain ⟨u0, u1, u2, u3, u4, u5, u6, u7⟩ := A12.eight
      clear V12 A12
      go_wp2_with fail
      clear u0 u1 u2 u3 u4 u5 u6 u7
      refine (toRoute r sa la xa qa oa fa sc lc xc qc oc fc _ HSM.out ((H.out).mono (Nat.le_refl _) B12 (Nat.le_refl _))).mono ?_
      rintro e w14 ⟨g1, g2, g3, g4, g5, g6, rfl, R14, hb14⟩
      have HR14 : Hid (RtOwn _ w14 r g1 g2 g3 g4 g5 g6) := R14
      have HB14 : Hid (Below w13.heap.size w13 w14) := hb14
      clear R14 hb14 B12
      go_wp2_with fail
      refine (HI.out _ g1 g2 g3 g4 g5 g6 _ HR14.out).mono ?_
      rintro e w15 ⟨v2, rfl, G15, hb15⟩
      obtain ⟨ah, ch, rfl⟩ := G15.val
      have hb135 := HB14.out.trans (hb15.mono HB14.out.size)
      have H15 : Hid (Own w14.heap.size 62 2 w15 (.slice ah ND.length ch) ND ∧ Below w13.heap.size w13 w15) := ⟨G15, hb135⟩
      clear G15 hb15 hb135 HB14 HR14
      go_wp2_with fail
      refine (eqLieS83 ah av ND.length ch cv (fnL ND) _ hNL H15.out.1.nsL (H12.out.1.mono (Nat.le_refl _) H15.out.2 (Nat.le_refl _)).nsL).mono ?_
      rintro e w16 ⟨rfl, hb16⟩
      have hb136 := H15.out.2.trans (hb16.mono H15.out.2.size)
      have HM16 : Hid (∀ i, i < ND.length → ∀ j, j < 2 → w16.cell? ⟨g, 0 + i * 2 + j, none⟩ = some (.int .i64 ((1 + i * 2 + j : Nat) : Int))) := fun i hi j hj => (hb136.cell (p := ⟨g, 0 + i * 2 + j, none⟩) (by show g < w13.heap.size; rw [HZ12.out]; exact HG5.out (by omega))).trans (HM12.out i hi j hj)
      have HB16 : Hid (Below w.heap.size w w16) := H12.out.2.2.trans (hb136.mono H12.out.2.2.size)
      clear hb16 hb136 H15
      go_wp2_with fail
      refine (heldLieS58 ag ND.length cg 1 g 0 _ hNL (by omega) HG1.out HM16.out).mono ?_
      rintro e w17 ⟨he, rfl⟩
      rw [hm0] at he
      subst he
      go_wp2_with fail
      go_ret
      exact ⟨rfl, HB16.out⟩

end Go.Proofs.Ytpghgdnhfhdgmaa
