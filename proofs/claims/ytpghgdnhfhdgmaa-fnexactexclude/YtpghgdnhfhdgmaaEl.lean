import Derived.Test.YtpghgdnhfhdgmaaEs
import Derived.Test.YtpghgdnhfhdgmaaEq
namespace Go.Proofs.Ytpghgdnhfhdgmaa
open Go.RowKit

set_option maxRecDepth 100000 in
set_option maxHeartbeats 16000000 in
theorem law4 (r s : Rt) (sa la xa qa oa fa : Option Addr) (sc lc xc qc oc fc : Nat) (sa' la' xa' qa' oa' fa' : Option Addr) (sc' lc' xc' qc' oc' fc' : Nat) (w : World) (hr : r.fits) (hs : s.fits) (h1 : RtIn 0 w r sa la xa qa oa fa) (h2 : RtIn 0 w s sa' la' xa' qa' oa' fa') :
    Calls Try.prog 4 #[.agg #[.int .i64 r.fr, .int .i64 r.to, .slice sa r.ns sc, .slice la r.nl lc, .slice xa r.nx xc, .slice qa r.np qc, .slice oa r.no oc, .slice fa r.nf fc], .agg #[.int .i64 s.fr, .int .i64 s.to, .slice sa' s.ns sc', .slice la' s.nl lc', .slice xa' s.nx xc', .slice qa' s.np qc', .slice oa' s.no oc', .slice fa' s.nf fc']] w fun e w' => e = .returned (.bool true) ∧ Below w.heap.size w w' := by
  have H1 : Hid (RtIn 0 w r sa la xa qa oa fa) := h1
  have H2 : Hid (RtIn 0 w s sa' la' xa' qa' oa' fa') := h2
  have HF1 : Hid r.fits := hr
  have HF2 : Hid s.fits := hs
  clear h1 h2 hr hs
  go_enter Try.func4, Try.ntmps4
  go_wp2_with fail
  have b0 := bel2 w (.cells #[.int .i64 r.fr, .int .i64 r.to, .slice sa r.ns sc, .slice la r.nl lc, .slice xa r.nx xc, .slice qa r.np qc, .slice oa r.no oc, .slice fa r.nf fc] 28) (.cells #[.int .i64 s.fr, .int .i64 s.to, .slice sa' s.ns sc', .slice la' s.nl lc', .slice xa' s.nx xc', .slice qa' s.np qc', .slice oa' s.no oc', .slice fa' s.nf fc'] 28)
  have A0 := (Box.new w 28 #[.int .i64 r.fr, .int .i64 r.to, .slice sa r.ns sc, .slice la r.nl lc, .slice xa r.nx xc, .slice qa r.np qc, .slice oa r.no oc, .slice fa r.nf fc]).alloc (.cells #[.int .i64 s.fr, .int .i64 s.to, .slice sa' s.ns sc', .slice la' s.nl lc', .slice xa' s.nx xc', .slice qa' s.np qc', .slice oa' s.no oc', .slice fa' s.nf fc'] 28)
  have X0 : Box ((w.alloc (.cells #[.int .i64 r.fr, .int .i64 r.to, .slice sa r.ns sc, .slice la r.nl lc, .slice xa r.nx xc, .slice qa r.np qc, .slice oa r.no oc, .slice fa r.nf fc] 28)).alloc (.cells #[.int .i64 s.fr, .int .i64 s.to, .slice sa' s.ns sc', .slice la' s.nl lc', .slice xa' s.nx xc', .slice qa' s.np qc', .slice oa' s.no oc', .slice fa' s.nf fc'] 28)) (w.heap.size + 1) 28 #[.int .i64 s.fr, .int .i64 s.to, .slice sa' s.ns sc', .slice la' s.nl lc', .slice xa' s.nx xc', .slice qa' s.np qc', .slice oa' s.no oc', .slice fa' s.nf fc'] := by
    have := Box.new (w.alloc (.cells #[.int .i64 r.fr, .int .i64 r.to, .slice sa r.ns sc, .slice la r.nl lc, .slice xa r.nx xc, .slice qa r.np qc, .slice oa r.no oc, .slice fa r.nf fc] 28)) 28 #[.int .i64 s.fr, .int .i64 s.to, .slice sa' s.ns sc', .slice la' s.nl lc', .slice xa' s.nx xc', .slice qa' s.np qc', .slice oa' s.no oc', .slice fa' s.nf fc']
    simpa using this
  refine (szRoute r sa la xa qa oa fa sc lc xc qc oc fc 1048576 _ HF1.out (by omega) (by omega)).mono ?_
  rintro e w1 ⟨k1, rfl, hk1, hk1', hb1⟩
  have B1 := b0.trans (hb1.mono b0.size)
  have A1 := A0.mono hb1 (Nat.le_refl _)
  have X1 := X0.mono hb1 (Nat.le_refl _)
  clear b0 A0 X0 hb1
  by_cases hneg : k1 < 0
  · clear hk1
    go_wp2_with fail
    go_ret
    exact ⟨rfl, B1⟩
  · have hsum := hk1 (by omega)
    obtain ⟨x0, x1, x2, x3, x4, x5, x6, x7⟩ := X1.eight
    have HA1 : Hid (Box w1 w.heap.size 28 #[.int .i64 r.fr, .int .i64 r.to, .slice sa r.ns sc, .slice la r.nl lc, .slice xa r.nx xc, .slice qa r.np qc, .slice oa r.no oc, .slice fa r.nf fc]) := A1
    have HX1 : Hid (Box w1 (w.heap.size + 1) 28 #[.int .i64 s.fr, .int .i64 s.to, .slice sa' s.ns sc', .slice la' s.nl lc', .slice xa' s.nx xc', .slice qa' s.np qc', .slice oa' s.no oc', .slice fa' s.nf fc']) := X1
    clear A1 X1 hk1
    go_wp2_with fail
    clear x0 x1 x2 x3 x4 x5 x6 x7
    refine (szRoute s sa' la' xa' qa' oa' fa' sc' lc' xc' qc' oc' fc' k1 _ HF2.out (by omega) (by omega)).mono ?_
    rintro e w2 ⟨k2, rfl, hk2, hk2', hb2⟩
    have B2 := B1.trans (hb2.mono B1.size)
    have HA2 : Hid (Box w2 w.heap.size 28 #[.int .i64 r.fr, .int .i64 r.to, .slice sa r.ns sc, .slice la r.nl lc, .slice xa r.nx xc, .slice qa r.np qc, .slice oa r.no oc, .slice fa r.nf fc]) := HA1.out.mono hb2 (Nat.le_refl _)
    have HX2 : Hid (Box w2 (w.heap.size + 1) 28 #[.int .i64 s.fr, .int .i64 s.to, .slice sa' s.ns sc', .slice la' s.nl lc', .slice xa' s.nx xc', .slice qa' s.np qc', .slice oa' s.no oc', .slice fa' s.nf fc']) := HX1.out.mono hb2 (Nat.le_refl _)
    clear HA1 HX1 B1 hb2
    by_cases hneg2 : k2 < 0
    · clear hk2
      go_wp2_with fail
      go_ret
      exact ⟨rfl, B2⟩
    · have hsum2 := hk2 (by omega)
      have hr0 : r.sum ≤ 1048576 := by omega
      have hs0 : s.sum ≤ 1048576 := by omega
      have HRM : Hid r.small := Rt.small_of hr0
      have HSM : Hid s.small := Rt.small_of hs0
      have hrl : r.nl + r.nf ≤ 1048576 := by unfold Rt.sum at hr0; omega
      have hsl : s.nl + s.nf ≤ 1048576 := by unfold Rt.sum at hs0; omega
      clear hk2 hsum hsum2 hr0 hs0
      have HI1 : Hid (RtIn 0 w2.drew r sa la xa qa oa fa) := H1.out.mono (Nat.le_refl _) B2.drew (Nat.le_refl _)
      have HI2 : Hid (RtIn 0 w2.drew s sa' la' xa' qa' oa' fa') := H2.out.mono (Nat.le_refl _) B2.drew (Nat.le_refl _)
      have HD : Hid (Below w.heap.size w w2.drew) := B2.drew
      have HAd : Hid (Box w2.drew w.heap.size 28 #[.int .i64 r.fr, .int .i64 r.to, .slice sa r.ns sc, .slice la r.nl lc, .slice xa r.nx xc, .slice qa r.np qc, .slice oa r.no oc, .slice fa r.nf fc]) := HA2.out.drew
      have HXd : Hid (Box w2.drew (w.heap.size + 1) 28 #[.int .i64 s.fr, .int .i64 s.to, .slice sa' s.ns sc', .slice la' s.nl lc', .slice xa' s.nx xc', .slice qa' s.np qc', .slice oa' s.no oc', .slice fa' s.nf fc']) := HX2.out.drew
      obtain ⟨u0, u1, u2, u3, u4, u5, u6, u7⟩ := HA2.out.eight
      obtain ⟨x0, x1, x2, x3, x4, x5, x6, x7⟩ := HX2.out.eight
      clear HA2 HX2 B2
      go_wp2_with fail
      go_region_held3 (fun w' => (w'.cell? ⟨w.heap.size, 0, none⟩ = some (.int .i64 r.fr) ∧ w'.cell? ⟨w.heap.size, 1, none⟩ = some (.int .i64 r.to) ∧ w'.cell? ⟨w.heap.size, 2, none⟩ = some (.slice sa r.ns sc) ∧ w'.cell? ⟨w.heap.size, 3, none⟩ = some (.slice la r.nl lc) ∧ w'.cell? ⟨w.heap.size, 4, none⟩ = some (.slice xa r.nx xc) ∧ w'.cell? ⟨w.heap.size, 5, none⟩ = some (.slice qa r.np qc) ∧ w'.cell? ⟨w.heap.size, 6, none⟩ = some (.slice oa r.no oc) ∧ w'.cell? ⟨w.heap.size, 7, none⟩ = some (.slice fa r.nf fc)) ∧ (w'.cell? ⟨w.heap.size + 1, 0, none⟩ = some (.int .i64 s.fr) ∧ w'.cell? ⟨w.heap.size + 1, 1, none⟩ = some (.int .i64 s.to) ∧ w'.cell? ⟨w.heap.size + 1, 2, none⟩ = some (.slice sa' s.ns sc') ∧ w'.cell? ⟨w.heap.size + 1, 3, none⟩ = some (.slice la' s.nl lc') ∧ w'.cell? ⟨w.heap.size + 1, 4, none⟩ = some (.slice xa' s.nx xc') ∧ w'.cell? ⟨w.heap.size + 1, 5, none⟩ = some (.slice qa' s.np qc') ∧ w'.cell? ⟨w.heap.size + 1, 6, none⟩ = some (.slice oa' s.no oc') ∧ w'.cell? ⟨w.heap.size + 1, 7, none⟩ = some (.slice fa' s.nf fc'))) (go_keep) (first
        | (go_at_call_of 8 r.fr; refine (toRoute r sa la xa qa oa fa sc lc xc qc oc fc _ HRM.out HI1.out).mono ?_; rintro e w3 ⟨b1, b2, b3, b4, b5, b6, rfl, R3, hb3⟩; have HR3 : Hid (RtOwn _ w3 r b1 b2 b3 b4 b5 b6) := R3; clear R3; obtain ⟨m0, m1, m2, m3, m4, m5, m6, m7⟩ := (HAd.out.mono hb3 (Nat.le_refl _)).eight; obtain ⟨n0, n1, n2, n3, n4, n5, n6, n7⟩ := (HXd.out.mono hb3 (Nat.le_refl _)).eight)
        | (go_at_call_of 8 s.fr; refine (toRoute s sa' la' xa' qa' oa' fa' sc' lc' xc' qc' oc' fc' _ HSM.out (HI2.out.mono (Nat.le_refl _) hb3 (Nat.le_refl _))).mono ?_; rintro e w4 ⟨d1, d2, d3, d4, d5, d6, rfl, R4, hb4⟩; have HR4 : Hid (RtOwn _ w4 s d1 d2 d3 d4 d5 d6) := R4; clear R4; have hc4 := hb3.trans (hb4.mono hb3.size); have HR34 : Hid (RtOwn _ w4 r b1 b2 b3 b4 b5 b6) := HR3.out.mono (Nat.le_refl _) hb4 (Nat.le_refl _); obtain ⟨m0, m1, m2, m3, m4, m5, m6, m7⟩ := (HAd.out.mono hc4 (Nat.le_refl _)).eight; obtain ⟨n0, n1, n2, n3, n4, n5, n6, n7⟩ := (HXd.out.mono hc4 (Nat.le_refl _)).eight)
        | (go_at_call 15; refine (excludeS r s (some ⟨b1, 0, none⟩) (some ⟨b2, 0, none⟩) (some ⟨b3, 0, none⟩) (some ⟨b4, 0, none⟩) (some ⟨b5, 0, none⟩) (some ⟨b6, 0, none⟩) r.ns r.nl r.nx r.np r.no r.nf (some ⟨d1, 0, none⟩) (some ⟨d2, 0, none⟩) (some ⟨d3, 0, none⟩) (some ⟨d4, 0, none⟩) (some ⟨d5, 0, none⟩) (some ⟨d6, 0, none⟩) s.ns s.nl s.nx s.np s.no s.nf _ HRM.out HSM.out hrl hsl (HR34.out.mono (Nat.zero_le _) (Below.refl _ _) (Nat.le_refl _)).rt (HR4.out.mono (Nat.zero_le _) (Below.refl _ _) (Nat.le_refl _)).rt).mono ?_; rintro e w5 ⟨rfl, hb5⟩; have hc5 := hc4.trans (hb5.mono hc4.size); obtain ⟨m0, m1, m2, m3, m4, m5, m6, m7⟩ := (HAd.out.mono hc5 (Nat.le_refl _)).eight; obtain ⟨n0, n1, n2, n3, n4, n5, n6, n7⟩ := (HXd.out.mono hc5 (Nat.le_refl _)).eight))
      have B5 := HD.out.trans (hc5.mono HD.out.size)
      have HA5 : Hid (Box w5 w.heap.size 28 #[.int .i64 r.fr, .int .i64 r.to, .slice sa r.ns sc, .slice la r.nl lc, .slice xa r.nx xc, .slice qa r.np qc, .slice oa r.no oc, .slice fa r.nf fc]) := HAd.out.mono hc5 (Nat.le_refl _)
      have HX5 : Hid (Box w5 (w.heap.size + 1) 28 #[.int .i64 s.fr, .int .i64 s.to, .slice sa' s.ns sc', .slice la' s.nl lc', .slice xa' s.nx xc', .slice qa' s.np qc', .slice oa' s.no oc', .slice fa' s.nf fc']) := HXd.out.mono hc5 (Nat.le_refl _)
      have HEX : Hid (∀ (W : World) (b1 b2 b3 b4 b5 b6 d1 d2 d3 d4 d5 d6 C D : Nat), RtOwn C W r b1 b2 b3 b4 b5 b6 → RtOwn D W s d1 d2 d3 d4 d5 d6 → Calls Try.prog 16 #[.agg #[.int .i64 r.fr, .int .i64 r.to, .slice (some ⟨b1, 0, none⟩) r.ns r.ns, .slice (some ⟨b2, 0, none⟩) r.nl r.nl, .slice (some ⟨b3, 0, none⟩) r.nx r.nx, .slice (some ⟨b4, 0, none⟩) r.np r.np, .slice (some ⟨b5, 0, none⟩) r.no r.no, .slice (some ⟨b6, 0, none⟩) r.nf r.nf], .agg #[.int .i64 s.fr, .int .i64 s.to, .slice (some ⟨d1, 0, none⟩) s.ns s.ns, .slice (some ⟨d2, 0, none⟩) s.nl s.nl, .slice (some ⟨d3, 0, none⟩) s.nx s.nx, .slice (some ⟨d4, 0, none⟩) s.np s.np, .slice (some ⟨d5, 0, none⟩) s.no s.no, .slice (some ⟨d6, 0, none⟩) s.nf s.nf]] W fun e w' => e = .returned (.int .i64 (exF r s)) ∧ Below W.heap.size W w') := fun W b1 b2 b3 b4 b5 b6 d1 d2 d3 d4 d5 d6 C D g1 g2 => exclude16 r s b1 b2 b3 b4 b5 b6 d1 d2 d3 d4 d5 d6 C D W HRM.out HSM.out hrl hsl g1 g2
      generalize exF r s = ex at *
      clear hc5 hc4 hb3 hb4 hb5 HI1 HI2 HD HAd HXd HR3 HR4 HR34 u0 u1 u2 u3 u4 u5 u6 u7 x0 x1 x2 x3 x4 x5 x6 x7
      obtain ⟨u0, u1, u2, u3, u4, u5, u6, u7⟩ := HA5.out.eight
      go_wp2_with fail
      refine (toRoute r sa la xa qa oa fa sc lc xc qc oc fc _ HRM.out (H1.out.mono (Nat.le_refl _) B5 (Nat.le_refl _))).mono ?_
      rintro e w6 ⟨b1, b2, b3, b4, b5, b6, rfl, R6, hb6⟩
      have B6 := B5.trans (hb6.mono B5.size)
      have HA6 : Hid (Box w6 w.heap.size 28 #[.int .i64 r.fr, .int .i64 r.to, .slice sa r.ns sc, .slice la r.nl lc, .slice xa r.nx xc, .slice qa r.np qc, .slice oa r.no oc, .slice fa r.nf fc]) := HA5.out.mono hb6 (Nat.le_refl _)
      have X6 := HX5.out.mono hb6 (Nat.le_refl _)
      have HR6 : Hid (RtOwn w5.heap.size w6 r b1 b2 b3 b4 b5 b6) := R6
      clear R6 hb6 u0 u1 u2 u3 u4 u5 u6 u7 HA5 HX5 B5
      obtain ⟨x0, x1, x2, x3, x4, x5, x6, x7⟩ := X6.eight
      have hx6 := X6.lt
      have HX6 : Hid (Box w6 (w.heap.size + 1) 28 #[.int .i64 s.fr, .int .i64 s.to, .slice sa' s.ns sc', .slice la' s.nl lc', .slice xa' s.nx xc', .slice qa' s.np qc', .slice oa' s.no oc', .slice fa' s.nf fc']) := X6
      clear X6
      go_wp2_with fail
      clear x0 x1 x2 x3 x4 x5 x6 x7
      have c7 := bel1 w6 (.cells #[.int .i64 r.fr, .int .i64 r.to, .slice (some ⟨b1, 0, none⟩) r.ns r.ns, .slice (some ⟨b2, 0, none⟩) r.nl r.nl, .slice (some ⟨b3, 0, none⟩) r.nx r.nx, .slice (some ⟨b4, 0, none⟩) r.np r.np, .slice (some ⟨b5, 0, none⟩) r.no r.no, .slice (some ⟨b6, 0, none⟩) r.nf r.nf] 36)
      have B7 := B6.trans (c7.mono B6.size)
      refine (toRoute s sa' la' xa' qa' oa' fa' sc' lc' xc' qc' oc' fc' _ HSM.out (H2.out.mono (Nat.le_refl _) B7 (Nat.le_refl _))).mono ?_
      rintro e w8 ⟨d1, d2, d3, d4, d5, d6, rfl, R8, hb8⟩
      have c68 := c7.trans (hb8.mono c7.size)
      have B8 := B7.trans (hb8.mono B7.size)
      have P8 : Box w8 w6.heap.size 36 #[.int .i64 r.fr, .int .i64 r.to, .slice (some ⟨b1, 0, none⟩) r.ns r.ns, .slice (some ⟨b2, 0, none⟩) r.nl r.nl, .slice (some ⟨b3, 0, none⟩) r.nx r.nx, .slice (some ⟨b4, 0, none⟩) r.np r.np, .slice (some ⟨b5, 0, none⟩) r.no r.no, .slice (some ⟨b6, 0, none⟩) r.nf r.nf] := (Box.new w6 36 _).mono hb8 (Nat.le_refl _)
      have HA8 : Hid (Box w8 w.heap.size 28 #[.int .i64 r.fr, .int .i64 r.to, .slice sa r.ns sc, .slice la r.nl lc, .slice xa r.nx xc, .slice qa r.np qc, .slice oa r.no oc, .slice fa r.nf fc]) := HA6.out.mono c68 (Nat.le_refl _)
      have HX8 : Hid (Box w8 (w.heap.size + 1) 28 #[.int .i64 s.fr, .int .i64 s.to, .slice sa' s.ns sc', .slice la' s.nl lc', .slice xa' s.nx xc', .slice qa' s.np qc', .slice oa' s.no oc', .slice fa' s.nf fc']) := HX6.out.mono c68 (Nat.le_refl _)
      have HR8 : Hid (RtOwn w5.heap.size w8 r b1 b2 b3 b4 b5 b6) := HR6.out.mono (Nat.le_refl _) c68 (Nat.le_refl _)
      have HS8 : Hid (RtOwn _ w8 s d1 d2 d3 d4 d5 d6) := R8
      obtain ⟨x0, x1, x2, x3, x4, x5, x6, x7⟩ := P8.eight
      have hp8 := P8.lt
      have HP8 : Hid (Box w8 w6.heap.size 36 #[.int .i64 r.fr, .int .i64 r.to, .slice (some ⟨b1, 0, none⟩) r.ns r.ns, .slice (some ⟨b2, 0, none⟩) r.nl r.nl, .slice (some ⟨b3, 0, none⟩) r.nx r.nx, .slice (some ⟨b4, 0, none⟩) r.np r.np, .slice (some ⟨b5, 0, none⟩) r.no r.no, .slice (some ⟨b6, 0, none⟩) r.nf r.nf]) := P8
      clear P8 R8 hb8 c68 c7 B7 B6 HA6 HX6 HR6
      go_wp2_with fail
      clear x0 x1 x2 x3 x4 x5 x6 x7
      have c9 := bel1 w8 (.cells #[.int .i64 s.fr, .int .i64 s.to, .slice (some ⟨d1, 0, none⟩) s.ns s.ns, .slice (some ⟨d2, 0, none⟩) s.nl s.nl, .slice (some ⟨d3, 0, none⟩) s.nx s.nx, .slice (some ⟨d4, 0, none⟩) s.np s.np, .slice (some ⟨d5, 0, none⟩) s.no s.no, .slice (some ⟨d6, 0, none⟩) s.nf s.nf] 36)
      have B9 := B8.trans (c9.mono B8.size)
      refine (HEX.out _ b1 b2 b3 b4 b5 b6 d1 d2 d3 d4 d5 d6 _ _ (HR8.out.mono (Nat.le_refl _) c9 (Nat.le_refl _)) (HS8.out.mono (Nat.le_refl _) c9 (Nat.le_refl _))).mono ?_
      rintro e w10 ⟨rfl, hb10⟩
      have c10 := (c9.trans (hb10.mono c9.size)).drew
      have B10 : Hid (Below w.heap.size w w10.drew) := B8.trans (c10.mono B8.size)
      have HP10 : Hid (Box w10.drew w6.heap.size 36 #[.int .i64 r.fr, .int .i64 r.to, .slice (some ⟨b1, 0, none⟩) r.ns r.ns, .slice (some ⟨b2, 0, none⟩) r.nl r.nl, .slice (some ⟨b3, 0, none⟩) r.nx r.nx, .slice (some ⟨b4, 0, none⟩) r.np r.np, .slice (some ⟨b5, 0, none⟩) r.no r.no, .slice (some ⟨b6, 0, none⟩) r.nf r.nf]) := HP8.out.mono c10 (Nat.le_refl _)
      have HY10 : Hid (Box w10.drew w8.heap.size 36 #[.int .i64 s.fr, .int .i64 s.to, .slice (some ⟨d1, 0, none⟩) s.ns s.ns, .slice (some ⟨d2, 0, none⟩) s.nl s.nl, .slice (some ⟨d3, 0, none⟩) s.nx s.nx, .slice (some ⟨d4, 0, none⟩) s.np s.np, .slice (some ⟨d5, 0, none⟩) s.no s.no, .slice (some ⟨d6, 0, none⟩) s.nf s.nf]) := ((Box.new w8 36 _).mono hb10 (Nat.le_refl _)).drew
      have HA10 : Hid (Box w10.drew w.heap.size 28 #[.int .i64 r.fr, .int .i64 r.to, .slice sa r.ns sc, .slice la r.nl lc, .slice xa r.nx xc, .slice qa r.np qc, .slice oa r.no oc, .slice fa r.nf fc]) := HA8.out.mono c10 (Nat.le_refl _)
      have HX10 : Hid (Box w10.drew (w.heap.size + 1) 28 #[.int .i64 s.fr, .int .i64 s.to, .slice sa' s.ns sc', .slice la' s.nl lc', .slice xa' s.nx xc', .slice qa' s.np qc', .slice oa' s.no oc', .slice fa' s.nf fc']) := HX8.out.mono c10 (Nat.le_refl _)
      have HR10 : Hid (RtOwn w5.heap.size w10.drew r b1 b2 b3 b4 b5 b6) := HR8.out.mono (Nat.le_refl _) c10 (Nat.le_refl _)
      have HS10 : Hid (RtOwn _ w10.drew s d1 d2 d3 d4 d5 d6) := HS8.out.mono (Nat.le_refl _) c10 (Nat.le_refl _)
      clear c10 c9 hb10 B8 B9 HP8 HA8 HX8 HR8 HS8 HEX
      obtain ⟨u0, u1, u2, u3, u4, u5, u6, u7⟩ := HA10.out.eight
      obtain ⟨x0, x1, x2, x3, x4, x5, x6, x7⟩ := HP10.out.eight
      have u0 : w10.cell? _ = _ := u0
      have u1 : w10.cell? _ = _ := u1
      have u2 : w10.cell? _ = _ := u2
      have u3 : w10.cell? _ = _ := u3
      have u4 : w10.cell? _ = _ := u4
      have u5 : w10.cell? _ = _ := u5
      have u6 : w10.cell? _ = _ := u6
      have u7 : w10.cell? _ = _ := u7
      have x0 : w10.cell? _ = _ := x0
      have x1 : w10.cell? _ = _ := x1
      have x2 : w10.cell? _ = _ := x2
      have x3 : w10.cell? _ = _ := x3
      have x4 : w10.cell? _ = _ := x4
      have x5 : w10.cell? _ = _ := x5
      have x6 : w10.cell? _ = _ := x6
      have x7 : w10.cell? _ = _ := x7
      go_wp2_with fail
      go_region_held3 (fun w' => (w'.cell? ⟨w.heap.size, 0, none⟩ = some (.int .i64 r.fr) ∧ w'.cell? ⟨w.heap.size, 1, none⟩ = some (.int .i64 r.to) ∧ w'.cell? ⟨w.heap.size, 2, none⟩ = some (.slice sa r.ns sc) ∧ w'.cell? ⟨w.heap.size, 3, none⟩ = some (.slice la r.nl lc) ∧ w'.cell? ⟨w.heap.size, 4, none⟩ = some (.slice xa r.nx xc) ∧ w'.cell? ⟨w.heap.size, 5, none⟩ = some (.slice qa r.np qc) ∧ w'.cell? ⟨w.heap.size, 6, none⟩ = some (.slice oa r.no oc) ∧ w'.cell? ⟨w.heap.size, 7, none⟩ = some (.slice fa r.nf fc)) ∧ (w'.cell? ⟨w6.heap.size, 0, none⟩ = some (.int .i64 r.fr) ∧ w'.cell? ⟨w6.heap.size, 1, none⟩ = some (.int .i64 r.to) ∧ w'.cell? ⟨w6.heap.size, 2, none⟩ = some (.slice (some ⟨b1, 0, none⟩) r.ns r.ns) ∧ w'.cell? ⟨w6.heap.size, 3, none⟩ = some (.slice (some ⟨b2, 0, none⟩) r.nl r.nl) ∧ w'.cell? ⟨w6.heap.size, 4, none⟩ = some (.slice (some ⟨b3, 0, none⟩) r.nx r.nx) ∧ w'.cell? ⟨w6.heap.size, 5, none⟩ = some (.slice (some ⟨b4, 0, none⟩) r.np r.np) ∧ w'.cell? ⟨w6.heap.size, 6, none⟩ = some (.slice (some ⟨b5, 0, none⟩) r.no r.no) ∧ w'.cell? ⟨w6.heap.size, 7, none⟩ = some (.slice (some ⟨b6, 0, none⟩) r.nf r.nf))) (go_keep) (first
        | (go_at_call 8; refine (toRoute r sa la xa qa oa fa sc lc xc qc oc fc _ HRM.out (H1.out.mono (Nat.le_refl _) B10.out (Nat.le_refl _))).mono ?_; rintro e w11 ⟨f1, f2, f3, f4, f5, f6, rfl, R11, hb11⟩; have HR11 : Hid (RtOwn _ w11 r f1 f2 f3 f4 f5 f6) := R11; clear R11; obtain ⟨m0, m1, m2, m3, m4, m5, m6, m7⟩ := (HA10.out.mono hb11 (Nat.le_refl _)).eight; obtain ⟨n0, n1, n2, n3, n4, n5, n6, n7⟩ := (HP10.out.mono hb11 (Nat.le_refl _)).eight)
        | (go_at_call 11; refine (eqRoute48 r (some ⟨b1, 0, none⟩) (some ⟨b2, 0, none⟩) (some ⟨b3, 0, none⟩) (some ⟨b4, 0, none⟩) (some ⟨b5, 0, none⟩) (some ⟨b6, 0, none⟩) (some ⟨f1, 0, none⟩) (some ⟨f2, 0, none⟩) (some ⟨f3, 0, none⟩) (some ⟨f4, 0, none⟩) (some ⟨f5, 0, none⟩) (some ⟨f6, 0, none⟩) r.ns r.nl r.nx r.np r.no r.nf r.ns r.nl r.nx r.np r.no r.nf _ HRM.out ((HR10.out.mono (Nat.zero_le _) hb11 (Nat.le_refl _)).rt) ((HR11.out.mono (Nat.zero_le _) (Below.refl _ _) (Nat.le_refl _)).rt)).mono ?_; rintro e w12 ⟨rfl, hb12⟩; have hc12 := hb11.trans (hb12.mono hb11.size); obtain ⟨m0, m1, m2, m3, m4, m5, m6, m7⟩ := (HA10.out.mono hc12 (Nat.le_refl _)).eight; obtain ⟨n0, n1, n2, n3, n4, n5, n6, n7⟩ := (HP10.out.mono hc12 (Nat.le_refl _)).eight))
      have c12 := hc12.drew
      have B12 : Hid (Below w.heap.size w w12.drew) := B10.out.trans (c12.mono B10.out.size)
      have HY12 : Hid (Box w12.drew w8.heap.size 36 #[.int .i64 s.fr, .int .i64 s.to, .slice (some ⟨d1, 0, none⟩) s.ns s.ns, .slice (some ⟨d2, 0, none⟩) s.nl s.nl, .slice (some ⟨d3, 0, none⟩) s.nx s.nx, .slice (some ⟨d4, 0, none⟩) s.np s.np, .slice (some ⟨d5, 0, none⟩) s.no s.no, .slice (some ⟨d6, 0, none⟩) s.nf s.nf]) := HY10.out.mono c12 (Nat.le_refl _)
      have HX12 : Hid (Box w12.drew (w.heap.size + 1) 28 #[.int .i64 s.fr, .int .i64 s.to, .slice sa' s.ns sc', .slice la' s.nl lc', .slice xa' s.nx xc', .slice qa' s.np qc', .slice oa' s.no oc', .slice fa' s.nf fc']) := HX10.out.mono c12 (Nat.le_refl _)
      have HS12 : Hid (RtOwn _ w12.drew s d1 d2 d3 d4 d5 d6) := HS10.out.mono (Nat.le_refl _) c12 (Nat.le_refl _)
      clear c12 hc12 hb11 hb12 HR11 HP10 HY10 HA10 HX10 HR10 HS10 B10 u0 u1 u2 u3 u4 u5 u6 u7 x0 x1 x2 x3 x4 x5 x6 x7
      obtain ⟨u0, u1, u2, u3, u4, u5, u6, u7⟩ := HX12.out.eight
      obtain ⟨x0, x1, x2, x3, x4, x5, x6, x7⟩ := HY12.out.eight
      have u0 : w12.cell? _ = _ := u0
      have u1 : w12.cell? _ = _ := u1
      have u2 : w12.cell? _ = _ := u2
      have u3 : w12.cell? _ = _ := u3
      have u4 : w12.cell? _ = _ := u4
      have u5 : w12.cell? _ = _ := u5
      have u6 : w12.cell? _ = _ := u6
      have u7 : w12.cell? _ = _ := u7
      have x0 : w12.cell? _ = _ := x0
      have x1 : w12.cell? _ = _ := x1
      have x2 : w12.cell? _ = _ := x2
      have x3 : w12.cell? _ = _ := x3
      have x4 : w12.cell? _ = _ := x4
      have x5 : w12.cell? _ = _ := x5
      have x6 : w12.cell? _ = _ := x6
      have x7 : w12.cell? _ = _ := x7
      go_wp2_with fail
      go_region_held3 (fun w' => (w'.cell? ⟨w.heap.size + 1, 0, none⟩ = some (.int .i64 s.fr) ∧ w'.cell? ⟨w.heap.size + 1, 1, none⟩ = some (.int .i64 s.to) ∧ w'.cell? ⟨w.heap.size + 1, 2, none⟩ = some (.slice sa' s.ns sc') ∧ w'.cell? ⟨w.heap.size + 1, 3, none⟩ = some (.slice la' s.nl lc') ∧ w'.cell? ⟨w.heap.size + 1, 4, none⟩ = some (.slice xa' s.nx xc') ∧ w'.cell? ⟨w.heap.size + 1, 5, none⟩ = some (.slice qa' s.np qc') ∧ w'.cell? ⟨w.heap.size + 1, 6, none⟩ = some (.slice oa' s.no oc') ∧ w'.cell? ⟨w.heap.size + 1, 7, none⟩ = some (.slice fa' s.nf fc')) ∧ (w'.cell? ⟨w8.heap.size, 0, none⟩ = some (.int .i64 s.fr) ∧ w'.cell? ⟨w8.heap.size, 1, none⟩ = some (.int .i64 s.to) ∧ w'.cell? ⟨w8.heap.size, 2, none⟩ = some (.slice (some ⟨d1, 0, none⟩) s.ns s.ns) ∧ w'.cell? ⟨w8.heap.size, 3, none⟩ = some (.slice (some ⟨d2, 0, none⟩) s.nl s.nl) ∧ w'.cell? ⟨w8.heap.size, 4, none⟩ = some (.slice (some ⟨d3, 0, none⟩) s.nx s.nx) ∧ w'.cell? ⟨w8.heap.size, 5, none⟩ = some (.slice (some ⟨d4, 0, none⟩) s.np s.np) ∧ w'.cell? ⟨w8.heap.size, 6, none⟩ = some (.slice (some ⟨d5, 0, none⟩) s.no s.no) ∧ w'.cell? ⟨w8.heap.size, 7, none⟩ = some (.slice (some ⟨d6, 0, none⟩) s.nf s.nf))) (go_keep) (first
        | (go_at_call 8; refine (toRoute s sa' la' xa' qa' oa' fa' sc' lc' xc' qc' oc' fc' _ HSM.out (H2.out.mono (Nat.le_refl _) B12.out (Nat.le_refl _))).mono ?_; rintro e w13 ⟨f1, f2, f3, f4, f5, f6, rfl, R13, hb13⟩; have HR13 : Hid (RtOwn _ w13 s f1 f2 f3 f4 f5 f6) := R13; clear R13; obtain ⟨m0, m1, m2, m3, m4, m5, m6, m7⟩ := (HX12.out.mono hb13 (Nat.le_refl _)).eight; obtain ⟨n0, n1, n2, n3, n4, n5, n6, n7⟩ := (HY12.out.mono hb13 (Nat.le_refl _)).eight)
        | (go_at_call 11; refine (eqRoute48 s (some ⟨d1, 0, none⟩) (some ⟨d2, 0, none⟩) (some ⟨d3, 0, none⟩) (some ⟨d4, 0, none⟩) (some ⟨d5, 0, none⟩) (some ⟨d6, 0, none⟩) (some ⟨f1, 0, none⟩) (some ⟨f2, 0, none⟩) (some ⟨f3, 0, none⟩) (some ⟨f4, 0, none⟩) (some ⟨f5, 0, none⟩) (some ⟨f6, 0, none⟩) s.ns s.nl s.nx s.np s.no s.nf s.ns s.nl s.nx s.np s.no s.nf _ HSM.out ((HS12.out.mono (Nat.zero_le _) hb13 (Nat.le_refl _)).rt) ((HR13.out.mono (Nat.zero_le _) (Below.refl _ _) (Nat.le_refl _)).rt)).mono ?_; rintro e w14 ⟨rfl, hb14⟩; have hc14 := hb13.trans (hb14.mono hb13.size); obtain ⟨m0, m1, m2, m3, m4, m5, m6, m7⟩ := (HX12.out.mono hc14 (Nat.le_refl _)).eight; obtain ⟨n0, n1, n2, n3, n4, n5, n6, n7⟩ := (HY12.out.mono hc14 (Nat.le_refl _)).eight))
      go_wp2_with fail
      go_ret
      exact ⟨rfl, B12.out.trans (hc14.mono B12.out.size)⟩

end Go.Proofs.Ytpghgdnhfhdgmaa
