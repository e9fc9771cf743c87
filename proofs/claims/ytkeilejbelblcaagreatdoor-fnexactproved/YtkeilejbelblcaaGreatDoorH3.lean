import Derived.Test.YtkeilejbelblcaaGreatDoorGMoSm
import Derived.Test.YtkeilejbelblcaaGreatDoorGSaH5
namespace Go.Proofs.YtkeilejbelblcaaGreatDoor
open Go.RowKit

/-- two ways stand alike, as the document holds them against each other -/
def sameB (x y : Hl) : Bool := decide (x.st = y.st) && (decide (x.gone = y.gone) && (decide (x.shown = y.shown) && (decide (x.timer = y.timer) && allB (fun j => decide (x.B j = y.B j)) x.nb)))
theorem sameB_iff {x y : Hl} (hn : x.nb = y.nb) : sameB x y = true ↔ likeH x y := by
  simp only [sameB, Bool.and_eq_true, decide_eq_true_eq, allB_iff, likeH]
  exact ⟨fun ⟨a, b, c, d, e⟩ => ⟨a, b, hn, e, c, d⟩, fun ⟨a, b, _, e, c, d⟩ => ⟨a, b, c, d, e⟩⟩
set_option maxRecDepth 100000 in
set_option maxHeartbeats 16000000 in
theorem same35 (f g : Fm) (oa pa ha oa2 pa2 ha2 : Option Addr) (oc pc hc oc2 pc2 hc2 : Nat) (w : World) (hfs : f.nh ≤ 1048576) (hfb : ∀ i, i < f.nh → (f.Y i).nb ≤ 1048576) (hgb : ∀ i, i < f.nh → (g.Y i).nb = (f.Y i).nb) (hf : HsAt 0 w ha f.nh f.Y) (hh : HsAt 0 w ha2 f.nh g.Y) :
    Calls Tryz.prog 35 #[.agg #[.bool f.ok, .slice oa f.no oc, .slice pa f.np pc, .slice ha f.nh hc], .agg #[.bool g.ok, .slice oa2 g.no oc2, .slice pa2 g.np pc2, .slice ha2 f.nh hc2]] w fun e w' => e = .returned (.bool (allB (fun i => sameB (f.Y i) (g.Y i)) f.nh)) ∧ Below w.heap.size w w' := by
  have HX : Hid (Below w.heap.size w ((w.alloc (.cells #[.bool f.ok, .slice oa f.no oc, .slice pa f.np pc, .slice ha f.nh hc] 42)).alloc (.cells #[.bool g.ok, .slice oa2 g.no oc2, .slice pa2 g.np pc2, .slice ha2 f.nh hc2] 42)) ∧ Box ((w.alloc (.cells #[.bool f.ok, .slice oa f.no oc, .slice pa f.np pc, .slice ha f.nh hc] 42)).alloc (.cells #[.bool g.ok, .slice oa2 g.no oc2, .slice pa2 g.np pc2, .slice ha2 f.nh hc2] 42)) w.heap.size 42 #[.bool f.ok, .slice oa f.no oc, .slice pa f.np pc, .slice ha f.nh hc] ∧ Box ((w.alloc (.cells #[.bool f.ok, .slice oa f.no oc, .slice pa f.np pc, .slice ha f.nh hc] 42)).alloc (.cells #[.bool g.ok, .slice oa2 g.no oc2, .slice pa2 g.np pc2, .slice ha2 f.nh hc2] 42)) (w.heap.size + 1) 42 #[.bool g.ok, .slice oa2 g.no oc2, .slice pa2 g.np pc2, .slice ha2 f.nh hc2] ∧ HsAt 0 ((w.alloc (.cells #[.bool f.ok, .slice oa f.no oc, .slice pa f.np pc, .slice ha f.nh hc] 42)).alloc (.cells #[.bool g.ok, .slice oa2 g.no oc2, .slice pa2 g.np pc2, .slice ha2 f.nh hc2] 42)) ha f.nh f.Y ∧ HsAt 0 ((w.alloc (.cells #[.bool f.ok, .slice oa f.no oc, .slice pa f.np pc, .slice ha f.nh hc] 42)).alloc (.cells #[.bool g.ok, .slice oa2 g.no oc2, .slice pa2 g.np pc2, .slice ha2 f.nh hc2] 42)) ha2 f.nh g.Y ∧ (∀ i, i < f.nh → (f.Y i).nb ≤ 1048576 ∧ (g.Y i).nb = (f.Y i).nb)) := ⟨bel2 _ _ _, (Box.new _ _ _).alloc _, by have := Box.new (w.alloc (.cells #[.bool f.ok, .slice oa f.no oc, .slice pa f.np pc, .slice ha f.nh hc] 42)) 42 #[.bool g.ok, .slice oa2 g.no oc2, .slice pa2 g.np pc2, .slice ha2 f.nh hc2]; simpa using this, hf.mono (Nat.le_refl _) (bel2 _ _ _) (Nat.le_refl _), hh.mono (Nat.le_refl _) (bel2 _ _ _) (Nat.le_refl _), fun i hi => ⟨hfb i hi, hgb i hi⟩⟩
  obtain ⟨R, HR⟩ : ∃ R, Hid (allB (fun i => sameB (f.Y i) (g.Y i)) f.nh = R) := ⟨_, rfl⟩
  rw [HR.out]
  clear hf hh hfb hgb
  go_enter Tryz.func35, Tryz.ntmps35
  go_wp2_with fail
  generalize ((w.alloc (.cells #[.bool f.ok, .slice oa f.no oc, .slice pa f.np pc, .slice ha f.nh hc] 42)).alloc (.cells #[.bool g.ok, .slice oa2 g.no oc2, .slice pa2 g.np pc2, .slice ha2 f.nh hc2] 42)) = W at HX ⊢
  go_loopw [12] (fun i wr => ∃ q : Nat, q ≤ f.nh ∧ i = .int .i64 q ∧ Hid (∀ k, k < q → sameB (f.Y k) (g.Y k) = true) ∧ Hid (Below W.heap.size W wr)) (fun i _ => f.nh - (intOf i).toNat)
  case atStart => exact ⟨0, Nat.zero_le _, rfl, fun i hi => absurd hi (Nat.not_lt_zero _), Below.refl _ _⟩
  case round =>
    obtain ⟨q, hq, rfl, HQ, HBo⟩ := hrel
    by_cases hlt : q < f.nh
    · obtain ⟨b, off, hha, _, hb, hcc⟩ := HX.out.2.2.2.1.mono (Nat.le_refl _) HBo.out (Nat.le_refl _) (by omega)
      obtain ⟨xa, xc, x0, x1, x2, x3, x4, hv⟩ := hcc q hlt
      obtain ⟨b2, off2, hha2, _, hb2, hcc2⟩ := HX.out.2.2.2.2.1.mono (Nat.le_refl _) HBo.out (Nat.le_refl _) (by omega)
      obtain ⟨ya, yc, y0, y1, y2, y3, y4, hv2⟩ := hcc2 q (by omega)
      obtain ⟨hn1, hn2⟩ := HX.out.2.2.2.2.2 q hlt
      have HNO : Hid (sameB (f.Y q) (g.Y q) = false → R = false) := fun e => by rw [← HR.out]; exact allB_no hlt e
      rcases hX : f.Y q with ⟨xs, xg, nb, XB, xh, xt⟩
      rcases hY : g.Y q with ⟨ys, yg, nb2, YB, yh, yt⟩
      have HXY : Hid (f.Y q = ⟨xs, xg, nb, XB, xh, xt⟩ ∧ g.Y q = ⟨ys, yg, nb2, YB, yh, yt⟩) := ⟨hX, hY⟩
      rw [hX] at x0 x1 x2 x3 x4 hv hn1 hn2 HNO
      rw [hY] at y0 y1 y2 y3 y4 hv2 hn2 HNO
      dsimp only at x0 x1 x2 x3 x4 hv y0 y1 y2 y3 y4 hv2 hn1 hn2
      obtain rfl : nb = nb2 := hn2.symm
      have a3 : wr.cell? ⟨w.heap.size, 3, none⟩ = some (.slice ha f.nh hc) := (HX.out.2.1.mono HBo.out (Nat.le_refl _)).cell 3
      have a32 : wr.cell? ⟨w.heap.size + 1, 3, none⟩ = some (.slice ha2 f.nh hc2) := (HX.out.2.2.1.mono HBo.out (Nat.le_refl _)).cell 3
      clear hcc hcc2 hX hY
      subst hha
      subst hha2
      have hwl : w.heap.size + 1 < wr.heap.size := (HX.out.2.2.1.mono HBo.out (Nat.le_refl _)).lt
      have hq0 : (0 : Int) ≤ (q : Int) := by omega
      have hqn : (q : Int) < (f.nh : Int) := by omega
      have y0' := (cell_keep (bel1 wr (.cells #[.int .i64 xs, .int .i64 xg, .slice xa nb xc, .bool xh, .int .i64 xt] 72)) hb2 y0)
      have y1' := (cell_keep (bel1 wr (.cells #[.int .i64 xs, .int .i64 xg, .slice xa nb xc, .bool xh, .int .i64 xt] 72)) hb2 y1)
      have y2' := (cell_keep (bel1 wr (.cells #[.int .i64 xs, .int .i64 xg, .slice xa nb xc, .bool xh, .int .i64 xt] 72)) hb2 y2)
      have y3' := (cell_keep (bel1 wr (.cells #[.int .i64 xs, .int .i64 xg, .slice xa nb xc, .bool xh, .int .i64 xt] 72)) hb2 y3)
      have y4' := (cell_keep (bel1 wr (.cells #[.int .i64 xs, .int .i64 xg, .slice xa nb xc, .bool xh, .int .i64 xt] 72)) hb2 y4)
      have a32' := (cell_keep (bel1 wr (.cells #[.int .i64 xs, .int .i64 xg, .slice xa nb xc, .bool xh, .int .i64 xt] 72)) hwl a32)
      have HV : Hid (Box ((wr.alloc (.cells #[.int .i64 xs, .int .i64 xg, .slice xa nb xc, .bool xh, .int .i64 xt] 72)).alloc (.cells #[.int .i64 ys, .int .i64 yg, .slice ya nb yc, .bool yh, .int .i64 yt] 72)) wr.heap.size 72 #[.int .i64 xs, .int .i64 xg, .slice xa nb xc, .bool xh, .int .i64 xt] ∧ Box ((wr.alloc (.cells #[.int .i64 xs, .int .i64 xg, .slice xa nb xc, .bool xh, .int .i64 xt] 72)).alloc (.cells #[.int .i64 ys, .int .i64 yg, .slice ya nb yc, .bool yh, .int .i64 yt] 72)) (wr.heap.size + 1) 72 #[.int .i64 ys, .int .i64 yg, .slice ya nb yc, .bool yh, .int .i64 yt] ∧ VsAt 1 0 ((wr.alloc (.cells #[.int .i64 xs, .int .i64 xg, .slice xa nb xc, .bool xh, .int .i64 xt] 72)).alloc (.cells #[.int .i64 ys, .int .i64 yg, .slice ya nb yc, .bool yh, .int .i64 yt] 72)) xa nb (boolF XB) ∧ VsAt 1 0 ((wr.alloc (.cells #[.int .i64 xs, .int .i64 xg, .slice xa nb xc, .bool xh, .int .i64 xt] 72)).alloc (.cells #[.int .i64 ys, .int .i64 yg, .slice ya nb yc, .bool yh, .int .i64 yt] 72)) ya nb (boolF YB)) := ⟨(Box.new _ _ _).alloc _, by have := Box.new (wr.alloc (.cells #[.int .i64 xs, .int .i64 xg, .slice xa nb xc, .bool xh, .int .i64 xt] 72)) 72 #[.int .i64 ys, .int .i64 yg, .slice ya nb yc, .bool yh, .int .i64 yt]; simpa using this, hv.mono (Nat.le_refl _) (bel2 _ _ _) (Nat.le_refl _), hv2.mono (Nat.le_refl _) (bel2 _ _ _) (Nat.le_refl _)⟩
      have HVW : Hid (Below W.heap.size W ((wr.alloc (.cells #[.int .i64 xs, .int .i64 xg, .slice xa nb xc, .bool xh, .int .i64 xt] 72)).alloc (.cells #[.int .i64 ys, .int .i64 yg, .slice ya nb yc, .bool yh, .int .i64 yt] 72))) := (HBo.out.alloc HBo.out.size _).alloc (HBo.out.alloc HBo.out.size _).size _
      have HBT : Hid (Below w.heap.size w ((wr.alloc (.cells #[.int .i64 xs, .int .i64 xg, .slice xa nb xc, .bool xh, .int .i64 xt] 72)).alloc (.cells #[.int .i64 ys, .int .i64 yg, .slice ya nb yc, .bool yh, .int .i64 yt] 72))) := HX.out.1.trans (HVW.out.mono HX.out.1.size)
      clear y0 y1 y2 y3 y4 a32 hv hv2
      by_cases e0 : xs = ys
      · subst e0
        have z0 : (xs != xs) = false := by simp
        by_cases e1 : xg = yg
        · subst e1
          have z1 : (xg != xg) = false := by simp
          by_cases e2 : xh = yh
          · subst e2
            have z2 : (xh != xh) = false := by simp
            by_cases e3 : xt = yt
            · subst e3
              have z3 : (xt != xt) = false := by simp
              go_wp2_with fail
              generalize ((wr.alloc (.cells #[.int .i64 xs, .int .i64 xg, .slice xa nb xc, .bool xh, .int .i64 xt] 72)).alloc (.cells #[.int .i64 xs, .int .i64 xg, .slice ya nb yc, .bool xh, .int .i64 xt] 72)) = V at HV HVW HBT ⊢
              generalize wr.heap.size = xb at HV ⊢
              go_loopw [54] (fun j wi => ∃ r : Nat, r ≤ nb ∧ j = .int .i64 r ∧ Hid (∀ k, k < r → XB k = YB k) ∧ Hid (Below V.heap.size V wi)) (fun j _ => nb - (intOf j).toNat)
              case atStart => exact ⟨0, Nat.zero_le _, rfl, fun i hi => absurd hi (Nat.not_lt_zero _), Below.refl _ _⟩
              case round =>
                obtain ⟨r, hr, rfl, HQr, HB⟩ := hrel
                by_cases hrn : r < nb
                · obtain ⟨gb, go, rfl, _, hgb, hgc⟩ := HV.out.2.2.1.mono (Nat.le_refl _) HB.out (Nat.le_refl _) (by omega)
                  have c0 : wr.cell? ⟨gb, go + r, none⟩ = some (.bool (XB r)) := by have := hgc r hrn 0 (by omega); rwa [Nat.mul_one] at this
                  clear hgc
                  obtain ⟨pb, po, rfl, _, hpb, hpc⟩ := HV.out.2.2.2.mono (Nat.le_refl _) HB.out (Nat.le_refl _) (by omega)
                  have d0 : wr.cell? ⟨pb, po + r, none⟩ = some (.bool (YB r)) := by have := hpc r hrn 0 (by omega); rwa [Nat.mul_one] at this
                  clear hpc
                  have f1 : wr.cell? ⟨xb, 2, none⟩ = some (.slice (some ⟨gb, go, none⟩) nb xc) := (HV.out.1.mono HB.out (Nat.le_refl _)).cell 2
                  have f2 : wr.cell? ⟨xb + 1, 2, none⟩ = some (.slice (some ⟨pb, po, none⟩) nb yc) := (HV.out.2.1.mono HB.out (Nat.le_refl _)).cell 2
                  have hr0 : (0 : Int) ≤ (r : Int) := by omega
                  have hrn' : (r : Int) < (nb : Int) := by omega
                  have HBD : Hid (∀ v, Below w.heap.size w (wr.drewN v)) := fun v => below_drewN (HBT.out.trans (HB.out.mono HBT.out.size)) _
                  cases hx : XB r with
                  | true =>
                    rw [hx] at c0
                    cases hy : YB r with
                    | true =>
                      rw [hy] at d0
                      have HGO : Hid (∀ k, k < r + 1 → XB k = YB k) := fun k hk => by
                        by_cases e2 : k = r
                        · subst e2
                          rw [hx, hy]
                        · exact HQr.out k (by omega)
                      go_wp2_with fail
                      go_quiet (fail)
                      go_wp2_with fail
                      go_roundw
                      case rel => exact ⟨r + 1, by omega, by go_num, HGO, below_drewN HB.out _⟩
                      case measure => simp [intOf]; omega
                    | false =>
                      rw [hy] at d0
                      have HF : Hid (R = false) := HNO.out (by simp only [sameB]; rw [allB_no hrn (by simp [hx, hy])]; simp)
                      go_wp2_with fail
                      go_quiet (fail)
                      go_wp2_with fail
                      go_ret
                      exact ⟨by rw [HF.out]; rfl, HBD.out _⟩
                  | false =>
                    rw [hx] at c0
                    cases hy : YB r with
                    | true =>
                      rw [hy] at d0
                      have HF : Hid (R = false) := HNO.out (by simp only [sameB]; rw [allB_no hrn (by simp [hx, hy])]; simp)
                      go_wp2_with fail
                      go_quiet (fail)
                      go_wp2_with fail
                      go_ret
                      exact ⟨by rw [HF.out]; rfl, HBD.out _⟩
                    | false =>
                      rw [hy] at d0
                      have HGO : Hid (∀ k, k < r + 1 → XB k = YB k) := fun k hk => by
                        by_cases e2 : k = r
                        · subst e2
                          rw [hx, hy]
                        · exact HQr.out k (by omega)
                      go_wp2_with fail
                      go_quiet (fail)
                      go_wp2_with fail
                      go_roundw
                      case rel => exact ⟨r + 1, by omega, by go_num, HGO, below_drewN HB.out _⟩
                      case measure => simp [intOf]; omega
                · obtain rfl : r = nb := by omega
                  have HQ2 : Hid (∀ k, k < q + 1 → sameB (f.Y k) (g.Y k) = true) := fun k hk => by
                    by_cases e : k = q
                    · subst e
                      rw [HXY.out.1, HXY.out.2]
                      simp only [sameB, decide_true, Bool.true_and]
                      exact allB_iff.2 fun k hk => by simpa using HQr.out k hk
                    · exact HQ.out k (by omega)
                  go_wp2_with fail
                  go_roundw
                  case rel => exact ⟨q + 1, by omega, by go_num, HQ2, HVW.out.trans (HB.out.mono HVW.out.size)⟩
                  case measure => simp [intOf]; omega
            · have z3 : (xt != yt) = true := by simpa using e3
              have HF : Hid (R = false) := HNO.out (by simp [sameB, e3])
              go_wp2_with fail
              go_ret
              exact ⟨by rw [HF.out]; rfl, HBT.out⟩
          · have z2 : (xh != yh) = true := by simpa using e2
            have HF : Hid (R = false) := HNO.out (by simp [sameB, e2])
            go_wp2_with fail
            go_ret
            exact ⟨by rw [HF.out]; rfl, HBT.out⟩
        · have z1 : (xg != yg) = true := by simpa using e1
          have HF : Hid (R = false) := HNO.out (by simp [sameB, e1])
          go_wp2_with fail
          go_ret
          exact ⟨by rw [HF.out]; rfl, HBT.out⟩
      · have z0 : (xs != ys) = true := by simpa using e0
        have HF : Hid (R = false) := HNO.out (by simp [sameB, e0])
        go_wp2_with fail
        go_ret
        exact ⟨by rw [HF.out]; rfl, HBT.out⟩
    · obtain rfl : q = f.nh := by omega
      have HF : Hid (R = true) := by rw [Hid, ← HR.out]; exact allB_iff.2 HQ.out
      have HBT : Hid (Below w.heap.size w wr) := HX.out.1.trans (HBo.out.mono HX.out.1.size)
      go_wp2_with fail
      go_ret
      exact ⟨by rw [HF.out]; rfl, HBT.out⟩

end Go.Proofs.YtkeilejbelblcaaGreatDoor
