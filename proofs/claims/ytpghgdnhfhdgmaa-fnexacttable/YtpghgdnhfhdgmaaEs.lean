import Derived.Test.YtpghgdnhfhdgmaaTc
import Derived.Test.YtpghgdnhfhdgmaaCa
import Derived.Test.YtpghgdnhfhdgmaaNs
namespace Go.Proofs.Ytpghgdnhfhdgmaa
open Go.RowKit

theorem AgP.symm {f g : Nat → Int} (h : AgP f g) : AgP g f := ⟨h.1.symm, h.2.2, h.2.1⟩
theorem TO_iff (r s : Rt) : (∃ i, i < r.np ∧ ∃ j, j < s.no ∧ AgP (r.Q i) (s.O j)) ↔ TO s r :=
  ⟨fun ⟨i, hi, j, hj, h⟩ => ⟨j, hj, i, hi, h.symm⟩, fun ⟨i, hi, j, hj, h⟩ => ⟨j, hj, i, hi, h.symm⟩⟩

set_option maxRecDepth 100000 in
set_option maxHeartbeats 16000000 in
theorem excludeS (r s : Rt) (sa la xa qa oa fa : Option Addr) (sc lc xc qc oc fc : Nat) (sa' la' xa' qa' oa' fa' : Option Addr) (sc' lc' xc' qc' oc' fc' : Nat) (w : World) (hr : r.small) (hs : s.small) (hrl : r.nl + r.nf ≤ 1048576) (hsl : s.nl + s.nf ≤ 1048576) (h1 : RtIn 0 w r sa la xa qa oa fa) (h2 : RtIn 0 w s sa' la' xa' qa' oa' fa') :
    Calls Try.prog 15 #[.agg #[.int .i64 r.fr, .int .i64 r.to, .slice sa r.ns sc, .slice la r.nl lc, .slice xa r.nx xc, .slice qa r.np qc, .slice oa r.no oc, .slice fa r.nf fc], .agg #[.int .i64 s.fr, .int .i64 s.to, .slice sa' s.ns sc', .slice la' s.nl lc', .slice xa' s.nx xc', .slice qa' s.np qc', .slice oa' s.no oc', .slice fa' s.nf fc']] w fun e w' => e = .returned (.int .i64 (exF r s)) ∧ Below w.heap.size w w' := by
  obtain ⟨_, a2, a3, a4, a5, a6⟩ := hr
  obtain ⟨_, b2, b3, b4, b5, b6⟩ := hs
  have nr := ndR_len r
  have ns := ndR_len s
  have H1 : Hid (RtIn 0 w r sa la xa qa oa fa) := h1
  have H2 : Hid (RtIn 0 w s sa' la' xa' qa' oa' fa') := h2
  clear h1 h2
  go_enter Try.func15, Try.ntmps15
  go_wp2_with fail
  have b0 := bel2 w (.cells #[.int .i64 r.fr, .int .i64 r.to, .slice sa r.ns sc, .slice la r.nl lc, .slice xa r.nx xc, .slice qa r.np qc, .slice oa r.no oc, .slice fa r.nf fc] 36) (.cells #[.int .i64 s.fr, .int .i64 s.to, .slice sa' s.ns sc', .slice la' s.nl lc', .slice xa' s.nx xc', .slice qa' s.np qc', .slice oa' s.no oc', .slice fa' s.nf fc'] 36)
  have A0 := (Box.new w 36 #[.int .i64 r.fr, .int .i64 r.to, .slice sa r.ns sc, .slice la r.nl lc, .slice xa r.nx xc, .slice qa r.np qc, .slice oa r.no oc, .slice fa r.nf fc]).alloc (.cells #[.int .i64 s.fr, .int .i64 s.to, .slice sa' s.ns sc', .slice la' s.nl lc', .slice xa' s.nx xc', .slice qa' s.np qc', .slice oa' s.no oc', .slice fa' s.nf fc'] 36)
  have X0 : Box ((w.alloc (.cells #[.int .i64 r.fr, .int .i64 r.to, .slice sa r.ns sc, .slice la r.nl lc, .slice xa r.nx xc, .slice qa r.np qc, .slice oa r.no oc, .slice fa r.nf fc] 36)).alloc (.cells #[.int .i64 s.fr, .int .i64 s.to, .slice sa' s.ns sc', .slice la' s.nl lc', .slice xa' s.nx xc', .slice qa' s.np qc', .slice oa' s.no oc', .slice fa' s.nf fc'] 36)) (w.heap.size + 1) 36 #[.int .i64 s.fr, .int .i64 s.to, .slice sa' s.ns sc', .slice la' s.nl lc', .slice xa' s.nx xc', .slice qa' s.np qc', .slice oa' s.no oc', .slice fa' s.nf fc'] := by
    have := Box.new (w.alloc (.cells #[.int .i64 r.fr, .int .i64 r.to, .slice sa r.ns sc, .slice la r.nl lc, .slice xa r.nx xc, .slice qa r.np qc, .slice oa r.no oc, .slice fa r.nf fc] 36)) 36 #[.int .i64 s.fr, .int .i64 s.to, .slice sa' s.ns sc', .slice la' s.nl lc', .slice xa' s.nx xc', .slice qa' s.np qc', .slice oa' s.no oc', .slice fa' s.nf fc']
    simpa using this
  refine (touch46 qa r.np qc r.Q qa' s.np qc' s.Q _ a4 b4 (H1.out.mono (Nat.le_refl _) b0 (Nat.le_refl _)).q (H2.out.mono (Nat.le_refl _) b0 (Nat.le_refl _)).q).mono ?_
  rintro e w1 ⟨t1, rfl, ht1, hb1⟩
  have B1 := b0.trans (hb1.mono b0.size)
  have A1 := A0.mono hb1 (Nat.le_refl _)
  have X1 := X0.mono hb1 (Nat.le_refl _)
  clear b0 A0 X0 hb1
  have HT1 : Hid (t1 = true ↔ TP r s) := ht1
  clear ht1
  cases t1 with
  | true =>
    have HV : Hid (exF r s = 1) := exF1 (HT1.out.1 rfl)
    clear A1 X1 HT1
    go_wp2_with fail
    go_ret
    exact ⟨by rw [HV.out]; rfl, B1⟩
  | false =>
    have HN1 : Hid (¬ TP r s) := fun h => by have := HT1.out.2 h; cases this
    clear HT1
    have u4 : w1.cell? ⟨w.heap.size, 4, none⟩ = some (.slice xa r.nx xc) := A1.cell 4
    have HA1 : Hid (Box w1 w.heap.size 36 #[.int .i64 r.fr, .int .i64 r.to, .slice sa r.ns sc, .slice la r.nl lc, .slice xa r.nx xc, .slice qa r.np qc, .slice oa r.no oc, .slice fa r.nf fc]) := A1
    have HX1 : Hid (Box w1 (w.heap.size + 1) 36 #[.int .i64 s.fr, .int .i64 s.to, .slice sa' s.ns sc', .slice la' s.nl lc', .slice xa' s.nx xc', .slice qa' s.np qc', .slice oa' s.no oc', .slice fa' s.nf fc']) := X1
    have v4 : w1.cell? ⟨w.heap.size + 1, 4, none⟩ = some (.slice xa' s.nx xc') := X1.cell 4
    have HXa : Hid (NsAt 1 0 w1 xa r.nx r.X) := (H1.out.mono (Nat.le_refl _) B1 (Nat.le_refl _)).x
    have HXb : Hid (NsAt 1 0 w1 xa' s.nx s.X) := (H2.out.mono (Nat.le_refl _) B1 (Nat.le_refl _)).x
    clear A1 X1
    go_wp2_with fail
    go_loopw [21] (fun i wr => ∃ k : Nat, k ≤ r.nx ∧ i = .int .i64 k ∧ Hid (∀ i, i < k → ∀ j, j < s.nx → ¬ AgX (r.X i) (s.X j)) ∧ wr = w1) (fun i _ => r.nx - (intOf i).toNat)
    case atStart => exact ⟨0, Nat.zero_le _, rfl, fun i hi => absurd hi (Nat.not_lt_zero _), rfl⟩
    case round =>
      obtain ⟨k, hk, rfl, HA, rfl⟩ := hrel
      obtain ⟨w1, hw1⟩ : ∃ w1, w1 = wr := ⟨_, rfl⟩
      subst hw1
      by_cases hlt : k < r.nx
      · obtain ⟨b, off, rfl, _, hb, hc⟩ := HXa.out (by omega)
        have c0 : w1.cell? ⟨b, off + k, none⟩ = some (.int .i64 (r.X k 0)) := by have := hc k hlt 0 (by omega); rwa [Nat.mul_one] at this
        clear hc
        go_wp2_with fail
        go_loopw [28] (fun i wr => ∃ q : Nat, q ≤ s.nx ∧ i = .int .i64 q ∧ Hid (∀ j, j < q → ¬ AgX (r.X k) (s.X j)) ∧ wr = w1) (fun i _ => s.nx - (intOf i).toNat)
        case atStart => exact ⟨0, Nat.zero_le _, rfl, fun j hj => absurd hj (Nat.not_lt_zero _), rfl⟩
        case round =>
          obtain ⟨q, hq, rfl, HI, rfl⟩ := hrel
          obtain ⟨w1, hw1⟩ : ∃ w1, w1 = wr := ⟨_, rfl⟩
          subst hw1
          by_cases hlq : q < s.nx
          · obtain ⟨b2, off2, rfl, _, hb2, hc2⟩ := HXb.out (by omega)
            have d0 : w1.cell? ⟨b2, off2 + q, none⟩ = some (.int .i64 (s.X q 0)) := by have := hc2 q hlq 0 (by omega); rwa [Nat.mul_one] at this
            clear hc2
            by_cases h0 : r.X k 0 = s.X q 0
            · have h0' : (r.X k 0 == s.X q 0) = true := by simp [h0]
              have HV : Hid (exF r s = 2) := exF2 HN1.out ⟨k, hlt, q, hlq, h0⟩
              clear h0 HI HA
              go_wp2_with fail
              go_ret
              exact ⟨by rw [HV.out]; rfl, B1⟩
            · have h0' : (r.X k 0 == s.X q 0) = false := by simp [h0]
              have HV : Hid (∀ j, j < q + 1 → ¬ AgX (r.X k) (s.X j)) := by
                intro j hj
                by_cases e : j = q
                · subst e; exact h0
                · exact HI.out j (by omega)
              clear h0 HI
              go_wp2_with fail
              go_roundw
              case rel => exact ⟨q + 1, by omega, by go_num, HV, trivial⟩
              case measure => simp [intOf]; omega
          · obtain hqq : q = s.nx := by omega
            have HV : Hid (∀ i, i < k + 1 → ∀ j, j < s.nx → ¬ AgX (r.X i) (s.X j)) := by
              intro i hi
              by_cases e : i = k
              · subst e; rw [← hqq]; exact HI.out
              · exact HA.out i (by omega)
            clear HI HA
            go_wp2_with fail
            go_roundw
            case rel => exact ⟨k + 1, by omega, by go_num, HV, trivial⟩
            case measure => simp [intOf]; omega
      · have hkk : k = r.nx := by omega
        have HN2 : Hid (¬ TX r s) := fun ⟨i, hi, j, hj, h⟩ => HA.out i (by omega) j hj h
        obtain ⟨u0, u1, u2, u3, _, u5, u6, u7⟩ := HA1.out.eight
        clear HA HXa HXb v4
        go_wp2_with fail
        clear u0 u1 u2 u3 u4 u5 u6 u7
        refine (needsS r.fr r.to sa la xa qa oa fa r.ns sc r.nl lc r.nx xc r.np qc r.no oc r.nf fc r.L r.F _ a2 a6 (H1.out.mono (Nat.le_refl _) B1 (Nat.le_refl _)).l (H1.out.mono (Nat.le_refl _) B1 (Nat.le_refl _)).f).mono ?_
        rintro e w2 ⟨v2, rfl, hv2, hb2⟩
        have hv2 : Own _ 62 2 w2 v2 (ndR r) := hv2
        obtain ⟨na, nc, rfl⟩ := hv2.val
        have HNa : Hid (NsAt 2 0 w2 na (ndR r).length (fnL (ndR r))) := hv2.nsL
        have B2 := B1.trans (hb2.mono B1.size)
        have HA2 : Hid (Box w2 w.heap.size 36 #[.int .i64 r.fr, .int .i64 r.to, .slice sa r.ns sc, .slice la r.nl lc, .slice xa r.nx xc, .slice qa r.np qc, .slice oa r.no oc, .slice fa r.nf fc]) := HA1.out.mono hb2 (Nat.le_refl _)
        have HX2 : Hid (Box w2 (w.heap.size + 1) 36 #[.int .i64 s.fr, .int .i64 s.to, .slice sa' s.ns sc', .slice la' s.nl lc', .slice xa' s.nx xc', .slice qa' s.np qc', .slice oa' s.no oc', .slice fa' s.nf fc']) := HX1.out.mono hb2 (Nat.le_refl _)
        clear hv2 hb2 HA1 HX1 B1
        go_wp2_with fail
        go_loopw [40] (fun i wr => ∃ k : Nat, k ≤ (ndR r).length ∧ i = .int .i64 k ∧ Hid (∀ i, i < k → ∀ j, j < (ndR s).length → ¬ AgL (fnL (ndR r) i) (fnL (ndR s) j)) ∧ Below w2.heap.size w2 wr) (fun i _ => (ndR r).length - (intOf i).toNat)
        case atStart => exact ⟨0, Nat.zero_le _, rfl, fun i hi => absurd hi (Nat.not_lt_zero _), Below.refl _ _⟩
        case round =>
          obtain ⟨k2, hk2, rfl, HA, hbel⟩ := hrel
          obtain ⟨wq, hwq⟩ : ∃ wq, wq = wr := ⟨_, rfl⟩
          subst hwq
          have Bq := B2.trans (hbel.mono B2.size)
          by_cases hlt2 : k2 < (ndR r).length
          · obtain ⟨b, off, rfl, _, hb, hc⟩ := (HNa.out.mono (Nat.le_refl _) hbel (Nat.le_refl _)) (by omega)
            have c0 : wq.cell? ⟨b, off + k2 * 2, none⟩ = some (.int .i64 (fnL (ndR r) k2 0)) := hc k2 hlt2 0 (by omega)
            have c1 : wq.cell? ⟨b, off + k2 * 2 + 1, none⟩ = some (.int .i64 (fnL (ndR r) k2 1)) := hc k2 hlt2 1 (by omega)
            obtain ⟨x0, x1, x2, x3, x4, x5, x6, x7⟩ := (HX2.out.mono hbel (Nat.le_refl _)).eight
            have hxl := (HX2.out.mono hbel (Nat.le_refl _)).lt
            have hbE := bel1 wq (.cells #[.int .i64 (fnL (ndR r) k2 0), .int .i64 (fnL (ndR r) k2 1)] 62)
            have BqE := Bq.trans (hbE.mono Bq.size)
            clear hc
            go_wp2_with fail
            clear x0 x1 x2 x3 x4 x5 x6 x7 c0 c1
            refine (needsS s.fr s.to sa' la' xa' qa' oa' fa' s.ns sc' s.nl lc' s.nx xc' s.np qc' s.no oc' s.nf fc' s.L s.F _ b2 b6 (H2.out.mono (Nat.le_refl _) BqE (Nat.le_refl _)).l (H2.out.mono (Nat.le_refl _) BqE (Nat.le_refl _)).f).mono ?_
            rintro e w3 ⟨v3, rfl, hv3, hb3⟩
            have hv3 : Own _ 62 2 w3 v3 (ndR s) := hv3
            obtain ⟨nb, nd', rfl⟩ := hv3.val
            have HNb : Hid (NsAt 2 0 w3 nb (ndR s).length (fnL (ndR s))) := hv3.nsL
            have e0 : w3.cell? ⟨wq.heap.size, 0, none⟩ = some (.int .i64 (fnL (ndR r) k2 0)) := (hb3.cell (p := ⟨wq.heap.size, 0, none⟩) (by simp)).trans (by simp)
            have e1 : w3.cell? ⟨wq.heap.size, 1, none⟩ = some (.int .i64 (fnL (ndR r) k2 1)) := (hb3.cell (p := ⟨wq.heap.size, 1, none⟩) (by simp)).trans (by simp)
            have hz3 : wq.heap.size < w3.heap.size := by have := hb3.size; simp at this; omega
            have hbq3 := hbE.trans (hb3.mono hbE.size)
            have hb23 := hbel.trans (hbq3.mono hbel.size)
            clear hv3 hb3 hbE BqE Bq hbq3
            have E0 : Hid (w3.cell? ⟨wq.heap.size, 0, none⟩ = some (.int .i64 (fnL (ndR r) k2 0))) := e0
            have E1 : Hid (w3.cell? ⟨wq.heap.size, 1, none⟩ = some (.int .i64 (fnL (ndR r) k2 1))) := e1
            clear e0 e1
            go_wp2_with fail
            go_loopw [47] (fun i wr => ∃ q : Nat, q ≤ (ndR s).length ∧ i = .int .i64 q ∧ Hid (∀ j, j < q → ¬ AgL (fnL (ndR r) k2) (fnL (ndR s) j)) ∧ Below w3.heap.size w3 wr) (fun i _ => (ndR s).length - (intOf i).toNat)
            case atStart => exact ⟨0, Nat.zero_le _, rfl, fun j hj => absurd hj (Nat.not_lt_zero _), Below.refl _ _⟩
            case round =>
              obtain ⟨q, hq, rfl, HI, hbi⟩ := hrel
              have hb2r := hb23.trans (hbi.mono hb23.size)
              have Br := B2.trans (hb2r.mono B2.size)
              by_cases hlq : q < (ndR s).length
              · obtain ⟨b2, off2, rfl, _, hb2, hc2⟩ := (HNb.out.mono (Nat.le_refl _) hbi (Nat.le_refl _)) (by omega)
                have d0 : wr.cell? ⟨b2, off2 + q * 2, none⟩ = some (.int .i64 (fnL (ndR s) q 0)) := hc2 q hlq 0 (by omega)
                have d1 : wr.cell? ⟨b2, off2 + q * 2 + 1, none⟩ = some (.int .i64 (fnL (ndR s) q 1)) := hc2 q hlq 1 (by omega)
                have y0 : wr.cell? ⟨wq.heap.size, 0, none⟩ = some (.int .i64 (fnL (ndR r) k2 0)) := (hbi.cell (p := ⟨wq.heap.size, 0, none⟩) hz3).trans E0.out
                have y1 : wr.cell? ⟨wq.heap.size, 1, none⟩ = some (.int .i64 (fnL (ndR r) k2 1)) := (hbi.cell (p := ⟨wq.heap.size, 1, none⟩) hz3).trans E1.out
                have hzr : wq.heap.size < wr.heap.size := by have := hbi.size; omega
                clear hc2
                have hbj := hbi.alloc hbi.size (.cells #[.int .i64 (fnL (ndR s) q 0), .int .i64 (fnL (ndR s) q 1)] 62)
                have hBj := Br.alloc Br.size (.cells #[.int .i64 (fnL (ndR s) q 0), .int .i64 (fnL (ndR s) q 1)] 62)
                have HNN : Hid (¬ AgL (fnL (ndR r) k2) (fnL (ndR s) q) → ∀ j, j < q + 1 → ¬ AgL (fnL (ndR r) k2) (fnL (ndR s) j)) := by
                  intro h j hj
                  by_cases e : j = q
                  · subst e; exact h
                  · exact HI.out j (by omega)
                have HVV : Hid (AgL (fnL (ndR r) k2) (fnL (ndR s) q) → exF r s = 3) := fun h => exF3 HN1.out HN2.out ⟨k2, hlt2, q, hlq, h⟩
                have HG : Hid (∀ f g : Nat → Int, AgL f g = (f 0 = g 0 ∧ ¬ f 1 = g 1)) := fun _ _ => rfl
                clear HI hb2r Br
                by_cases h0 : fnL (ndR r) k2 0 = fnL (ndR s) q 0
                · have h0' : (fnL (ndR r) k2 0 == fnL (ndR s) q 0) = true := by simp [h0]
                  by_cases h1 : fnL (ndR r) k2 1 = fnL (ndR s) q 1
                  · have h1' : (fnL (ndR r) k2 1 == fnL (ndR s) q 1) = true := by simp [h1]
                    have h1n : (fnL (ndR r) k2 1 != fnL (ndR s) q 1) = false := by simp [h1]
                    have HV : Hid (∀ j, j < q + 1 → ¬ AgL (fnL (ndR r) k2) (fnL (ndR s) j)) := HNN.out fun h => h.2 h1
                    clear h0 h1 HNN HVV
                    go_wp2_with fail
                    go_roundw
                    case rel => exact ⟨q + 1, by omega, by go_num, HV, hbj⟩
                    case measure => simp [intOf]; omega
                  · have h1' : (fnL (ndR r) k2 1 == fnL (ndR s) q 1) = false := by simp [h1]
                    have h1n : (fnL (ndR r) k2 1 != fnL (ndR s) q 1) = true := by simp [h1]
                    have HV : Hid (exF r s = 3) := HVV.out ⟨h0, h1⟩
                    clear h0 h1 HNN HVV HA
                    go_wp2_with fail
                    go_ret
                    exact ⟨by rw [HV.out]; rfl, hBj⟩
                · have h0' : (fnL (ndR r) k2 0 == fnL (ndR s) q 0) = false := by simp [h0]
                  have HV : Hid (∀ j, j < q + 1 → ¬ AgL (fnL (ndR r) k2) (fnL (ndR s) j)) := HNN.out fun h => h0 h.1
                  clear h0 HNN HVV
                  go_wp2_with fail
                  go_roundw
                  case rel => exact ⟨q + 1, by omega, by go_num, HV, hbj⟩
                  case measure => simp [intOf]; omega
              · have hqq : q = (ndR s).length := by omega
                have HV : Hid (∀ i, i < k2 + 1 → ∀ j, j < (ndR s).length → ¬ AgL (fnL (ndR r) i) (fnL (ndR s) j)) := by
                  intro i hi
                  by_cases e : i = k2
                  · subst e; rw [← hqq]; exact HI.out
                  · exact HA.out i (by omega)
                clear HI HA Br
                go_wp2_with fail
                go_roundw
                case rel => exact ⟨k2 + 1, by omega, by go_num, HV, hb2r⟩
                case measure => simp [intOf]; omega
          · have hkk2 : k2 = (ndR r).length := by omega
            have HN3 : Hid (¬ TL r s) := fun ⟨i, hi, j, hj, h⟩ => HA.out i (by omega) j hj h
            have u5 : wq.cell? ⟨w.heap.size, 5, none⟩ = some (.slice qa r.np qc) := (HA2.out.mono hbel (Nat.le_refl _)).cell 5
            have u6 : wq.cell? ⟨w.heap.size, 6, none⟩ = some (.slice oa r.no oc) := (HA2.out.mono hbel (Nat.le_refl _)).cell 6
            have v5 : wq.cell? ⟨w.heap.size + 1, 5, none⟩ = some (.slice qa' s.np qc') := (HX2.out.mono hbel (Nat.le_refl _)).cell 5
            have v6 : wq.cell? ⟨w.heap.size + 1, 6, none⟩ = some (.slice oa' s.no oc') := (HX2.out.mono hbel (Nat.le_refl _)).cell 6
            have HAq : Hid (Box wq w.heap.size 36 #[.int .i64 r.fr, .int .i64 r.to, .slice sa r.ns sc, .slice la r.nl lc, .slice xa r.nx xc, .slice qa r.np qc, .slice oa r.no oc, .slice fa r.nf fc]) := HA2.out.mono hbel (Nat.le_refl _)
            have HXq : Hid (Box wq (w.heap.size + 1) 36 #[.int .i64 s.fr, .int .i64 s.to, .slice sa' s.ns sc', .slice la' s.nl lc', .slice xa' s.nx xc', .slice qa' s.np qc', .slice oa' s.no oc', .slice fa' s.nf fc']) := HX2.out.mono hbel (Nat.le_refl _)
            clear HA HNa hbel HA2 HX2 B2
            go_wp2_with fail
            clear u5 u6 v5 v6
            refine (touch46 oa r.no oc r.O qa' s.np qc' s.Q _ a5 b4 (H1.out.mono (Nat.le_refl _) Bq (Nat.le_refl _)).o (H2.out.mono (Nat.le_refl _) Bq (Nat.le_refl _)).q).mono ?_
            rintro e w4 ⟨t4, rfl, ht4, hb4⟩
            have B4 := Bq.trans (hb4.mono Bq.size)
            have u5 : w4.cell? ⟨w.heap.size, 5, none⟩ = some (.slice qa r.np qc) := (HAq.out.mono hb4 (Nat.le_refl _)).cell 5
            have v6 : w4.cell? ⟨w.heap.size + 1, 6, none⟩ = some (.slice oa' s.no oc') := (HXq.out.mono hb4 (Nat.le_refl _)).cell 6
            have HT4 : Hid (t4 = true ↔ TO r s) := ht4
            clear ht4 hb4 HAq HXq Bq
            cases t4 with
            | true =>
              have HV : Hid (exF r s = 4) := exF4 HN1.out HN2.out HN3.out (.inl (HT4.out.1 rfl))
              clear HT4
              go_wp2_with fail
              go_ret
              exact ⟨by rw [HV.out]; rfl, B4⟩
            | false =>
              have HN4 : Hid (¬ TO r s) := fun h => by have := HT4.out.2 h; cases this
              clear HT4
              go_wp2_with fail
              clear u5 v6
              refine (touch46 qa r.np qc r.Q oa' s.no oc' s.O _ a4 b5 (H1.out.mono (Nat.le_refl _) B4 (Nat.le_refl _)).q (H2.out.mono (Nat.le_refl _) B4 (Nat.le_refl _)).o).mono ?_
              rintro e w5 ⟨t5, rfl, ht5, hb5⟩
              have B5 := B4.trans (hb5.mono B4.size)
              have HT5 : Hid (t5 = true ↔ TO s r) := ht5.trans (TO_iff r s)
              clear ht5 hb5 B4
              cases t5 with
              | true =>
                have HV : Hid (exF r s = 4) := exF4 HN1.out HN2.out HN3.out (.inr (HT5.out.1 rfl))
                clear HT5
                go_wp2_with fail
                go_ret
                exact ⟨by rw [HV.out]; rfl, B5⟩
              | false =>
                have HV : Hid (exF r s = 0) := exF0 HN1.out HN2.out HN3.out (fun h => h.elim HN4.out fun h => by have := HT5.out.2 h; cases this)
                clear HT5
                go_wp2_with fail
                go_ret
                exact ⟨by rw [HV.out]; rfl, B5⟩

end Go.Proofs.Ytpghgdnhfhdgmaa
