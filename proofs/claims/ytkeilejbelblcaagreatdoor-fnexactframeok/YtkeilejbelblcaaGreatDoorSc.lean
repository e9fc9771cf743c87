import Derived.Test.YtkeilejbelblcaaGreatDoorGH13Sb
namespace Go.Proofs.YtkeilejbelblcaaGreatDoor
open Go.RowKit

set_option maxRecDepth 100000 in
set_option maxHeartbeats 8000000 in
theorem way25 (p : Pl) (wa ya ba : Option Addr) (wc yc bc : Nat) (y : Wy) (sa la fa oa ma : Option Addr) (sc lc fc oc mc : Nat) (w : World) (h1 : 1 ≤ p.sec) (h2 : p.sec ≤ 60) (hw : p.nw ≤ 1048576) (hs : y.small 1048576) (hW : VsAt 1 0 w wa p.nw (oneF p.W)) (hY : WyIn 0 w y sa la fa oa ma) :
    Calls Tryz.prog 101 #[.agg #[.int .i64 p.sec, .slice wa p.nw wc, .slice ya p.ny yc, .slice ba p.nb bc, .int .i64 p.hold], .agg #[.slice sa y.ns sc, .slice la y.nl lc, .slice fa y.nf fc, .slice oa y.no oc, .slice ma y.nm mc]] w fun e w' => e = .returned (.bool (wayF p y)) ∧ Below w.heap.size w w' := by
  obtain ⟨s1, s2, s3, s4, s5⟩ := hs
  have H : Hid (VsAt 1 0 w wa p.nw (oneF p.W) ∧ WyIn 0 w y sa la fa oa ma) := ⟨hW, hY⟩
  clear hW hY
  go_enter Tryz.func101, Tryz.ntmps101
  by_cases hz : y.ns = 0
  · have hzi : (y.ns : Int) = 0 := by omega
    have hzb : ((y.ns : Int) == 0) = true := by simpa using hzi
    go_wp2_with fail
    go_ret
    exact ⟨by simp [wayF, hz], bel2 _ _ _⟩
  have hzi : ¬ (y.ns : Int) = 0 := by omega
  have hzb : ((y.ns : Int) == 0) = false := by simpa using hzi
  go_wp2_with fail
  have HB0 : Hid (Below w.heap.size w ((w.alloc (.cells #[.int .i64 p.sec, .slice wa p.nw wc, .slice ya p.ny yc, .slice ba p.nb bc, .int .i64 p.hold] 37)).alloc (.cells #[.slice sa y.ns sc, .slice la y.nl lc, .slice fa y.nf fc, .slice oa y.no oc, .slice ma y.nm mc] 112)) ∧ Box ((w.alloc (.cells #[.int .i64 p.sec, .slice wa p.nw wc, .slice ya p.ny yc, .slice ba p.nb bc, .int .i64 p.hold] 37)).alloc (.cells #[.slice sa y.ns sc, .slice la y.nl lc, .slice fa y.nf fc, .slice oa y.no oc, .slice ma y.nm mc] 112)) w.heap.size 37 #[.int .i64 p.sec, .slice wa p.nw wc, .slice ya p.ny yc, .slice ba p.nb bc, .int .i64 p.hold] ∧ Box ((w.alloc (.cells #[.int .i64 p.sec, .slice wa p.nw wc, .slice ya p.ny yc, .slice ba p.nb bc, .int .i64 p.hold] 37)).alloc (.cells #[.slice sa y.ns sc, .slice la y.nl lc, .slice fa y.nf fc, .slice oa y.no oc, .slice ma y.nm mc] 112)) (w.heap.size + 1) 112 #[.slice sa y.ns sc, .slice la y.nl lc, .slice fa y.nf fc, .slice oa y.no oc, .slice ma y.nm mc]) := ⟨bel2 _ _ _, (Box.new w 37 _).alloc _, by have := Box.new (w.alloc (.cells #[.int .i64 p.sec, .slice wa p.nw wc, .slice ya p.ny yc, .slice ba p.nb bc, .int .i64 p.hold] 37)) 112 #[.slice sa y.ns sc, .slice la y.nl lc, .slice fa y.nf fc, .slice oa y.no oc, .slice ma y.nm mc]; simpa using this⟩
  refine (list54 sa y.ns sc y.S p.sec _ (by omega) h1 h2 (H.out.2.s.mono (Nat.le_refl _) HB0.out.1 (Nat.le_refl _))).mono ?_
  rintro e wx ⟨he, hwx⟩
  have hwx := hwx.symm
  subst hwx
  cases f1 : listF y.S y.ns p.sec with
  | false =>
    rw [f1] at he
    subst he
    go_wp2_with fail
    go_ret
    exact ⟨by simp [wayF, f1], HB0.out.1⟩
  | true =>
  rw [f1] at he
  subst he
  go_wp2_with fail
  refine (list54 oa y.no oc y.O p.sec _ (by omega) h1 h2 (H.out.2.o.mono (Nat.le_refl _) HB0.out.1 (Nat.le_refl _))).mono ?_
  rintro e wx ⟨he, hwx⟩
  have hwx := hwx.symm
  subst hwx
  cases f2 : listF y.O y.no p.sec with
  | false =>
    rw [f2] at he
    subst he
    go_wp2_with fail
    go_ret
    exact ⟨by simp [wayF, f2], HB0.out.1⟩
  | true =>
  rw [f2] at he
  subst he
  go_wp2_with fail
  refine (list54 ma y.nm mc y.M p.sec _ (by omega) h1 h2 (H.out.2.m.mono (Nat.le_refl _) HB0.out.1 (Nat.le_refl _))).mono ?_
  rintro e wx ⟨he, hwx⟩
  have hwx := hwx.symm
  subst hwx
  cases f3 : listF y.M y.nm p.sec with
  | false =>
    rw [f3] at he
    subst he
    go_wp2_with fail
    go_ret
    exact ⟨by simp [wayF, f3], HB0.out.1⟩
  | true =>
  rw [f3] at he
  subst he
  go_wp2_with fail
  refine (lies55 p wa ya ba wc yc bc la y.nl lc y.L _ (by omega) hw (H.out.2.l.mono (Nat.le_refl _) HB0.out.1 (Nat.le_refl _))).mono ?_
  rintro e w1 ⟨he, hb1⟩
  have HB1 : Hid (Below w.heap.size w w1 ∧ Box w1 w.heap.size 37 #[.int .i64 p.sec, .slice wa p.nw wc, .slice ya p.ny yc, .slice ba p.nb bc, .int .i64 p.hold] ∧ Box w1 (w.heap.size + 1) 112 #[.slice sa y.ns sc, .slice la y.nl lc, .slice fa y.nf fc, .slice oa y.no oc, .slice ma y.nm mc]) := ⟨HB0.out.1.trans (hb1.mono HB0.out.1.size), HB0.out.2.1.mono hb1 (Nat.le_refl _), HB0.out.2.2.mono hb1 (Nat.le_refl _)⟩
  clear hb1 HB0
  cases f4 : liesF y.L y.nl p.nw with
  | false =>
    rw [f4] at he
    subst he
    go_wp2_with fail
    go_ret
    exact ⟨by simp [wayF, f4], HB1.out.1⟩
  | true =>
  rw [f4] at he
  subst he
  have xy1 : w1.cell? ⟨w.heap.size + 1, 1, none⟩ = some (.slice la y.nl lc) := HB1.out.2.2.cell 1
  have xy2 : w1.cell? ⟨w.heap.size + 1, 2, none⟩ = some (.slice fa y.nf fc) := HB1.out.2.2.cell 2
  have xp0 : w1.cell? ⟨w.heap.size, 0, none⟩ = some (.int .i64 p.sec) := HB1.out.2.1.cell 0
  have xp1 : w1.cell? ⟨w.heap.size, 1, none⟩ = some (.slice wa p.nw wc) := HB1.out.2.1.cell 1
  have xp2 : w1.cell? ⟨w.heap.size, 2, none⟩ = some (.slice ya p.ny yc) := HB1.out.2.1.cell 2
  have xp3 : w1.cell? ⟨w.heap.size, 3, none⟩ = some (.slice ba p.nb bc) := HB1.out.2.1.cell 3
  have xp4 : w1.cell? ⟨w.heap.size, 4, none⟩ = some (.int .i64 p.hold) := HB1.out.2.1.cell 4
  go_wp2_with fail
  clear xy1 xy2 xp0 xp1 xp2 xp3 xp4
  refine (lies55 p wa ya ba wc yc bc fa y.nf fc y.F _ (by omega) hw (H.out.2.f.mono (Nat.le_refl _) HB1.out.1 (Nat.le_refl _))).mono ?_
  rintro e w2 ⟨he, hb2⟩
  have HB2 : Hid (Below w.heap.size w w2 ∧ Box w2 w.heap.size 37 #[.int .i64 p.sec, .slice wa p.nw wc, .slice ya p.ny yc, .slice ba p.nb bc, .int .i64 p.hold] ∧ Box w2 (w.heap.size + 1) 112 #[.slice sa y.ns sc, .slice la y.nl lc, .slice fa y.nf fc, .slice oa y.no oc, .slice ma y.nm mc]) := ⟨HB1.out.1.trans (hb2.mono HB1.out.1.size), HB1.out.2.1.mono hb2 (Nat.le_refl _), HB1.out.2.2.mono hb2 (Nat.le_refl _)⟩
  clear hb2 HB1
  cases f5 : liesF y.F y.nf p.nw with
  | false =>
    rw [f5] at he
    subst he
    go_wp2_with fail
    go_ret
    exact ⟨by simp [wayF, f5], HB2.out.1⟩
  | true =>
  rw [f5] at he
  subst he
  have xy1 : w2.cell? ⟨w.heap.size + 1, 1, none⟩ = some (.slice la y.nl lc) := HB2.out.2.2.cell 1
  have xy2 : w2.cell? ⟨w.heap.size + 1, 2, none⟩ = some (.slice fa y.nf fc) := HB2.out.2.2.cell 2
  have xp0 : w2.cell? ⟨w.heap.size, 0, none⟩ = some (.int .i64 p.sec) := HB2.out.2.1.cell 0
  have xp1 : w2.cell? ⟨w.heap.size, 1, none⟩ = some (.slice wa p.nw wc) := HB2.out.2.1.cell 1
  have xp2 : w2.cell? ⟨w.heap.size, 2, none⟩ = some (.slice ya p.ny yc) := HB2.out.2.1.cell 2
  have xp3 : w2.cell? ⟨w.heap.size, 3, none⟩ = some (.slice ba p.nb bc) := HB2.out.2.1.cell 3
  have xp4 : w2.cell? ⟨w.heap.size, 4, none⟩ = some (.int .i64 p.hold) := HB2.out.2.1.cell 4
  go_wp2_with fail
  clear xy1 xy2 xp0 xp1 xp2 xp3 xp4
  have HT : Hid (∀ q, q < y.nl → ∃ o : Nat, y.L q 0 = (o : Int) ∧ o < p.nw) := fun q hq => by
    have g := f4
    rw [liesF, Bool.and_eq_true] at g
    have g := allB_iff.1 g.1 q hq
    simp only [tuF, inB, Bool.and_eq_true, decide_eq_true_eq] at g
    exact ⟨(y.L q 0).toNat, by omega, by omega⟩
  go_loopw [54] (fun i wr => ∃ q : Nat, q ≤ y.nl ∧ i = .int .i64 q ∧ Hid (∀ i, i < q → onF p y i = true) ∧ Hid (Below w.heap.size w wr ∧ Box wr w.heap.size 37 #[.int .i64 p.sec, .slice wa p.nw wc, .slice ya p.ny yc, .slice ba p.nb bc, .int .i64 p.hold] ∧ Box wr (w.heap.size + 1) 112 #[.slice sa y.ns sc, .slice la y.nl lc, .slice fa y.nf fc, .slice oa y.no oc, .slice ma y.nm mc])) (fun i _ => y.nl - (intOf i).toNat)
  case atStart => exact ⟨0, Nat.zero_le _, rfl, fun i hi => absurd hi (Nat.not_lt_zero _), HB2⟩
  case round =>
    obtain ⟨q, hq, rfl, HQ, HB⟩ := hrel
    by_cases hlt : q < y.nl
    · obtain ⟨o, ho, hon⟩ := HT.out q hlt
      have HLq := (H.out.2.l.mono (Nat.le_refl _) HB.out.1 (Nat.le_refl _)) (by omega)
      obtain ⟨b, off, rfl, _, hb, hc⟩ := HLq
      have c0 : wr.cell? ⟨b, off + q * 2, none⟩ = some (.int .i64 (o : Int)) := by rw [← ho]; exact hc q hlt 0 (by omega)
      have c1 : wr.cell? ⟨b, off + q * 2 + 1, none⟩ = some (.int .i64 (y.L q 1)) := hc q hlt 1 (by omega)
      have y2 : wr.cell? ⟨w.heap.size + 1, 2, none⟩ = some (.slice fa y.nf fc) := HB.out.2.2.cell 2
      have hyl : w.heap.size + 1 < wr.heap.size := HB.out.2.2.lt
      clear hc
      have hq0 : (0 : Int) ≤ (q : Int) := by omega
      have hqn : (q : Int) < (y.nl : Int) := by omega
      go_wp2_with fail
      have HX1 : Hid (Box (wr.alloc (.cells #[.int .i64 (o : Int), .int .i64 (y.L q 1)] 146)) wr.heap.size 146 #[.int .i64 (o : Int), .int .i64 (y.L q 1)]) := Box.new wr 146 _
      have HB1 : Hid (Below w.heap.size w (wr.alloc (.cells #[.int .i64 (o : Int), .int .i64 (y.L q 1)] 146)) ∧ Box (wr.alloc (.cells #[.int .i64 (o : Int), .int .i64 (y.L q 1)] 146)) w.heap.size 37 #[.int .i64 p.sec, .slice wa p.nw wc, .slice ya p.ny yc, .slice ba p.nb bc, .int .i64 p.hold] ∧ Box (wr.alloc (.cells #[.int .i64 (o : Int), .int .i64 (y.L q 1)] 146)) (w.heap.size + 1) 112 #[.slice sa y.ns sc, .slice (some ⟨b, off, none⟩) y.nl lc, .slice fa y.nf fc, .slice oa y.no oc, .slice ma y.nm mc]) := ⟨HB.out.1.alloc HB.out.1.size _, HB.out.2.1.alloc _, HB.out.2.2.alloc _⟩
      generalize wr.alloc (.cells #[.int .i64 (o : Int), .int .i64 (y.L q 1)] 146) = W1 at HX1 HB1 ⊢
      generalize wr.heap.size = xb at HX1 ⊢
      clear c0 c1 y2 HB hyl hb
      go_loopw [61] (fun j wi => ∃ r : Nat, r ≤ y.nf ∧ j = .int .i64 r ∧ Hid (∀ k, k < r → y.L q 0 ≠ y.F k 0) ∧ Hid (Below W1.heap.size W1 wi)) (fun j _ => y.nf - (intOf j).toNat)
      case atStart => exact ⟨0, Nat.zero_le _, rfl, fun i hi => absurd hi (Nat.not_lt_zero _), Below.refl _ _⟩
      case round =>
        obtain ⟨r, hr, rfl, HR, HBI⟩ := hrel
        have HBR : Hid (Below w.heap.size w wr ∧ Box wr w.heap.size 37 #[.int .i64 p.sec, .slice wa p.nw wc, .slice ya p.ny yc, .slice ba p.nb bc, .int .i64 p.hold] ∧ Box wr (w.heap.size + 1) 112 #[.slice sa y.ns sc, .slice (some ⟨b, off, none⟩) y.nl lc, .slice fa y.nf fc, .slice oa y.no oc, .slice ma y.nm mc]) := ⟨HB1.out.1.trans (HBI.out.mono HB1.out.1.size), HB1.out.2.1.mono HBI.out (Nat.le_refl _), HB1.out.2.2.mono HBI.out (Nat.le_refl _)⟩
        have HXR : Hid (Box wr xb 146 #[.int .i64 (o : Int), .int .i64 (y.L q 1)]) := HX1.out.mono HBI.out (Nat.le_refl _)
        have x0 : wr.cell? ⟨xb, 0, none⟩ = some (.int .i64 (o : Int)) := HXR.out.cell 0
        have hxl : xb < wr.heap.size := HXR.out.lt
        by_cases hrf : r < y.nf
        · have HFq := (H.out.2.f.mono (Nat.le_refl _) HBR.out.1 (Nat.le_refl _)) (by omega)
          obtain ⟨b', off', rfl, _, hb', hc'⟩ := HFq
          have c2 : wr.cell? ⟨b', off' + r * 2, none⟩ = some (.int .i64 (y.F r 0)) := hc' r hrf 0 (by omega)
          have c3 : wr.cell? ⟨b', off' + r * 2 + 1, none⟩ = some (.int .i64 (y.F r 1)) := hc' r hrf 1 (by omega)
          clear hc'
          have hr0 : (0 : Int) ≤ (r : Int) := by omega
          have hrn : (r : Int) < (y.nf : Int) := by omega
          by_cases he : (o : Int) = y.F r 0
          · go_wp2_with fail
            go_ret
            refine ⟨?_, HBR.out.1.alloc HBR.out.1.size _⟩
            have : allB (onF p y) y.nl = false := allB_no hlt (by simp only [onF]; rw [allB_no hrf (by simp [ho, he])]; rfl)
            simp [wayF, this]
          · have HR2 : Hid (∀ k, k < r + 1 → y.L q 0 ≠ y.F k 0) := fun k hk => by
              by_cases e : k = r
              · subst e
                rw [ho]
                exact he
              · exact HR.out k (by omega)
            go_wp2_with fail
            go_roundw
            case rel => exact ⟨r + 1, by omega, by go_num, HR2, HBI.out.alloc HBI.out.size _⟩
            case measure => simp [intOf]; omega
        · obtain rfl : r = y.nf := by omega
          have x1 : wr.cell? ⟨w.heap.size, 1, none⟩ = some (.slice wa p.nw wc) := HBR.out.2.1.cell 1
          have x3 : wr.cell? ⟨w.heap.size + 1, 0, none⟩ = some (.slice sa y.ns sc) := HBR.out.2.2.cell 0
          have z1 := HBR.out.2.1.lt
          have z2 := HBR.out.2.2.lt
          obtain ⟨bw, offw, rfl, _, hbw, hcw⟩ := (H.out.1.mono (Nat.le_refl _) HBR.out.1 (Nat.le_refl _)) (by omega)
          have c4 : wr.cell? ⟨bw, offw + o, none⟩ = some (.int .i64 (p.W o)) := by have := hcw o hon 0 (by omega); rwa [Nat.mul_one] at this
          clear hcw
          have ho0 : (0 : Int) ≤ (o : Int) := by omega
          have hon' : (o : Int) < (p.nw : Int) := by omega
          have hSr := H.out.2.s.mono (Nat.le_refl _) (HBR.out.1.drew) (Nat.le_refl _)
          go_wp2_with fail
          have hA : VsAt 1 0 (wr.alloc (.cells #[.int .i64 (p.W o)] 3)).drew (some ⟨wr.heap.size, 0, none⟩) 1 (oneF fun _ => p.W o) := fun _ => ⟨wr.heap.size, 0, rfl, Nat.zero_le _, by simp, fun i hi j hj => by
            obtain rfl : i = 0 := by omega
            obtain rfl : j = 0 := by omega
            simp⟩
          have hS2 := H.out.2.s.mono (Nat.le_refl _) (HBR.out.1.alloc HBR.out.1.size (.cells #[.int .i64 (p.W o)] 3)).drew (Nat.le_refl _)
          have HB2' : Hid (Below w.heap.size w (wr.alloc (.cells #[.int .i64 (p.W o)] 3)).drew ∧ Box (wr.alloc (.cells #[.int .i64 (p.W o)] 3)).drew w.heap.size 37 #[.int .i64 p.sec, .slice (some ⟨bw, offw, none⟩) p.nw wc, .slice ya p.ny yc, .slice ba p.nb bc, .int .i64 p.hold] ∧ Box (wr.alloc (.cells #[.int .i64 (p.W o)] 3)).drew (w.heap.size + 1) 112 #[.slice sa y.ns sc, .slice (some ⟨b, off, none⟩) y.nl lc, .slice fa y.nf fc, .slice oa y.no oc, .slice ma y.nm mc]) := ⟨(HBR.out.1.alloc HBR.out.1.size _).drew, (HBR.out.2.1.alloc _).drew, (HBR.out.2.2.alloc _).drew⟩
          have hto : (y.L q 0).toNat = o := by omega
          go_region_with (go_at_call 102; refine (meet26 (some ⟨wr.heap.size, 0, none⟩) sa 1 y.ns 1 sc (fun _ => p.W o) y.S _ (by omega) (by omega) hA hS2).mono ?_; rintro e w2 ⟨he, hw2⟩; have hw2 := hw2.symm; subst hw2; subst he)
          all_goals
            clear hA hS2 x0 x1 x3 c4
            cases hm : meetF (fun _ => p.W o) 1 y.S y.ns with
            | false =>
              go_wp2_with fail
              go_ret
              refine ⟨?_, HB2'.out.1⟩
              have : allB (onF p y) y.nl = false := allB_no hlt (by simp only [onF, hto, hm, Bool.and_false])
              simp [wayF, this]
            | true =>
              have HQ2 : Hid (∀ i, i < q + 1 → onF p y i = true) := fun i hi => by
                by_cases e : i = q
                · subst e
                  simp only [onF, hto, hm, Bool.and_true]
                  exact allB_iff.2 fun k hk => by simpa using HR.out k hk
                · exact HQ.out i (by omega)
              go_wp2_with fail
              go_roundw
              case rel => exact ⟨q + 1, by omega, by go_num, HQ2, HB2'⟩
              case measure => simp [intOf]; omega
    · obtain rfl : q = y.nl := by omega
      have hA : allB (onF p y) y.nl = true := allB_iff.2 HQ.out
      have y3 : wr.cell? ⟨w.heap.size + 1, 3, none⟩ = some (.slice oa y.no oc) := HB.out.2.2.cell 3
      have y0 : wr.cell? ⟨w.heap.size + 1, 0, none⟩ = some (.slice sa y.ns sc) := HB.out.2.2.cell 0
      go_wp2_with fail
      refine (meet26 oa sa y.no y.ns oc sc y.O y.S _ (by omega) (by omega) (H.out.2.o.mono (Nat.le_refl _) HB.out.1 (Nat.le_refl _)) (H.out.2.s.mono (Nat.le_refl _) HB.out.1 (Nat.le_refl _))).mono ?_
      rintro e w2 ⟨he, hw2⟩
      have hw2 := hw2.symm
      subst hw2
      subst he
      have hz1 : 0 < y.ns := by omega
      go_wp2_with fail
      go_ret
      exact ⟨by simp [wayF, f1, f2, f3, f4, f5, hA, hz1], HB.out.1⟩

end Go.Proofs.YtkeilejbelblcaaGreatDoor
