import Derived.Test.YtkeilejbelblcaaGreatDoorGMdSz
namespace Go.Proofs.YtkeilejbelblcaaGreatDoor
open Go.RowKit

set_option maxRecDepth 100000 in
set_option maxHeartbeats 4000000 in
theorem eqWay (y : Wy) (sa la fa oa ma sa' la' fa' oa' ma' : Option Addr) (sc lc fc oc mc sc' lc' fc' oc' mc' : Nat) (w : World) (hs : y.small 1048576) (h : WyIn 0 w y sa la fa oa ma) (h' : WyIn 0 w y sa' la' fa' oa' ma') :
    Calls Tryz.prog 85 #[.agg #[.slice sa y.ns sc, .slice la y.nl lc, .slice fa y.nf fc, .slice oa y.no oc, .slice ma y.nm mc], .agg #[.slice sa' y.ns sc', .slice la' y.nl lc', .slice fa' y.nf fc', .slice oa' y.no oc', .slice ma' y.nm mc']] w fun e w' => e = .returned (.bool true) ∧ Below w.heap.size w w' := by
  obtain ⟨s1, s2, s3, s4, s5⟩ := hs
  have H : Hid (WyIn 0 w y sa la fa oa ma ∧ WyIn 0 w y sa' la' fa' oa' ma') := ⟨h, h'⟩
  clear h h'
  go_enter Tryz.func85, Tryz.ntmps85
  go_wp2_with fail
  have B0 := bel2 w (.cells #[.slice sa y.ns sc, .slice la y.nl lc, .slice fa y.nf fc, .slice oa y.no oc, .slice ma y.nm mc] 112) (.cells #[.slice sa' y.ns sc', .slice la' y.nl lc', .slice fa' y.nf fc', .slice oa' y.no oc', .slice ma' y.nm mc'] 112)
  have A1 := (Box.new w 112 #[.slice sa y.ns sc, .slice la y.nl lc, .slice fa y.nf fc, .slice oa y.no oc, .slice ma y.nm mc]).alloc (.cells #[.slice sa' y.ns sc', .slice la' y.nl lc', .slice fa' y.nf fc', .slice oa' y.no oc', .slice ma' y.nm mc'] 112)
  have A2 := Box.new (w.alloc (.cells #[.slice sa y.ns sc, .slice la y.nl lc, .slice fa y.nf fc, .slice oa y.no oc, .slice ma y.nm mc] 112)) 112 #[.slice sa' y.ns sc', .slice la' y.nl lc', .slice fa' y.nf fc', .slice oa' y.no oc', .slice ma' y.nm mc']
  have z1 : (w.alloc (.cells #[.slice sa y.ns sc, .slice la y.nl lc, .slice fa y.nf fc, .slice oa y.no oc, .slice ma y.nm mc] 112)).heap.size = w.heap.size + 1 := by simp
  rw [z1] at A2
  have HB0 : Hid (Below w.heap.size w ((w.alloc (.cells #[.slice sa y.ns sc, .slice la y.nl lc, .slice fa y.nf fc, .slice oa y.no oc, .slice ma y.nm mc] 112)).alloc (.cells #[.slice sa' y.ns sc', .slice la' y.nl lc', .slice fa' y.nf fc', .slice oa' y.no oc', .slice ma' y.nm mc'] 112)) ∧ Box _ w.heap.size 112 _ ∧ Box _ (w.heap.size + 1) 112 _) := ⟨B0, A1, A2⟩
  clear B0 A1 A2 z1
  refine (eqIntS sa sa' y.ns sc sc' (fun i _ => y.S i) _ (by omega) (H.out.1.s.mono (Nat.le_refl _) HB0.out.1 (Nat.le_refl _)) (H.out.2.s.mono (Nat.le_refl _) HB0.out.1 (Nat.le_refl _))).mono ?_
  rintro e w1 ⟨rfl, hb1⟩
  have HB1 : Hid (Below w.heap.size w w1 ∧ Box w1 w.heap.size 112 #[.slice sa y.ns sc, .slice la y.nl lc, .slice fa y.nf fc, .slice oa y.no oc, .slice ma y.nm mc] ∧ Box w1 (w.heap.size + 1) 112 #[.slice sa' y.ns sc', .slice la' y.nl lc', .slice fa' y.nf fc', .slice oa' y.no oc', .slice ma' y.nm mc']) := ⟨HB0.out.1.trans (hb1.mono HB0.out.1.size), HB0.out.2.1.mono hb1 (Nat.le_refl _), HB0.out.2.2.mono hb1 (Nat.le_refl _)⟩
  clear hb1
  have xa1 : w1.cell? ⟨w.heap.size, 1, none⟩ = some (.slice la y.nl lc) := HB1.out.2.1.cell 1
  have xb1 : w1.cell? ⟨w.heap.size + 1, 1, none⟩ = some (.slice la' y.nl lc') := HB1.out.2.2.cell 1
  clear HB0
  go_wp2_with fail
  clear xa1 xb1
  refine (eqTurnS la la' y.nl lc lc' y.L _ (by omega) (H.out.1.l.mono (Nat.le_refl _) HB1.out.1 (Nat.le_refl _)) (H.out.2.l.mono (Nat.le_refl _) HB1.out.1 (Nat.le_refl _))).mono ?_
  rintro e w2 ⟨rfl, hb2⟩
  have HB2 : Hid (Below w.heap.size w w2 ∧ Box w2 w.heap.size 112 #[.slice sa y.ns sc, .slice la y.nl lc, .slice fa y.nf fc, .slice oa y.no oc, .slice ma y.nm mc] ∧ Box w2 (w.heap.size + 1) 112 #[.slice sa' y.ns sc', .slice la' y.nl lc', .slice fa' y.nf fc', .slice oa' y.no oc', .slice ma' y.nm mc']) := ⟨HB1.out.1.trans (hb2.mono HB1.out.1.size), HB1.out.2.1.mono hb2 (Nat.le_refl _), HB1.out.2.2.mono hb2 (Nat.le_refl _)⟩
  clear hb2
  have xa2 : w2.cell? ⟨w.heap.size, 2, none⟩ = some (.slice fa y.nf fc) := HB2.out.2.1.cell 2
  have xb2 : w2.cell? ⟨w.heap.size + 1, 2, none⟩ = some (.slice fa' y.nf fc') := HB2.out.2.2.cell 2
  clear HB1
  go_wp2_with fail
  clear xa2 xb2
  refine (eqTurnS fa fa' y.nf fc fc' y.F _ (by omega) (H.out.1.f.mono (Nat.le_refl _) HB2.out.1 (Nat.le_refl _)) (H.out.2.f.mono (Nat.le_refl _) HB2.out.1 (Nat.le_refl _))).mono ?_
  rintro e w3 ⟨rfl, hb3⟩
  have HB3 : Hid (Below w.heap.size w w3 ∧ Box w3 w.heap.size 112 #[.slice sa y.ns sc, .slice la y.nl lc, .slice fa y.nf fc, .slice oa y.no oc, .slice ma y.nm mc] ∧ Box w3 (w.heap.size + 1) 112 #[.slice sa' y.ns sc', .slice la' y.nl lc', .slice fa' y.nf fc', .slice oa' y.no oc', .slice ma' y.nm mc']) := ⟨HB2.out.1.trans (hb3.mono HB2.out.1.size), HB2.out.2.1.mono hb3 (Nat.le_refl _), HB2.out.2.2.mono hb3 (Nat.le_refl _)⟩
  clear hb3
  have xa3 : w3.cell? ⟨w.heap.size, 3, none⟩ = some (.slice oa y.no oc) := HB3.out.2.1.cell 3
  have xb3 : w3.cell? ⟨w.heap.size + 1, 3, none⟩ = some (.slice oa' y.no oc') := HB3.out.2.2.cell 3
  clear HB2
  go_wp2_with fail
  clear xa3 xb3
  refine (eqIntS oa oa' y.no oc oc' (fun i _ => y.O i) _ (by omega) (H.out.1.o.mono (Nat.le_refl _) HB3.out.1 (Nat.le_refl _)) (H.out.2.o.mono (Nat.le_refl _) HB3.out.1 (Nat.le_refl _))).mono ?_
  rintro e w4 ⟨rfl, hb4⟩
  have HB4 : Hid (Below w.heap.size w w4 ∧ Box w4 w.heap.size 112 #[.slice sa y.ns sc, .slice la y.nl lc, .slice fa y.nf fc, .slice oa y.no oc, .slice ma y.nm mc] ∧ Box w4 (w.heap.size + 1) 112 #[.slice sa' y.ns sc', .slice la' y.nl lc', .slice fa' y.nf fc', .slice oa' y.no oc', .slice ma' y.nm mc']) := ⟨HB3.out.1.trans (hb4.mono HB3.out.1.size), HB3.out.2.1.mono hb4 (Nat.le_refl _), HB3.out.2.2.mono hb4 (Nat.le_refl _)⟩
  clear hb4
  have xa4 : w4.cell? ⟨w.heap.size, 4, none⟩ = some (.slice ma y.nm mc) := HB4.out.2.1.cell 4
  have xb4 : w4.cell? ⟨w.heap.size + 1, 4, none⟩ = some (.slice ma' y.nm mc') := HB4.out.2.2.cell 4
  clear HB3
  go_wp2_with fail
  clear xa4 xb4
  refine (eqIntS ma ma' y.nm mc mc' (fun i _ => y.M i) _ (by omega) (H.out.1.m.mono (Nat.le_refl _) HB4.out.1 (Nat.le_refl _)) (H.out.2.m.mono (Nat.le_refl _) HB4.out.1 (Nat.le_refl _))).mono ?_
  rintro e w5 ⟨rfl, hb5⟩
  have HB5 : Hid (Below w.heap.size w w5 ∧ Box w5 w.heap.size 112 #[.slice sa y.ns sc, .slice la y.nl lc, .slice fa y.nf fc, .slice oa y.no oc, .slice ma y.nm mc] ∧ Box w5 (w.heap.size + 1) 112 #[.slice sa' y.ns sc', .slice la' y.nl lc', .slice fa' y.nf fc', .slice oa' y.no oc', .slice ma' y.nm mc']) := ⟨HB4.out.1.trans (hb5.mono HB4.out.1.size), HB4.out.2.1.mono hb5 (Nat.le_refl _), HB4.out.2.2.mono hb5 (Nat.le_refl _)⟩
  clear hb5
  go_wp2_with fail
  go_ret
  exact ⟨rfl, HB5.out.1⟩

set_option maxRecDepth 100000 in
set_option maxHeartbeats 4000000 in
theorem eqWayS (a a' : Option Addr) (n cap cap' : Nat) (Y : Nat → Wy) (w : World) (hn : n ≤ 1048576) (hL : ∀ i, i < n → (Y i).small 1048576) (hR : WsAt 0 w a n Y) (hR' : WsAt 0 w a' n Y) :
    Calls Tryz.prog 44 #[.slice a n cap, .slice a' n cap'] w fun e w' => e = .returned (.bool true) ∧ Below w.heap.size w w' := by
  have HL : Hid (∀ i, i < n → (Y i).small 1048576) := hL
  clear hL
  go_enter Tryz.func44, Tryz.ntmps44
  go_wp2_with fail
  go_loopw [5] (fun i wr => ∃ (k : Nat), k ≤ n ∧ i = .int .i64 k ∧ Below w.heap.size w wr) (fun i _ => n - (intOf i).toNat)
  case atStart => exact ⟨0, Nat.zero_le _, rfl, Below.refl _ _⟩
  case round =>
    obtain ⟨k, hk, rfl, hbel⟩ := hrel
    by_cases hlt : k < n
    · obtain ⟨b, off, rfl, _, hb, hc⟩ := (hR.mono (Nat.le_refl _) hbel.drew (Nat.le_refl _)) (by omega)
      obtain ⟨b', off', rfl, _, hb', hc'⟩ := (hR'.mono (Nat.le_refl _) hbel.drew (Nat.le_refl _)) (by omega)
      obtain ⟨sa, sc, la, lc, fa, fc, oa, oc, ma, mc, c0, c1, c2, c3, c4, g⟩ := hc k hlt
      obtain ⟨sa', sc', la', lc', fa', fc', oa', oc', ma', mc', d0, d1, d2, d3, d4, g'⟩ := hc' k hlt
      have hlt' : (k : Int) < (n : Int) := by omega
      have hk0 : (0 : Int) ≤ (k : Int) := by omega
      have G : Hid (WyIn 0 wr.drew (Y k) sa la fa oa ma) := g
      have G' : Hid (WyIn 0 wr.drew (Y k) sa' la' fa' oa' ma') := g'
      have c00 : wr.cell? _ = _ := c0
      have d00 : wr.cell? _ = _ := d0
      have c10 : wr.cell? _ = _ := c1
      have d10 : wr.cell? _ = _ := d1
      have c20 : wr.cell? _ = _ := c2
      have d20 : wr.cell? _ = _ := d2
      have c30 : wr.cell? _ = _ := c3
      have d30 : wr.cell? _ = _ := d3
      have c40 : wr.cell? _ = _ := c4
      have d40 : wr.cell? _ = _ := d4
      clear hc hc' g g' c0 c1 c2 c3 c4 d0 d1 d2 d3 d4
      go_wp2_with fail
      go_region_with (go_at_call 85; refine (eqWay (Y k) sa la fa oa ma sa' la' fa' oa' ma' sc lc fc oc mc sc' lc' fc' oc' mc' _ (HL.out k hlt) G.out G'.out).mono ?_; rintro e w1 ⟨rfl, hb1⟩)
      all_goals
        go_wp2_with fail
        go_roundw
        case rel => exact ⟨k + 1, by omega, by go_num, hbel.drew.trans (hb1.mono hbel.drew.size)⟩
        case measure => simp [intOf]; omega
    · go_wp2
      go_ret
      exact ⟨rfl, hbel⟩

set_option maxRecDepth 100000 in
set_option maxHeartbeats 2000000 in
theorem eqBoolSS (a a' : Option Addr) (n cap cap' : Nat) (K : Nat → Nat) (T : Nat → Nat → Bool) (w : World) (hn : n ≤ 1048576) (hL : ∀ i, i < n → K i ≤ 1048576) (hR : BsAt 0 w a n K T) (hR' : BsAt 0 w a' n K T) :
    Calls Tryz.prog 45 #[.slice a n cap, .slice a' n cap'] w fun e w' => e = .returned (.bool true) ∧ Below w.heap.size w w' := by
  have HL : Hid (∀ i, i < n → K i ≤ 1048576) := hL
  clear hL
  go_enter Tryz.func45, Tryz.ntmps45
  go_wp2_with fail
  go_loopw [5] (fun i wr => ∃ (k : Nat), k ≤ n ∧ i = .int .i64 k ∧ Below w.heap.size w wr) (fun i _ => n - (intOf i).toNat)
  case atStart => exact ⟨0, Nat.zero_le _, rfl, Below.refl _ _⟩
  case round =>
    obtain ⟨k, hk, rfl, hbel⟩ := hrel
    by_cases hlt : k < n
    · obtain ⟨b, off, rfl, _, hb, hc⟩ := (hR.mono (Nat.le_refl _) hbel.drew (Nat.le_refl _)) (by omega)
      obtain ⟨b', off', rfl, _, hb', hc'⟩ := (hR'.mono (Nat.le_refl _) hbel.drew (Nat.le_refl _)) (by omega)
      obtain ⟨ra, rc, c0, g⟩ := hc k hlt
      obtain ⟨ra', rc', d0, g'⟩ := hc' k hlt
      have hlt' : (k : Int) < (n : Int) := by omega
      have hk0 : (0 : Int) ≤ (k : Int) := by omega
      have G : Hid (VsAt 1 0 wr.drew ra (K k) (boolF (T k))) := g
      have G' : Hid (VsAt 1 0 wr.drew ra' (K k) (boolF (T k))) := g'
      have c00 : wr.cell? _ = _ := c0
      have d00 : wr.cell? _ = _ := d0
      clear hc hc' g g' c0 d0
      go_wp2_with fail
      go_region_with (go_at_call 46; refine (eqBoolS ra ra' (K k) rc rc' (T k) _ (HL.out k hlt) G.out G'.out).mono ?_; rintro e w1 ⟨rfl, hb1⟩)
      all_goals
        go_wp2_with fail
        go_roundw
        case rel => exact ⟨k + 1, by omega, by go_num, hbel.drew.trans (hb1.mono hbel.drew.size)⟩
        case measure => simp [intOf]; omega
    · go_wp2
      go_ret
      exact ⟨rfl, hbel⟩

set_option maxRecDepth 100000 in
set_option maxHeartbeats 4000000 in
theorem eqPlan (p : Pl) (wa ya ba wa' ya' ba' : Option Addr) (wc yc bc wc' yc' bc' : Nat) (w : World) (hs : p.small) (h : PlIn 0 w p wa ya ba) (h' : PlIn 0 w p wa' ya' ba') :
    Calls Tryz.prog 12 #[.agg #[.int .i64 p.sec, .slice wa p.nw wc, .slice ya p.ny yc, .slice ba p.nb bc, .int .i64 p.hold], .agg #[.int .i64 p.sec, .slice wa' p.nw wc', .slice ya' p.ny yc', .slice ba' p.nb bc', .int .i64 p.hold]] w fun e w' => e = .returned (.bool true) ∧ Below w.heap.size w w' := by
  obtain ⟨s1, s2, s3, s4, s5⟩ := hs
  have HS : Hid ((∀ i, i < p.ny → (p.Y i).small 1048576) ∧ ∀ i, i < p.nb → p.K i ≤ 1048576) := ⟨s3, s5⟩
  have H : Hid (PlIn 0 w p wa ya ba ∧ PlIn 0 w p wa' ya' ba') := ⟨h, h'⟩
  clear h h' s3 s5
  go_enter Tryz.func12, Tryz.ntmps12
  go_wp2_with fail
  have B0 := bel2 w (.cells #[.int .i64 p.sec, .slice wa p.nw wc, .slice ya p.ny yc, .slice ba p.nb bc, .int .i64 p.hold] 37) (.cells #[.int .i64 p.sec, .slice wa' p.nw wc', .slice ya' p.ny yc', .slice ba' p.nb bc', .int .i64 p.hold] 37)
  have A1 := (Box.new w 37 #[.int .i64 p.sec, .slice wa p.nw wc, .slice ya p.ny yc, .slice ba p.nb bc, .int .i64 p.hold]).alloc (.cells #[.int .i64 p.sec, .slice wa' p.nw wc', .slice ya' p.ny yc', .slice ba' p.nb bc', .int .i64 p.hold] 37)
  have A2 := Box.new (w.alloc (.cells #[.int .i64 p.sec, .slice wa p.nw wc, .slice ya p.ny yc, .slice ba p.nb bc, .int .i64 p.hold] 37)) 37 #[.int .i64 p.sec, .slice wa' p.nw wc', .slice ya' p.ny yc', .slice ba' p.nb bc', .int .i64 p.hold]
  have z1 : (w.alloc (.cells #[.int .i64 p.sec, .slice wa p.nw wc, .slice ya p.ny yc, .slice ba p.nb bc, .int .i64 p.hold] 37)).heap.size = w.heap.size + 1 := by simp
  rw [z1] at A2
  have HB0 : Hid (Below w.heap.size w ((w.alloc (.cells #[.int .i64 p.sec, .slice wa p.nw wc, .slice ya p.ny yc, .slice ba p.nb bc, .int .i64 p.hold] 37)).alloc (.cells #[.int .i64 p.sec, .slice wa' p.nw wc', .slice ya' p.ny yc', .slice ba' p.nb bc', .int .i64 p.hold] 37)) ∧ Box _ w.heap.size 37 _ ∧ Box _ (w.heap.size + 1) 37 _) := ⟨B0, A1, A2⟩
  clear B0 A1 A2 z1
  refine (eqIntS wa wa' p.nw wc wc' (fun i _ => p.W i) _ s1 (H.out.1.sw.mono (Nat.le_refl _) HB0.out.1 (Nat.le_refl _)) (H.out.2.sw.mono (Nat.le_refl _) HB0.out.1 (Nat.le_refl _))).mono ?_
  rintro e w1 ⟨rfl, hb1⟩
  have HB1 : Hid (Below w.heap.size w w1 ∧ Box w1 w.heap.size 37 #[.int .i64 p.sec, .slice wa p.nw wc, .slice ya p.ny yc, .slice ba p.nb bc, .int .i64 p.hold] ∧ Box w1 (w.heap.size + 1) 37 #[.int .i64 p.sec, .slice wa' p.nw wc', .slice ya' p.ny yc', .slice ba' p.nb bc', .int .i64 p.hold]) := ⟨HB0.out.1.trans (hb1.mono HB0.out.1.size), HB0.out.2.1.mono hb1 (Nat.le_refl _), HB0.out.2.2.mono hb1 (Nat.le_refl _)⟩
  clear hb1 HB0
  have xa1 : w1.cell? ⟨w.heap.size, 2, none⟩ = some (.slice ya p.ny yc) := HB1.out.2.1.cell 2
  have xb1 : w1.cell? ⟨w.heap.size + 1, 2, none⟩ = some (.slice ya' p.ny yc') := HB1.out.2.2.cell 2
  go_wp2_with fail
  clear xa1 xb1
  refine (eqWayS ya ya' p.ny yc yc' p.Y _ s2 HS.out.1 (H.out.1.wy.mono (Nat.le_refl _) HB1.out.1 (Nat.le_refl _)) (H.out.2.wy.mono (Nat.le_refl _) HB1.out.1 (Nat.le_refl _))).mono ?_
  rintro e w2 ⟨rfl, hb2⟩
  have HB2 : Hid (Below w.heap.size w w2 ∧ Box w2 w.heap.size 37 #[.int .i64 p.sec, .slice wa p.nw wc, .slice ya p.ny yc, .slice ba p.nb bc, .int .i64 p.hold] ∧ Box w2 (w.heap.size + 1) 37 #[.int .i64 p.sec, .slice wa' p.nw wc', .slice ya' p.ny yc', .slice ba' p.nb bc', .int .i64 p.hold]) := ⟨HB1.out.1.trans (hb2.mono HB1.out.1.size), HB1.out.2.1.mono hb2 (Nat.le_refl _), HB1.out.2.2.mono hb2 (Nat.le_refl _)⟩
  clear hb2 HB1
  have xa2 : w2.cell? ⟨w.heap.size, 3, none⟩ = some (.slice ba p.nb bc) := HB2.out.2.1.cell 3
  have xb2 : w2.cell? ⟨w.heap.size + 1, 3, none⟩ = some (.slice ba' p.nb bc') := HB2.out.2.2.cell 3
  go_wp2_with fail
  clear xa2 xb2
  refine (eqBoolSS ba ba' p.nb bc bc' p.K p.T _ s4 HS.out.2 (H.out.1.br.mono (Nat.le_refl _) HB2.out.1 (Nat.le_refl _)) (H.out.2.br.mono (Nat.le_refl _) HB2.out.1 (Nat.le_refl _))).mono ?_
  rintro e w3 ⟨rfl, hb3⟩
  have HB3 : Hid (Below w.heap.size w w3 ∧ Box w3 w.heap.size 37 #[.int .i64 p.sec, .slice wa p.nw wc, .slice ya p.ny yc, .slice ba p.nb bc, .int .i64 p.hold] ∧ Box w3 (w.heap.size + 1) 37 #[.int .i64 p.sec, .slice wa' p.nw wc', .slice ya' p.ny yc', .slice ba' p.nb bc', .int .i64 p.hold]) := ⟨HB2.out.1.trans (hb3.mono HB2.out.1.size), HB2.out.2.1.mono hb3 (Nat.le_refl _), HB2.out.2.2.mono hb3 (Nat.le_refl _)⟩
  clear hb3 HB2
  have xa3 : w3.cell? ⟨w.heap.size, 4, none⟩ = some (.int .i64 p.hold) := HB3.out.2.1.cell 4
  have xb3 : w3.cell? ⟨w.heap.size + 1, 4, none⟩ = some (.int .i64 p.hold) := HB3.out.2.2.cell 4
  go_wp2_with fail
  clear xa3 xb3
  go_ret
  exact ⟨rfl, HB3.out.1⟩

end Go.Proofs.YtkeilejbelblcaaGreatDoor
