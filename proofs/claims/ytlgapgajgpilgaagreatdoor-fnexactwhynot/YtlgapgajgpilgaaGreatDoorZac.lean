import Derived.Test.YtlgapgajgpilgaaGreatDoorZab
namespace Go.Proofs.YtlgapgajgpilgaaGreatDoor
open Go.RowKit
set_option maxRecDepth 100000 in
set_option maxHeartbeats 4000000 in
theorem eqWay (y : Wy) (sa la fa oa ma sa' la' fa' oa' ma' : Option Addr) (sc lc fc oc mc sc' lc' fc' oc' mc' : Nat) (w : World) (hs : y.small 1048576) (h : WyIn 0 w y sa la fa oa ma) (h' : WyIn 0 w y sa' la' fa' oa' ma') :
  Calls Tryz.prog 84 #[.agg #[.slice sa y.ns sc, .slice la y.nl lc, .slice fa y.nf fc, .slice oa y.no oc, .slice ma y.nm mc], .agg #[.slice sa' y.ns sc', .slice la' y.nl lc', .slice fa' y.nf fc', .slice oa' y.no oc', .slice ma' y.nm mc']] w fun e w' => e = .returned (.bool true) ∧ Below w.heap.size w w' := by
 obtain ⟨s1, s2, s3, s4, s5⟩ := hs
 have H : Hid (WyIn 0 w y sa la fa oa ma ∧ WyIn 0 w y sa' la' fa' oa' ma') := ⟨h, h'⟩
 clear h h'
 go_enter Tryz.func84, Tryz.ntmps84
 go_wp2_with fail
 have B0 := bel2 w (.cells #[.slice sa y.ns sc, .slice la y.nl lc, .slice fa y.nf fc, .slice oa y.no oc, .slice ma y.nm mc] 96) (.cells #[.slice sa' y.ns sc', .slice la' y.nl lc', .slice fa' y.nf fc', .slice oa' y.no oc', .slice ma' y.nm mc'] 96)
 have A1 := (Box.new w 96 #[.slice sa y.ns sc, .slice la y.nl lc, .slice fa y.nf fc, .slice oa y.no oc, .slice ma y.nm mc]).alloc (.cells #[.slice sa' y.ns sc', .slice la' y.nl lc', .slice fa' y.nf fc', .slice oa' y.no oc', .slice ma' y.nm mc'] 96)
 have A2 := Box.new (w.alloc (.cells #[.slice sa y.ns sc, .slice la y.nl lc, .slice fa y.nf fc, .slice oa y.no oc, .slice ma y.nm mc] 96)) 96 #[.slice sa' y.ns sc', .slice la' y.nl lc', .slice fa' y.nf fc', .slice oa' y.no oc', .slice ma' y.nm mc']
 have z1 : (w.alloc (.cells #[.slice sa y.ns sc, .slice la y.nl lc, .slice fa y.nf fc, .slice oa y.no oc, .slice ma y.nm mc] 96)).heap.size = w.heap.size + 1 := by simp
 rw [z1] at A2
 have HB0 : Hid (Below w.heap.size w ((w.alloc (.cells #[.slice sa y.ns sc, .slice la y.nl lc, .slice fa y.nf fc, .slice oa y.no oc, .slice ma y.nm mc] 96)).alloc (.cells #[.slice sa' y.ns sc', .slice la' y.nl lc', .slice fa' y.nf fc', .slice oa' y.no oc', .slice ma' y.nm mc'] 96)) ∧ Box _ w.heap.size 96 _ ∧ Box _ (w.heap.size + 1) 96 _) := ⟨B0, A1, A2⟩
 clear B0 A1 A2 z1
 refine (eqIntS sa sa' y.ns sc sc' (fun i _ => y.S i) _ (by omega) (H.out.1.s.mono nr HB0.out.1 nr) (H.out.2.s.mono nr HB0.out.1 nr)).mono ?_
 rintro e w1 ⟨rfl, hb1⟩
 have HB1 : Hid (Below w.heap.size w w1 ∧ Box w1 w.heap.size 96 #[.slice sa y.ns sc, .slice la y.nl lc, .slice fa y.nf fc, .slice oa y.no oc, .slice ma y.nm mc] ∧ Box w1 (w.heap.size + 1) 96 #[.slice sa' y.ns sc', .slice la' y.nl lc', .slice fa' y.nf fc', .slice oa' y.no oc', .slice ma' y.nm mc']) := ⟨HB0.out.1.trans (hb1.mono HB0.out.1.size), HB0.out.2.1.mono hb1 nr, HB0.out.2.2.mono hb1 nr⟩
 clear hb1
 have xa1 := HB1.out.2.1.cel 1
 have xb1 := HB1.out.2.2.cel 1
 clear HB0
 go_wp2_with fail
 clear xa1 xb1
 refine (eqTurnS la la' y.nl lc lc' y.L _ (by omega) (H.out.1.l.mono nr HB1.out.1 nr) (H.out.2.l.mono nr HB1.out.1 nr)).mono ?_
 rintro e w2 ⟨rfl, hb2⟩
 have HB2 : Hid (Below w.heap.size w w2 ∧ Box w2 w.heap.size 96 #[.slice sa y.ns sc, .slice la y.nl lc, .slice fa y.nf fc, .slice oa y.no oc, .slice ma y.nm mc] ∧ Box w2 (w.heap.size + 1) 96 #[.slice sa' y.ns sc', .slice la' y.nl lc', .slice fa' y.nf fc', .slice oa' y.no oc', .slice ma' y.nm mc']) := ⟨HB1.out.1.trans (hb2.mono HB1.out.1.size), HB1.out.2.1.mono hb2 nr, HB1.out.2.2.mono hb2 nr⟩
 clear hb2
 have xa2 := HB2.out.2.1.cel 2
 have xb2 := HB2.out.2.2.cel 2
 clear HB1
 go_wp2_with fail
 clear xa2 xb2
 refine (eqTurnS fa fa' y.nf fc fc' y.F _ (by omega) (H.out.1.f.mono nr HB2.out.1 nr) (H.out.2.f.mono nr HB2.out.1 nr)).mono ?_
 rintro e w3 ⟨rfl, hb3⟩
 have HB3 : Hid (Below w.heap.size w w3 ∧ Box w3 w.heap.size 96 #[.slice sa y.ns sc, .slice la y.nl lc, .slice fa y.nf fc, .slice oa y.no oc, .slice ma y.nm mc] ∧ Box w3 (w.heap.size + 1) 96 #[.slice sa' y.ns sc', .slice la' y.nl lc', .slice fa' y.nf fc', .slice oa' y.no oc', .slice ma' y.nm mc']) := ⟨HB2.out.1.trans (hb3.mono HB2.out.1.size), HB2.out.2.1.mono hb3 nr, HB2.out.2.2.mono hb3 nr⟩
 clear hb3
 have xa3 := HB3.out.2.1.cel 3
 have xb3 := HB3.out.2.2.cel 3
 clear HB2
 go_wp2_with fail
 clear xa3 xb3
 refine (eqIntS oa oa' y.no oc oc' (fun i _ => y.O i) _ (by omega) (H.out.1.o.mono nr HB3.out.1 nr) (H.out.2.o.mono nr HB3.out.1 nr)).mono ?_
 rintro e w4 ⟨rfl, hb4⟩
 have HB4 : Hid (Below w.heap.size w w4 ∧ Box w4 w.heap.size 96 #[.slice sa y.ns sc, .slice la y.nl lc, .slice fa y.nf fc, .slice oa y.no oc, .slice ma y.nm mc] ∧ Box w4 (w.heap.size + 1) 96 #[.slice sa' y.ns sc', .slice la' y.nl lc', .slice fa' y.nf fc', .slice oa' y.no oc', .slice ma' y.nm mc']) := ⟨HB3.out.1.trans (hb4.mono HB3.out.1.size), HB3.out.2.1.mono hb4 nr, HB3.out.2.2.mono hb4 nr⟩
 clear hb4
 have xa4 := HB4.out.2.1.cel 4
 have xb4 := HB4.out.2.2.cel 4
 clear HB3
 go_wp2_with fail
 clear xa4 xb4
 refine (eqIntS ma ma' y.nm mc mc' (fun i _ => y.M i) _ (by omega) (H.out.1.m.mono nr HB4.out.1 nr) (H.out.2.m.mono nr HB4.out.1 nr)).mono ?_
 rintro e w5 ⟨rfl, hb5⟩
 have HB5 : Hid (Below w.heap.size w w5 ∧ Box w5 w.heap.size 96 #[.slice sa y.ns sc, .slice la y.nl lc, .slice fa y.nf fc, .slice oa y.no oc, .slice ma y.nm mc] ∧ Box w5 (w.heap.size + 1) 96 #[.slice sa' y.ns sc', .slice la' y.nl lc', .slice fa' y.nf fc', .slice oa' y.no oc', .slice ma' y.nm mc']) := ⟨HB4.out.1.trans (hb5.mono HB4.out.1.size), HB4.out.2.1.mono hb5 nr, HB4.out.2.2.mono hb5 nr⟩
 clear hb5
 go_wp2_with fail
 go_ret
 exact ⟨rfl, HB5.out.1⟩
set_option maxRecDepth 100000 in
set_option maxHeartbeats 4000000 in
theorem eqWayS (a a' : Option Addr) (n cap cap' : Nat) (Y : Nat → Wy) (w : World) (hn : n ≤ 1048576) (hL : ∀ i, i < n → (Y i).small 1048576) (hR : WsAt 0 w a n Y) (hR' : WsAt 0 w a' n Y) :
  Calls Tryz.prog 46 #[.slice a n cap, .slice a' n cap'] w fun e w' => e = .returned (.bool true) ∧ Below w.heap.size w w' := by
 have HL : Hid (∀ i, i < n → (Y i).small 1048576) := hL
 clear hL
 go_enter Tryz.func46, Tryz.ntmps46
 go_wp2_with fail
 go_loopw [5] (fun i wr => ∃ (k : Nat), k ≤ n ∧ i = .int .i64 k ∧ Below w.heap.size w wr) (fun i _ => n - (intOf i).toNat)
 case atStart => exact ⟨0, Nat.zero_le _, rfl, Below.refl _ _⟩
 case round =>
  obtain ⟨k, hk, rfl, hbel⟩ := hrel
  by_cases hlt : k < n
  ·
   obtain ⟨b, off, rfl, _, hb, hc⟩ := (hR.mono nr hbel.drew nr) (by omega)
   obtain ⟨b', off', rfl, _, hb', hc'⟩ := (hR'.mono nr hbel.drew nr) (by omega)
   obtain ⟨sa, sc, la, lc, fa, fc, oa, oc, ma, mc, c0, c1, c2, c3, c4, g⟩ := hc k hlt
   obtain ⟨sa', sc', la', lc', fa', fc', oa', oc', ma', mc', d0, d1, d2, d3, d4, g'⟩ := hc' k hlt
   have hlt' : (k : Int) < (n : Int) := by omega
   have hk0 : (0 : Int) ≤ (k : Int) := by omega
   have G : Hid (WyIn 0 wr.drew (Y k) sa la fa oa ma) := g
   have G' : Hid (WyIn 0 wr.drew (Y k) sa' la' fa' oa' ma') := g'
   have c00 : wr.cell? _ = _ := c0
   have d00 : wr.cell? _ = _ := d0
   have c10 : wr.cell? _ = _ := c1
   have d10 : wr.cell? _ = _ := d1
   have c20 : wr.cell? _ = _ := c2
   have d20 : wr.cell? _ = _ := d2
   have c30 : wr.cell? _ = _ := c3
   have d30 : wr.cell? _ = _ := d3
   have c40 : wr.cell? _ = _ := c4
   have d40 : wr.cell? _ = _ := d4
   clear hc hc' g g' c0 c1 c2 c3 c4 d0 d1 d2 d3 d4
   go_wp2_with fail
   go_region_with (go_at_call 84; refine (eqWay (Y k) sa la fa oa ma sa' la' fa' oa' ma' sc lc fc oc mc sc' lc' fc' oc' mc' _ (HL.out k hlt) G.out G'.out).mono ?_; rintro e w1 ⟨rfl, hb1⟩)
   all_goals
    go_wp2_with fail
    go_roundw
    case rel => exact ⟨k + 1, by omega, by go_num, hbel.drew.trans (hb1.mono hbel.drew.size)⟩
    case measure => simp [intOf]; omega
  ·
   go_wp2
   go_ret
   exact ⟨rfl, hbel⟩
set_option maxRecDepth 100000 in
set_option maxHeartbeats 2000000 in
theorem eqBoolSS (a a' : Option Addr) (n cap cap' : Nat) (K : Nat → Nat) (T : Nat → Nat → Bool) (w : World) (hn : n ≤ 1048576) (hL : ∀ i, i < n → K i ≤ 1048576) (hR : BsAt 0 w a n K T) (hR' : BsAt 0 w a' n K T) :
  Calls Tryz.prog 47 #[.slice a n cap, .slice a' n cap'] w fun e w' => e = .returned (.bool true) ∧ Below w.heap.size w w' := by
 have HL : Hid (∀ i, i < n → K i ≤ 1048576) := hL
 clear hL
 go_enter Tryz.func47, Tryz.ntmps47
 go_wp2_with fail
 go_loopw [5] (fun i wr => ∃ (k : Nat), k ≤ n ∧ i = .int .i64 k ∧ Below w.heap.size w wr) (fun i _ => n - (intOf i).toNat)
 case atStart => exact ⟨0, Nat.zero_le _, rfl, Below.refl _ _⟩
 case round =>
  obtain ⟨k, hk, rfl, hbel⟩ := hrel
  by_cases hlt : k < n
  ·
   obtain ⟨b, off, rfl, _, hb, hc⟩ := (hR.mono nr hbel.drew nr) (by omega)
   obtain ⟨b', off', rfl, _, hb', hc'⟩ := (hR'.mono nr hbel.drew nr) (by omega)
   obtain ⟨ra, rc, c0, g⟩ := hc k hlt
   obtain ⟨ra', rc', d0, g'⟩ := hc' k hlt
   have hlt' : (k : Int) < (n : Int) := by omega
   have hk0 : (0 : Int) ≤ (k : Int) := by omega
   have G : Hid (VsAt 1 0 wr.drew ra (K k) (boolF (T k))) := g
   have G' : Hid (VsAt 1 0 wr.drew ra' (K k) (boolF (T k))) := g'
   have c00 : wr.cell? _ = _ := c0
   have d00 : wr.cell? _ = _ := d0
   clear hc hc' g g' c0 d0
   go_wp2_with fail
   go_region_with (go_at_call 48; refine (eqBoolS ra ra' (K k) rc rc' (T k) _ (HL.out k hlt) G.out G'.out).mono ?_; rintro e w1 ⟨rfl, hb1⟩)
   all_goals
    go_wp2_with fail
    go_roundw
    case rel => exact ⟨k + 1, by omega, by go_num, hbel.drew.trans (hb1.mono hbel.drew.size)⟩
    case measure => simp [intOf]; omega
  ·
   go_wp2
   go_ret
   exact ⟨rfl, hbel⟩
set_option maxRecDepth 100000 in
set_option maxHeartbeats 4000000 in
theorem eqPlan (p : Pl) (wa ya ba wa' ya' ba' : Option Addr) (wc yc bc wc' yc' bc' : Nat) (w : World) (hs : p.small) (h : PlIn 0 w p wa ya ba) (h' : PlIn 0 w p wa' ya' ba') :
  Calls Tryz.prog 13 #[.agg #[.int .i64 p.sec, .slice wa p.nw wc, .slice ya p.ny yc, .slice ba p.nb bc, .int .i64 p.hold], .agg #[.int .i64 p.sec, .slice wa' p.nw wc', .slice ya' p.ny yc', .slice ba' p.nb bc', .int .i64 p.hold]] w fun e w' => e = .returned (.bool true) ∧ Below w.heap.size w w' := by
 obtain ⟨s1, s2, s3, s4, s5⟩ := hs
 have HS : Hid ((∀ i, i < p.ny → (p.Y i).small 1048576) ∧ ∀ i, i < p.nb → p.K i ≤ 1048576) := ⟨s3, s5⟩
 have H : Hid (PlIn 0 w p wa ya ba ∧ PlIn 0 w p wa' ya' ba') := ⟨h, h'⟩
 clear h h' s3 s5
 go_enter Tryz.func13, Tryz.ntmps13
 go_wp2_with fail
 have B0 := bel2 w (.cells #[.int .i64 p.sec, .slice wa p.nw wc, .slice ya p.ny yc, .slice ba p.nb bc, .int .i64 p.hold] 37) (.cells #[.int .i64 p.sec, .slice wa' p.nw wc', .slice ya' p.ny yc', .slice ba' p.nb bc', .int .i64 p.hold] 37)
 have A1 := (Box.new w 37 #[.int .i64 p.sec, .slice wa p.nw wc, .slice ya p.ny yc, .slice ba p.nb bc, .int .i64 p.hold]).alloc (.cells #[.int .i64 p.sec, .slice wa' p.nw wc', .slice ya' p.ny yc', .slice ba' p.nb bc', .int .i64 p.hold] 37)
 have A2 := Box.new (w.alloc (.cells #[.int .i64 p.sec, .slice wa p.nw wc, .slice ya p.ny yc, .slice ba p.nb bc, .int .i64 p.hold] 37)) 37 #[.int .i64 p.sec, .slice wa' p.nw wc', .slice ya' p.ny yc', .slice ba' p.nb bc', .int .i64 p.hold]
 have z1 : (w.alloc (.cells #[.int .i64 p.sec, .slice wa p.nw wc, .slice ya p.ny yc, .slice ba p.nb bc, .int .i64 p.hold] 37)).heap.size = w.heap.size + 1 := by simp
 rw [z1] at A2
 have HB0 : Hid (Below w.heap.size w ((w.alloc (.cells #[.int .i64 p.sec, .slice wa p.nw wc, .slice ya p.ny yc, .slice ba p.nb bc, .int .i64 p.hold] 37)).alloc (.cells #[.int .i64 p.sec, .slice wa' p.nw wc', .slice ya' p.ny yc', .slice ba' p.nb bc', .int .i64 p.hold] 37)) ∧ Box _ w.heap.size 37 _ ∧ Box _ (w.heap.size + 1) 37 _) := ⟨B0, A1, A2⟩
 clear B0 A1 A2 z1
 refine (eqIntS wa wa' p.nw wc wc' (fun i _ => p.W i) _ s1 (H.out.1.sw.mono nr HB0.out.1 nr) (H.out.2.sw.mono nr HB0.out.1 nr)).mono ?_
 rintro e w1 ⟨rfl, hb1⟩
 have HB1 : Hid (Below w.heap.size w w1 ∧ Box w1 w.heap.size 37 #[.int .i64 p.sec, .slice wa p.nw wc, .slice ya p.ny yc, .slice ba p.nb bc, .int .i64 p.hold] ∧ Box w1 (w.heap.size + 1) 37 #[.int .i64 p.sec, .slice wa' p.nw wc', .slice ya' p.ny yc', .slice ba' p.nb bc', .int .i64 p.hold]) := ⟨HB0.out.1.trans (hb1.mono HB0.out.1.size), HB0.out.2.1.mono hb1 nr, HB0.out.2.2.mono hb1 nr⟩
 clear hb1 HB0
 have xa1 := HB1.out.2.1.cel 2
 have xb1 := HB1.out.2.2.cel 2
 go_wp2_with fail
 clear xa1 xb1
 refine (eqWayS ya ya' p.ny yc yc' p.Y _ s2 HS.out.1 (H.out.1.wy.mono nr HB1.out.1 nr) (H.out.2.wy.mono nr HB1.out.1 nr)).mono ?_
 rintro e w2 ⟨rfl, hb2⟩
 have HB2 : Hid (Below w.heap.size w w2 ∧ Box w2 w.heap.size 37 #[.int .i64 p.sec, .slice wa p.nw wc, .slice ya p.ny yc, .slice ba p.nb bc, .int .i64 p.hold] ∧ Box w2 (w.heap.size + 1) 37 #[.int .i64 p.sec, .slice wa' p.nw wc', .slice ya' p.ny yc', .slice ba' p.nb bc', .int .i64 p.hold]) := ⟨HB1.out.1.trans (hb2.mono HB1.out.1.size), HB1.out.2.1.mono hb2 nr, HB1.out.2.2.mono hb2 nr⟩
 clear hb2 HB1
 have xa2 := HB2.out.2.1.cel 3
 have xb2 := HB2.out.2.2.cel 3
 go_wp2_with fail
 clear xa2 xb2
 refine (eqBoolSS ba ba' p.nb bc bc' p.K p.T _ s4 HS.out.2 (H.out.1.br.mono nr HB2.out.1 nr) (H.out.2.br.mono nr HB2.out.1 nr)).mono ?_
 rintro e w3 ⟨rfl, hb3⟩
 have HB3 : Hid (Below w.heap.size w w3 ∧ Box w3 w.heap.size 37 #[.int .i64 p.sec, .slice wa p.nw wc, .slice ya p.ny yc, .slice ba p.nb bc, .int .i64 p.hold] ∧ Box w3 (w.heap.size + 1) 37 #[.int .i64 p.sec, .slice wa' p.nw wc', .slice ya' p.ny yc', .slice ba' p.nb bc', .int .i64 p.hold]) := ⟨HB2.out.1.trans (hb3.mono HB2.out.1.size), HB2.out.2.1.mono hb3 nr, HB2.out.2.2.mono hb3 nr⟩
 clear hb3 HB2
 have xa3 := HB3.out.2.1.cel 4
 have xb3 := HB3.out.2.2.cel 4
 go_wp2_with fail
 clear xa3 xb3
 go_ret
 exact ⟨rfl, HB3.out.1⟩
end Go.Proofs.YtlgapgajgpilgaaGreatDoor
namespace Go.Proofs.YtlgapgajgpilgaaGreatDoor
open Go.RowKit
structure Hl where
 st : Int
 gone : Int
 nb : Nat
 B : Nat → Bool
 shown : Bool
 timer : Int
def HsAt (C : Nat) (w : World) (a : Option Addr) (n : Nat) (Y : Nat → Hl) : Prop :=
 0 < n → ∃ b off, a = some ⟨b, off, none⟩ ∧ C ≤ b ∧ b < w.heap.size ∧ ∀ i, i < n → ∃ ra rc,
  w.cell? ⟨b, off + i * 5, none⟩ = some (.int .i64 (Y i).st) ∧ w.cell? ⟨b, off + i * 5 + 1, none⟩ = some (.int .i64 (Y i).gone) ∧
  w.cell? ⟨b, off + i * 5 + 2, none⟩ = some (.slice ra (Y i).nb rc) ∧ w.cell? ⟨b, off + i * 5 + 3, none⟩ = some (.bool (Y i).shown) ∧
  w.cell? ⟨b, off + i * 5 + 4, none⟩ = some (.int .i64 (Y i).timer) ∧ VsAt 1 C w ra (Y i).nb (boolF (Y i).B)
theorem HsAt.keep {C C' : Nat} {w w' : World} {a : Option Addr} {n : Nat} {Y : Nat → Hl} (h : HsAt C w a n Y) (hC : C' ≤ C) (hs : w.heap.size ≤ w'.heap.size) (hk : ∀ b, C ≤ b → b < w.heap.size → w'.heap[b]? = w.heap[b]?) : HsAt C' w' a n Y := by
 intro h0
 obtain ⟨b, off, ha, hge, hlt, hc⟩ := h h0
 refine ⟨b, off, ha, by omega, by omega, fun i hi => ?_⟩
 obtain ⟨ra, rc, h1, h2, h3, h4, h5, h6⟩ := hc i hi
 have e := fun o => World.cell?_of_block (w := w) (w' := w') (a := ⟨b, o, none⟩) (hk b hge hlt)
 exact ⟨ra, rc, (e _).trans h1, (e _).trans h2, (e _).trans h3, (e _).trans h4, (e _).trans h5, h6.keep hC hs hk⟩
theorem HsAt.mono {C C' : Nat} {w w' : World} {a : Option Addr} {n : Nat} {Y : Nat → Hl} {B : Nat} (h : HsAt C w a n Y) (hC : C' ≤ C) (hb : Below B w w') (hB : w.heap.size ≤ B) : HsAt C' w' a n Y :=
 h.keep hC hb.size fun b _ hlt => hb.block b (by omega)
structure Fm where
 ok : Bool
 no : Nat
 O : Nat → Bool
 np : Nat
 P : Nat → Nat → Int
 nh : Nat
 Y : Nat → Hl
def Fm.small (f : Fm) : Prop := f.no ≤ 1048576 ∧ f.np ≤ 1048576 ∧ f.nh ≤ 1048576 ∧ ∀ i, i < f.nh → (f.Y i).nb ≤ 1048576
structure FmIn (C : Nat) (w : World) (f : Fm) (oa pa ha : Option Addr) : Prop where
 o : VsAt 1 C w oa f.no (boolF f.O)
 p : VsAt 2 C w pa f.np (intF f.P)
 h : HsAt C w ha f.nh f.Y
theorem FmIn.mono {C C' : Nat} {w w' : World} {f : Fm} {oa pa ha : Option Addr} {B : Nat} (h : FmIn C w f oa pa ha) (hC : C' ≤ C) (hb : Below B w w') (hB : w.heap.size ≤ B) : FmIn C' w' f oa pa ha := ⟨h.o.mono hC hb hB, h.p.mono hC hb hB, h.h.mono hC hb hB⟩
set_option maxHeartbeats 1000000 in
theorem eqPoint (a0 a1 : Int) (w : World) :
  Calls Tryz.prog 85 #[.agg #[.int .i64 a0, .int .i64 a1], .agg #[.int .i64 a0, .int .i64 a1]] w fun e w' => e = .returned (.bool true) ∧ Below w.heap.size w w' := by
 go_enter Tryz.func85, Tryz.ntmps85
 go_wp2
 go_ret
 exact ⟨rfl, bel2 _ _ _⟩
set_option maxHeartbeats 1000000 in
theorem eqPointS (a a' : Option Addr) (n cap cap' : Nat) (F : Nat → Nat → Int) (w : World) (hn : n ≤ 1048576) (hE : VsAt 2 0 w a n (intF F)) (hE' : VsAt 2 0 w a' n (intF F)) :
  Calls Tryz.prog 49 #[.slice a n cap, .slice a' n cap'] w fun e w' => e = .returned (.bool true) ∧ Below w.heap.size w w' := by
 go_enter Tryz.func49, Tryz.ntmps49
 go_wp2_with fail
 go_loopw [5] (fun i wr => ∃ (k : Nat), k ≤ n ∧ i = .int .i64 k ∧ Below w.heap.size w wr) (fun i _ => n - (intOf i).toNat)
 case atStart => exact ⟨0, Nat.zero_le _, rfl, Below.refl _ _⟩
 case round =>
  obtain ⟨k, hk, rfl, hbel⟩ := hrel
  by_cases hlt : k < n
  ·
   obtain ⟨b, off, rfl, _, hb, hc⟩ := (hE.mono nr hbel nr) (by omega)
   obtain ⟨b', off', rfl, _, hb', hc'⟩ := (hE'.mono nr hbel nr) (by omega)
   have c0 : wr.cell? ⟨b, off + k * 2, none⟩ = some (.int .i64 (F k 0)) := hc k hlt 0 (by omega)
   have c1 : wr.cell? ⟨b, off + k * 2 + 1, none⟩ = some (.int .i64 (F k 1)) := hc k hlt 1 (by omega)
   have d0 : wr.cell? ⟨b', off' + k * 2, none⟩ = some (.int .i64 (F k 0)) := hc' k hlt 0 (by omega)
   have d1 : wr.cell? ⟨b', off' + k * 2 + 1, none⟩ = some (.int .i64 (F k 1)) := hc' k hlt 1 (by omega)
   have hlt' : (k : Int) < (n : Int) := by omega
   have hk0 : (0 : Int) ≤ (k : Int) := by omega
   clear hc hc'
   go_wp2_with fail
   go_region_with (go_at_call 85; refine (eqPoint (F k 0) (F k 1) _).mono ?_; rintro e w1 ⟨rfl, hb1⟩)
   all_goals
    go_wp2_with fail
    go_roundw
    case rel => exact ⟨k + 1, by omega, by go_num, hbel.drew.trans (hb1.mono hbel.drew.size)⟩
    case measure => simp [intOf]; omega
  ·
   go_wp2
   go_ret
   exact ⟨rfl, hbel⟩
set_option maxRecDepth 100000 in
set_option maxHeartbeats 4000000 in
theorem eqHeld (y : Hl) (ra ra' : Option Addr) (rc rc' : Nat) (w : World) (hs : y.nb ≤ 1048576) (h : VsAt 1 0 w ra y.nb (boolF y.B)) (h' : VsAt 1 0 w ra' y.nb (boolF y.B)) :
  Calls Tryz.prog 86 #[.agg #[.int .i64 y.st, .int .i64 y.gone, .slice ra y.nb rc, .bool y.shown, .int .i64 y.timer], .agg #[.int .i64 y.st, .int .i64 y.gone, .slice ra' y.nb rc', .bool y.shown, .int .i64 y.timer]] w fun e w' => e = .returned (.bool true) ∧ Below w.heap.size w w' := by
 have H : Hid (VsAt 1 0 w ra y.nb (boolF y.B) ∧ VsAt 1 0 w ra' y.nb (boolF y.B)) := ⟨h, h'⟩
 clear h h'
 go_enter Tryz.func86, Tryz.ntmps86
 go_wp2_with fail
 have B0 := bel2 w (.cells #[.int .i64 y.st, .int .i64 y.gone, .slice ra y.nb rc, .bool y.shown, .int .i64 y.timer] 109) (.cells #[.int .i64 y.st, .int .i64 y.gone, .slice ra' y.nb rc', .bool y.shown, .int .i64 y.timer] 109)
 have A1 := (Box.new w 109 #[.int .i64 y.st, .int .i64 y.gone, .slice ra y.nb rc, .bool y.shown, .int .i64 y.timer]).alloc (.cells #[.int .i64 y.st, .int .i64 y.gone, .slice ra' y.nb rc', .bool y.shown, .int .i64 y.timer] 109)
 have A2 : Box ((w.alloc (.cells #[.int .i64 y.st, .int .i64 y.gone, .slice ra y.nb rc, .bool y.shown, .int .i64 y.timer] 109)).alloc (.cells #[.int .i64 y.st, .int .i64 y.gone, .slice ra' y.nb rc', .bool y.shown, .int .i64 y.timer] 109)) (w.heap.size + 1) 109 #[.int .i64 y.st, .int .i64 y.gone, .slice ra' y.nb rc', .bool y.shown, .int .i64 y.timer] := by have := Box.new (w.alloc (.cells #[.int .i64 y.st, .int .i64 y.gone, .slice ra y.nb rc, .bool y.shown, .int .i64 y.timer] 109)) 109 #[.int .i64 y.st, .int .i64 y.gone, .slice ra' y.nb rc', .bool y.shown, .int .i64 y.timer]; simpa using this
 refine (eqBoolS ra ra' y.nb rc rc' y.B _ hs (H.out.1.mono nr B0 nr) (H.out.2.mono nr B0 nr)).mono ?_
 rintro e w1 ⟨rfl, hb1⟩
 have S1 : Hid (Below w.heap.size w w1 ∧ Box w1 w.heap.size 109 #[.int .i64 y.st, .int .i64 y.gone, .slice ra y.nb rc, .bool y.shown, .int .i64 y.timer] ∧ Box w1 (w.heap.size + 1) 109 #[.int .i64 y.st, .int .i64 y.gone, .slice ra' y.nb rc', .bool y.shown, .int .i64 y.timer]) := ⟨B0.trans (hb1.mono B0.size), A1.mono hb1 nr, A2.mono hb1 nr⟩
 clear B0 A1 A2 hb1
 have a0 := S1.out.2.1.cel 0
 have a1 := S1.out.2.1.cel 1
 have a2 := S1.out.2.1.cel 2
 have a3 := S1.out.2.1.cel 3
 have a4 := S1.out.2.1.cel 4
 have b0 := S1.out.2.2.cel 0
 have b1 := S1.out.2.2.cel 1
 have b2 := S1.out.2.2.cel 2
 have b3 := S1.out.2.2.cel 3
 have b4 := S1.out.2.2.cel 4
 go_wp2_with fail
 go_ret
 exact ⟨rfl, S1.out.1⟩
set_option maxRecDepth 100000 in
set_option maxHeartbeats 4000000 in
theorem eqHeldS (a a' : Option Addr) (n cap cap' : Nat) (Y : Nat → Hl) (w : World) (hn : n ≤ 1048576) (hL : ∀ i, i < n → (Y i).nb ≤ 1048576) (hR : HsAt 0 w a n Y) (hR' : HsAt 0 w a' n Y) :
  Calls Tryz.prog 50 #[.slice a n cap, .slice a' n cap'] w fun e w' => e = .returned (.bool true) ∧ Below w.heap.size w w' := by
 have HL : Hid (∀ i, i < n → (Y i).nb ≤ 1048576) := hL
 clear hL
 go_enter Tryz.func50, Tryz.ntmps50
 go_wp2_with fail
 go_loopw [5] (fun i wr => ∃ (k : Nat), k ≤ n ∧ i = .int .i64 k ∧ Below w.heap.size w wr) (fun i _ => n - (intOf i).toNat)
 case atStart => exact ⟨0, Nat.zero_le _, rfl, Below.refl _ _⟩
 case round =>
  obtain ⟨k, hk, rfl, hbel⟩ := hrel
  by_cases hlt : k < n
  ·
   obtain ⟨b, off, rfl, _, hb, hc⟩ := (hR.mono nr hbel.drew nr) (by omega)
   obtain ⟨b', off', rfl, _, hb', hc'⟩ := (hR'.mono nr hbel.drew nr) (by omega)
   obtain ⟨ra, rc, c0, c1, c2, c3, c4, g⟩ := hc k hlt
   obtain ⟨ra', rc', d0, d1, d2, d3, d4, g'⟩ := hc' k hlt
   have hlt' : (k : Int) < (n : Int) := by omega
   have hk0 : (0 : Int) ≤ (k : Int) := by omega
   have G : Hid (VsAt 1 0 wr.drew ra (Y k).nb (boolF (Y k).B)) := g
   have G' : Hid (VsAt 1 0 wr.drew ra' (Y k).nb (boolF (Y k).B)) := g'
   have c00 : wr.cell? _ = _ := c0
   have d00 : wr.cell? _ = _ := d0
   have c10 : wr.cell? _ = _ := c1
   have d10 : wr.cell? _ = _ := d1
   have c20 : wr.cell? _ = _ := c2
   have d20 : wr.cell? _ = _ := d2
   have c30 : wr.cell? _ = _ := c3
   have d30 : wr.cell? _ = _ := d3
   have c40 : wr.cell? _ = _ := c4
   have d40 : wr.cell? _ = _ := d4
   clear hc hc' g g' c0 c1 c2 c3 c4 d0 d1 d2 d3 d4
   go_wp2_with fail
   go_region_with (go_at_call 86; refine (eqHeld (Y k) ra ra' rc rc' _ (HL.out k hlt) G.out G'.out).mono ?_; rintro e w1 ⟨rfl, hb1⟩)
   all_goals
    go_wp2_with fail
    go_roundw
    case rel => exact ⟨k + 1, by omega, by go_num, hbel.drew.trans (hb1.mono hbel.drew.size)⟩
    case measure => simp [intOf]; omega
  ·
   go_wp2
   go_ret
   exact ⟨rfl, hbel⟩
set_option maxRecDepth 100000 in
set_option maxHeartbeats 4000000 in
theorem eqFrame (f : Fm) (oa pa ha oa' pa' ha' : Option Addr) (oc pc hc oc' pc' hc' : Nat) (w : World) (hs : f.small) (h : FmIn 0 w f oa pa ha) (h' : FmIn 0 w f oa' pa' ha') :
  Calls Tryz.prog 14 #[.agg #[.bool f.ok, .slice oa f.no oc, .slice pa f.np pc, .slice ha f.nh hc], .agg #[.bool f.ok, .slice oa' f.no oc', .slice pa' f.np pc', .slice ha' f.nh hc']] w fun e w' => e = .returned (.bool true) ∧ Below w.heap.size w w' := by
 obtain ⟨s1, s2, s3, s4⟩ := hs
 have HS : Hid (∀ i, i < f.nh → (f.Y i).nb ≤ 1048576) := s4
 have H : Hid (FmIn 0 w f oa pa ha ∧ FmIn 0 w f oa' pa' ha') := ⟨h, h'⟩
 clear h h' s4
 go_enter Tryz.func14, Tryz.ntmps14
 go_wp2_with fail
 have B0 := bel2 w (.cells #[.bool f.ok, .slice oa f.no oc, .slice pa f.np pc, .slice ha f.nh hc] 42) (.cells #[.bool f.ok, .slice oa' f.no oc', .slice pa' f.np pc', .slice ha' f.nh hc'] 42)
 have A1 := (Box.new w 42 #[.bool f.ok, .slice oa f.no oc, .slice pa f.np pc, .slice ha f.nh hc]).alloc (.cells #[.bool f.ok, .slice oa' f.no oc', .slice pa' f.np pc', .slice ha' f.nh hc'] 42)
 have A2 : Box ((w.alloc (.cells #[.bool f.ok, .slice oa f.no oc, .slice pa f.np pc, .slice ha f.nh hc] 42)).alloc (.cells #[.bool f.ok, .slice oa' f.no oc', .slice pa' f.np pc', .slice ha' f.nh hc'] 42)) (w.heap.size + 1) 42 #[.bool f.ok, .slice oa' f.no oc', .slice pa' f.np pc', .slice ha' f.nh hc'] := by have := Box.new (w.alloc (.cells #[.bool f.ok, .slice oa f.no oc, .slice pa f.np pc, .slice ha f.nh hc] 42)) 42 #[.bool f.ok, .slice oa' f.no oc', .slice pa' f.np pc', .slice ha' f.nh hc']; simpa using this
 have S0 : Hid (Below w.heap.size w ((w.alloc (.cells #[.bool f.ok, .slice oa f.no oc, .slice pa f.np pc, .slice ha f.nh hc] 42)).alloc (.cells #[.bool f.ok, .slice oa' f.no oc', .slice pa' f.np pc', .slice ha' f.nh hc'] 42)) ∧ Box ((w.alloc (.cells #[.bool f.ok, .slice oa f.no oc, .slice pa f.np pc, .slice ha f.nh hc] 42)).alloc (.cells #[.bool f.ok, .slice oa' f.no oc', .slice pa' f.np pc', .slice ha' f.nh hc'] 42)) w.heap.size 42 #[.bool f.ok, .slice oa f.no oc, .slice pa f.np pc, .slice ha f.nh hc] ∧ Box ((w.alloc (.cells #[.bool f.ok, .slice oa f.no oc, .slice pa f.np pc, .slice ha f.nh hc] 42)).alloc (.cells #[.bool f.ok, .slice oa' f.no oc', .slice pa' f.np pc', .slice ha' f.nh hc'] 42)) (w.heap.size + 1) 42 #[.bool f.ok, .slice oa' f.no oc', .slice pa' f.np pc', .slice ha' f.nh hc']) := ⟨B0, A1, A2⟩
 clear B0 A1 A2
 refine (eqBoolS oa oa' f.no oc oc' f.O _ s1 (H.out.1.o.mono nr S0.out.1 nr) (H.out.2.o.mono nr S0.out.1 nr)).mono ?_
 rintro e w1 ⟨rfl, hb1⟩
 have S1 : Hid (Below w.heap.size w w1 ∧ Box w1 w.heap.size 42 #[.bool f.ok, .slice oa f.no oc, .slice pa f.np pc, .slice ha f.nh hc] ∧ Box w1 (w.heap.size + 1) 42 #[.bool f.ok, .slice oa' f.no oc', .slice pa' f.np pc', .slice ha' f.nh hc']) := ⟨S0.out.1.trans (hb1.mono S0.out.1.size), S0.out.2.1.mono hb1 nr, S0.out.2.2.mono hb1 nr⟩
 clear S0 hb1
 have a0 := S1.out.2.1.cel 0
 have a1 := S1.out.2.1.cel 1
 have a2 := S1.out.2.1.cel 2
 have a3 := S1.out.2.1.cel 3
 have b0 := S1.out.2.2.cel 0
 have b1 := S1.out.2.2.cel 1
 have b2 := S1.out.2.2.cel 2
 have b3 := S1.out.2.2.cel 3
 go_wp2_with fail
 clear a0 a1 a2 a3 b0 b1 b2 b3
 refine (eqPointS pa pa' f.np pc pc' f.P _ s2 (H.out.1.p.mono nr S1.out.1 nr) (H.out.2.p.mono nr S1.out.1 nr)).mono ?_
 rintro e w2 ⟨rfl, hb2⟩
 have S2 : Hid (Below w.heap.size w w2 ∧ Box w2 w.heap.size 42 #[.bool f.ok, .slice oa f.no oc, .slice pa f.np pc, .slice ha f.nh hc] ∧ Box w2 (w.heap.size + 1) 42 #[.bool f.ok, .slice oa' f.no oc', .slice pa' f.np pc', .slice ha' f.nh hc']) := ⟨S1.out.1.trans (hb2.mono S1.out.1.size), S1.out.2.1.mono hb2 nr, S1.out.2.2.mono hb2 nr⟩
 clear S1 hb2
 have a0 := S2.out.2.1.cel 0
 have a1 := S2.out.2.1.cel 1
 have a2 := S2.out.2.1.cel 2
 have a3 := S2.out.2.1.cel 3
 have b0 := S2.out.2.2.cel 0
 have b1 := S2.out.2.2.cel 1
 have b2 := S2.out.2.2.cel 2
 have b3 := S2.out.2.2.cel 3
 go_wp2_with fail
 clear a0 a1 a2 a3 b0 b1 b2 b3
 refine (eqHeldS ha ha' f.nh hc hc' f.Y _ s3 HS.out (H.out.1.h.mono nr S2.out.1 nr) (H.out.2.h.mono nr S2.out.1 nr)).mono ?_
 rintro e w3 ⟨rfl, hb3⟩
 have S3 : Hid (Below w.heap.size w w3 ∧ Box w3 w.heap.size 42 #[.bool f.ok, .slice oa f.no oc, .slice pa f.np pc, .slice ha f.nh hc] ∧ Box w3 (w.heap.size + 1) 42 #[.bool f.ok, .slice oa' f.no oc', .slice pa' f.np pc', .slice ha' f.nh hc']) := ⟨S2.out.1.trans (hb3.mono S2.out.1.size), S2.out.2.1.mono hb3 nr, S2.out.2.2.mono hb3 nr⟩
 clear S2 hb3
 have a0 := S3.out.2.1.cel 0
 have a1 := S3.out.2.1.cel 1
 have a2 := S3.out.2.1.cel 2
 have a3 := S3.out.2.1.cel 3
 have b0 := S3.out.2.2.cel 0
 have b1 := S3.out.2.2.cel 1
 have b2 := S3.out.2.2.cel 2
 have b3 := S3.out.2.2.cel 3
 go_wp2_with fail
 go_ret
 exact ⟨rfl, S3.out.1⟩
end Go.Proofs.YtlgapgajgpilgaaGreatDoor
