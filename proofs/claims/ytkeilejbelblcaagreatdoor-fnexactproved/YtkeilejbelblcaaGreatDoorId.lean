import Derived.Test.YtkeilejbelblcaaGreatDoorIc
namespace Go.Proofs.YtkeilejbelblcaaGreatDoor
open Go.RowKit

theorem secA_lt (S : Nat → Int) (n : Nat) (m : Int) : secA S n m < 18446744073709551616 := by
  unfold secA
  split
  · exact mkA_lt _ _
  · omega
theorem secB_lt (S : Nat → Int) (n : Nat) (m : Int) : secB S n m < 18446744073709551616 := by
  unfold secB
  split
  · exact mkB_lt _ _
  · omega
/-- no mark is in both -/
def offF (p : Pl) (y : Wy) : Bool := (((secA y.S y.ns p.sec &&& secA y.O y.no p.sec : Nat) : Int) == 0) && (((secB y.S y.ns p.sec &&& secB y.O y.no p.sec : Nat) : Int) == 0)
/-- a turn's section bears a mark -/
def inF (p : Pl) (y : Wy) (i : Nat) : Bool := mt (secA y.S y.ns p.sec) (secB y.S y.ns p.sec) (p.W (y.L i 0).toNat)
/-- what the program asks of a way -/
def wayI (p : Pl) (y : Wy) : Bool := decide (0 < y.ns) && listF y.S y.ns p.sec && listF y.O y.no p.sec && listF y.M y.nm p.sec && offF p y && turnsF p y && allB (inF p y) y.nl

set_option maxRecDepth 100000 in
set_option maxHeartbeats 8000000 in
theorem wayOk31 (p : Pl) (wa ya ba : Option Addr) (wc yc bc : Nat) (y : Wy) (sa oa ma : Option Addr) (lb lo fb fo : Nat) (sc lc fc oc mc : Nat) (w : World) (h1 : 1 ≤ p.sec) (h2 : p.sec ≤ 60) (hw : p.nw ≤ 40) (hs : y.small 1048576) (hW : VsAt 1 0 w wa p.nw (oneF p.W)) (hY : WyIn 0 w y sa (some ⟨lb, lo, none⟩) (some ⟨fb, fo, none⟩) oa ma) :
    Calls Tryz.prog 104 #[.agg #[.int .i64 p.sec, .slice wa p.nw wc, .slice ya p.ny yc, .slice ba p.nb bc, .int .i64 p.hold], .agg #[.slice sa y.ns sc, .slice (some ⟨lb, lo, none⟩) y.nl lc, .slice (some ⟨fb, fo, none⟩) y.nf fc, .slice oa y.no oc, .slice ma y.nm mc]] w fun e w' => e = .returned (.bool (wayI p y)) ∧ Below w.heap.size w w' := by
  have HSM : Hid (y.small 1048576) := hs
  obtain ⟨s1, s2, s3, s4, s5⟩ := hs
  have H : Hid (VsAt 1 0 w wa p.nw (oneF p.W) ∧ WyIn 0 w y sa (some ⟨lb, lo, none⟩) (some ⟨fb, fo, none⟩) oa ma) := ⟨hW, hY⟩
  clear hW hY
  go_enter Tryz.func104, Tryz.ntmps104
  go_wp2_with fail
  have B0 : Hid (Below w.heap.size w ((w.alloc (.cells #[.int .i64 p.sec, .slice wa p.nw wc, .slice ya p.ny yc, .slice ba p.nb bc, .int .i64 p.hold] 37)).alloc (.cells #[.slice sa y.ns sc, .slice (some ⟨lb, lo, none⟩) y.nl lc, .slice (some ⟨fb, fo, none⟩) y.nf fc, .slice oa y.no oc, .slice ma y.nm mc] 112)) ∧ Box ((w.alloc (.cells #[.int .i64 p.sec, .slice wa p.nw wc, .slice ya p.ny yc, .slice ba p.nb bc, .int .i64 p.hold] 37)).alloc (.cells #[.slice sa y.ns sc, .slice (some ⟨lb, lo, none⟩) y.nl lc, .slice (some ⟨fb, fo, none⟩) y.nf fc, .slice oa y.no oc, .slice ma y.nm mc] 112)) w.heap.size 37 #[.int .i64 p.sec, .slice wa p.nw wc, .slice ya p.ny yc, .slice ba p.nb bc, .int .i64 p.hold] ∧ Box ((w.alloc (.cells #[.int .i64 p.sec, .slice wa p.nw wc, .slice ya p.ny yc, .slice ba p.nb bc, .int .i64 p.hold] 37)).alloc (.cells #[.slice sa y.ns sc, .slice (some ⟨lb, lo, none⟩) y.nl lc, .slice (some ⟨fb, fo, none⟩) y.nf fc, .slice oa y.no oc, .slice ma y.nm mc] 112)) (w.heap.size + 1) 112 #[.slice sa y.ns sc, .slice (some ⟨lb, lo, none⟩) y.nl lc, .slice (some ⟨fb, fo, none⟩) y.nf fc, .slice oa y.no oc, .slice ma y.nm mc]) := ⟨bel2 _ _ _, (Box.new w 37 _).alloc _, by have := Box.new (w.alloc (.cells #[.int .i64 p.sec, .slice wa p.nw wc, .slice ya p.ny yc, .slice ba p.nb bc, .int .i64 p.hold] 37)) 112 #[.slice sa y.ns sc, .slice (some ⟨lb, lo, none⟩) y.nl lc, .slice (some ⟨fb, fo, none⟩) y.nf fc, .slice oa y.no oc, .slice ma y.nm mc]; simpa using this⟩
  refine (sec58 p wa ya ba wc yc bc sa y.ns sc y.S _ (by omega) h1 h2 (H.out.2.s.mono (Nat.le_refl _) B0.out.1 (Nat.le_refl _))).mono ?_
  rintro e w1 ⟨rfl, hb1⟩
  have B1 : Hid (Below w.heap.size w w1 ∧ Box w1 w.heap.size 37 #[.int .i64 p.sec, .slice wa p.nw wc, .slice ya p.ny yc, .slice ba p.nb bc, .int .i64 p.hold] ∧ Box w1 (w.heap.size + 1) 112 #[.slice sa y.ns sc, .slice (some ⟨lb, lo, none⟩) y.nl lc, .slice (some ⟨fb, fo, none⟩) y.nf fc, .slice oa y.no oc, .slice ma y.nm mc]) := ⟨B0.out.1.trans (hb1.mono B0.out.1.size), B0.out.2.1.mono hb1 (Nat.le_refl _), B0.out.2.2.mono hb1 (Nat.le_refl _)⟩
  clear hb1 B0
  have xp0 : w1.cell? ⟨w.heap.size, 0, none⟩ = some (.int .i64 p.sec) := B1.out.2.1.cell 0
  have xp1 : w1.cell? ⟨w.heap.size, 1, none⟩ = some (.slice wa p.nw wc) := B1.out.2.1.cell 1
  have xp2 : w1.cell? ⟨w.heap.size, 2, none⟩ = some (.slice ya p.ny yc) := B1.out.2.1.cell 2
  have xp3 : w1.cell? ⟨w.heap.size, 3, none⟩ = some (.slice ba p.nb bc) := B1.out.2.1.cell 3
  have xp4 : w1.cell? ⟨w.heap.size, 4, none⟩ = some (.int .i64 p.hold) := B1.out.2.1.cell 4
  have xy0 : w1.cell? ⟨w.heap.size + 1, 0, none⟩ = some (.slice sa y.ns sc) := B1.out.2.2.cell 0
  have xy1 : w1.cell? ⟨w.heap.size + 1, 1, none⟩ = some (.slice (some ⟨lb, lo, none⟩) y.nl lc) := B1.out.2.2.cell 1
  have xy2 : w1.cell? ⟨w.heap.size + 1, 2, none⟩ = some (.slice (some ⟨fb, fo, none⟩) y.nf fc) := B1.out.2.2.cell 2
  have xy3 : w1.cell? ⟨w.heap.size + 1, 3, none⟩ = some (.slice oa y.no oc) := B1.out.2.2.cell 3
  have xy4 : w1.cell? ⟨w.heap.size + 1, 4, none⟩ = some (.slice ma y.nm mc) := B1.out.2.2.cell 4
  have zp : w.heap.size < w1.heap.size := B1.out.2.1.lt
  have zy : w.heap.size + 1 < w1.heap.size := B1.out.2.2.lt
  go_wp2_with fail
  clear xp0 xy0 xp1 xy1 xp2 xy2 xp3 xy3 xp4 xy4 zp zy
  have B1a : Hid (Below w.heap.size w (w1.alloc (.cells #[.int .u64 ((secA y.S y.ns p.sec : Nat) : Int), .int .u64 ((secB y.S y.ns p.sec : Nat) : Int)] 192)) ∧ Box (w1.alloc (.cells #[.int .u64 ((secA y.S y.ns p.sec : Nat) : Int), .int .u64 ((secB y.S y.ns p.sec : Nat) : Int)] 192)) w.heap.size 37 #[.int .i64 p.sec, .slice wa p.nw wc, .slice ya p.ny yc, .slice ba p.nb bc, .int .i64 p.hold] ∧ Box (w1.alloc (.cells #[.int .u64 ((secA y.S y.ns p.sec : Nat) : Int), .int .u64 ((secB y.S y.ns p.sec : Nat) : Int)] 192)) (w.heap.size + 1) 112 #[.slice sa y.ns sc, .slice (some ⟨lb, lo, none⟩) y.nl lc, .slice (some ⟨fb, fo, none⟩) y.nf fc, .slice oa y.no oc, .slice ma y.nm mc]) := ⟨B1.out.1.alloc B1.out.1.size _, B1.out.2.1.alloc _, B1.out.2.2.alloc _⟩
  have M1 : Hid (Box (w1.alloc (.cells #[.int .u64 ((secA y.S y.ns p.sec : Nat) : Int), .int .u64 ((secB y.S y.ns p.sec : Nat) : Int)] 192)) w1.heap.size 192 #[.int .u64 ((secA y.S y.ns p.sec : Nat) : Int), .int .u64 ((secB y.S y.ns p.sec : Nat) : Int)]) := Box.new w1 192 _
  refine (sec58 p wa ya ba wc yc bc oa y.no oc y.O _ (by omega) h1 h2 (H.out.2.o.mono (Nat.le_refl _) B1a.out.1 (Nat.le_refl _))).mono ?_
  rintro e w2 ⟨rfl, hb2⟩
  generalize w1.heap.size = t5 at M1 ⊢
  have B2 : Hid ((Below w.heap.size w w2 ∧ Box w2 w.heap.size 37 #[.int .i64 p.sec, .slice wa p.nw wc, .slice ya p.ny yc, .slice ba p.nb bc, .int .i64 p.hold] ∧ Box w2 (w.heap.size + 1) 112 #[.slice sa y.ns sc, .slice (some ⟨lb, lo, none⟩) y.nl lc, .slice (some ⟨fb, fo, none⟩) y.nf fc, .slice oa y.no oc, .slice ma y.nm mc]) ∧ Box w2 t5 192 #[.int .u64 ((secA y.S y.ns p.sec : Nat) : Int), .int .u64 ((secB y.S y.ns p.sec : Nat) : Int)]) := ⟨⟨B1a.out.1.trans (hb2.mono B1a.out.1.size), B1a.out.2.1.mono hb2 (Nat.le_refl _), B1a.out.2.2.mono hb2 (Nat.le_refl _)⟩, M1.out.mono hb2 (Nat.le_refl _)⟩
  clear hb2 B1 B1a M1
  have xp0 : w2.cell? ⟨w.heap.size, 0, none⟩ = some (.int .i64 p.sec) := B2.out.1.2.1.cell 0
  have xp1 : w2.cell? ⟨w.heap.size, 1, none⟩ = some (.slice wa p.nw wc) := B2.out.1.2.1.cell 1
  have xp2 : w2.cell? ⟨w.heap.size, 2, none⟩ = some (.slice ya p.ny yc) := B2.out.1.2.1.cell 2
  have xp3 : w2.cell? ⟨w.heap.size, 3, none⟩ = some (.slice ba p.nb bc) := B2.out.1.2.1.cell 3
  have xp4 : w2.cell? ⟨w.heap.size, 4, none⟩ = some (.int .i64 p.hold) := B2.out.1.2.1.cell 4
  have xy0 : w2.cell? ⟨w.heap.size + 1, 0, none⟩ = some (.slice sa y.ns sc) := B2.out.1.2.2.cell 0
  have xy1 : w2.cell? ⟨w.heap.size + 1, 1, none⟩ = some (.slice (some ⟨lb, lo, none⟩) y.nl lc) := B2.out.1.2.2.cell 1
  have xy2 : w2.cell? ⟨w.heap.size + 1, 2, none⟩ = some (.slice (some ⟨fb, fo, none⟩) y.nf fc) := B2.out.1.2.2.cell 2
  have xy3 : w2.cell? ⟨w.heap.size + 1, 3, none⟩ = some (.slice oa y.no oc) := B2.out.1.2.2.cell 3
  have xy4 : w2.cell? ⟨w.heap.size + 1, 4, none⟩ = some (.slice ma y.nm mc) := B2.out.1.2.2.cell 4
  have zp : w.heap.size < w2.heap.size := B2.out.1.2.1.lt
  have zy : w.heap.size + 1 < w2.heap.size := B2.out.1.2.2.lt
  go_wp2_with fail
  clear xp0 xy0 xp1 xy1 xp2 xy2 xp3 xy3 xp4 xy4 zp zy
  have B2a : Hid ((Below w.heap.size w (w2.alloc (.cells #[.int .u64 ((secA y.O y.no p.sec : Nat) : Int), .int .u64 ((secB y.O y.no p.sec : Nat) : Int)] 192)) ∧ Box (w2.alloc (.cells #[.int .u64 ((secA y.O y.no p.sec : Nat) : Int), .int .u64 ((secB y.O y.no p.sec : Nat) : Int)] 192)) w.heap.size 37 #[.int .i64 p.sec, .slice wa p.nw wc, .slice ya p.ny yc, .slice ba p.nb bc, .int .i64 p.hold] ∧ Box (w2.alloc (.cells #[.int .u64 ((secA y.O y.no p.sec : Nat) : Int), .int .u64 ((secB y.O y.no p.sec : Nat) : Int)] 192)) (w.heap.size + 1) 112 #[.slice sa y.ns sc, .slice (some ⟨lb, lo, none⟩) y.nl lc, .slice (some ⟨fb, fo, none⟩) y.nf fc, .slice oa y.no oc, .slice ma y.nm mc]) ∧ Box (w2.alloc (.cells #[.int .u64 ((secA y.O y.no p.sec : Nat) : Int), .int .u64 ((secB y.O y.no p.sec : Nat) : Int)] 192)) t5 192 #[.int .u64 ((secA y.S y.ns p.sec : Nat) : Int), .int .u64 ((secB y.S y.ns p.sec : Nat) : Int)]) := ⟨⟨B2.out.1.1.alloc B2.out.1.1.size _, B2.out.1.2.1.alloc _, B2.out.1.2.2.alloc _⟩, B2.out.2.alloc _⟩
  have M2 : Hid (Box (w2.alloc (.cells #[.int .u64 ((secA y.O y.no p.sec : Nat) : Int), .int .u64 ((secB y.O y.no p.sec : Nat) : Int)] 192)) w2.heap.size 192 #[.int .u64 ((secA y.O y.no p.sec : Nat) : Int), .int .u64 ((secB y.O y.no p.sec : Nat) : Int)]) := Box.new w2 192 _
  refine (sec58 p wa ya ba wc yc bc ma y.nm mc y.M _ (by omega) h1 h2 (H.out.2.m.mono (Nat.le_refl _) B2a.out.1.1 (Nat.le_refl _))).mono ?_
  rintro e w3 ⟨rfl, hb3⟩
  generalize w2.heap.size = t7 at M2 ⊢
  have B3 : Hid ((Below w.heap.size w w3 ∧ Box w3 w.heap.size 37 #[.int .i64 p.sec, .slice wa p.nw wc, .slice ya p.ny yc, .slice ba p.nb bc, .int .i64 p.hold] ∧ Box w3 (w.heap.size + 1) 112 #[.slice sa y.ns sc, .slice (some ⟨lb, lo, none⟩) y.nl lc, .slice (some ⟨fb, fo, none⟩) y.nf fc, .slice oa y.no oc, .slice ma y.nm mc]) ∧ Box w3 t5 192 #[.int .u64 ((secA y.S y.ns p.sec : Nat) : Int), .int .u64 ((secB y.S y.ns p.sec : Nat) : Int)] ∧ Box w3 t7 192 #[.int .u64 ((secA y.O y.no p.sec : Nat) : Int), .int .u64 ((secB y.O y.no p.sec : Nat) : Int)]) := ⟨⟨B2a.out.1.1.trans (hb3.mono B2a.out.1.1.size), B2a.out.1.2.1.mono hb3 (Nat.le_refl _), B2a.out.1.2.2.mono hb3 (Nat.le_refl _)⟩, B2a.out.2.mono hb3 (Nat.le_refl _), M2.out.mono hb3 (Nat.le_refl _)⟩
  clear hb3 B2 B2a M2
  have BA : Hid (Below w.heap.size w (w3.alloc (.cells #[.int .u64 ((secA y.M y.nm p.sec : Nat) : Int), .int .u64 ((secB y.M y.nm p.sec : Nat) : Int)] 192))) := B3.out.1.1.alloc B3.out.1.1.size _
  have xp0 : w3.cell? ⟨w.heap.size, 0, none⟩ = some (.int .i64 p.sec) := B3.out.1.2.1.cell 0
  have xp1 : w3.cell? ⟨w.heap.size, 1, none⟩ = some (.slice wa p.nw wc) := B3.out.1.2.1.cell 1
  have xp2 : w3.cell? ⟨w.heap.size, 2, none⟩ = some (.slice ya p.ny yc) := B3.out.1.2.1.cell 2
  have xp3 : w3.cell? ⟨w.heap.size, 3, none⟩ = some (.slice ba p.nb bc) := B3.out.1.2.1.cell 3
  have xp4 : w3.cell? ⟨w.heap.size, 4, none⟩ = some (.int .i64 p.hold) := B3.out.1.2.1.cell 4
  have xy0 : w3.cell? ⟨w.heap.size + 1, 0, none⟩ = some (.slice sa y.ns sc) := B3.out.1.2.2.cell 0
  have xy1 : w3.cell? ⟨w.heap.size + 1, 1, none⟩ = some (.slice (some ⟨lb, lo, none⟩) y.nl lc) := B3.out.1.2.2.cell 1
  have xy2 : w3.cell? ⟨w.heap.size + 1, 2, none⟩ = some (.slice (some ⟨fb, fo, none⟩) y.nf fc) := B3.out.1.2.2.cell 2
  have xy3 : w3.cell? ⟨w.heap.size + 1, 3, none⟩ = some (.slice oa y.no oc) := B3.out.1.2.2.cell 3
  have xy4 : w3.cell? ⟨w.heap.size + 1, 4, none⟩ = some (.slice ma y.nm mc) := B3.out.1.2.2.cell 4
  have zp : w.heap.size < w3.heap.size := B3.out.1.2.1.lt
  have zy : w.heap.size + 1 < w3.heap.size := B3.out.1.2.2.lt
  have a0 : w3.cell? ⟨t5, 0, none⟩ = some (.int .u64 ((secA y.S y.ns p.sec : Nat) : Int)) := B3.out.2.1.cell 0
  have a1 : w3.cell? ⟨t5, 1, none⟩ = some (.int .u64 ((secB y.S y.ns p.sec : Nat) : Int)) := B3.out.2.1.cell 1
  have b0 : w3.cell? ⟨t7, 0, none⟩ = some (.int .u64 ((secA y.O y.no p.sec : Nat) : Int)) := B3.out.2.2.cell 0
  have b1 : w3.cell? ⟨t7, 1, none⟩ = some (.int .u64 ((secB y.O y.no p.sec : Nat) : Int)) := B3.out.2.2.cell 1
  have z5 : t5 < w3.heap.size := B3.out.2.1.lt
  have z7 : t7 < w3.heap.size := B3.out.2.2.lt
  by_cases hz : y.ns = 0
  · have hzb : ((y.ns : Int) == 0) = true := by simpa using hz
    go_wp2_with fail
    go_ret
    exact ⟨by simp [wayI, hz], BA.out⟩
  have hzb : ((y.ns : Int) == 0) = false := by simpa using hz
  cases f1 : listF y.S y.ns p.sec with
  | false =>
    go_wp2_with fail
    go_ret
    exact ⟨by simp [wayI, f1], BA.out⟩
  | true =>
  cases f2 : listF y.O y.no p.sec with
  | false =>
    go_wp2_with fail
    go_ret
    exact ⟨by simp [wayI, f2], BA.out⟩
  | true =>
  cases f3 : listF y.M y.nm p.sec with
  | false =>
    go_wp2_with fail
    go_ret
    exact ⟨by simp [wayI, f3], BA.out⟩
  | true =>
  have heq := eq97 ((secA y.S y.ns p.sec &&& secA y.O y.no p.sec : Nat) : Int) ((secB y.S y.ns p.sec &&& secB y.O y.no p.sec : Nat) : Int) 0 0
  go_wp2_with fail
  refine (and59 (secA y.S y.ns p.sec) (secB y.S y.ns p.sec) (secA y.O y.no p.sec) (secB y.O y.no p.sec) _ (secA_lt _ _ _) (secB_lt _ _ _) (secA_lt _ _ _) (secB_lt _ _ _)).mono ?_
  rintro e w4 ⟨rfl, hb4⟩
  have BB := bel1 w3 (.cells #[.int .u64 ((secA y.M y.nm p.sec : Nat) : Int), .int .u64 ((secB y.M y.nm p.sec : Nat) : Int)] 192)
  have hb4' : Below w3.heap.size w3 w4 := BB.trans (hb4.mono BB.size)
  have B4 : Hid ((Below w.heap.size w w4 ∧ Box w4 w.heap.size 37 #[.int .i64 p.sec, .slice wa p.nw wc, .slice ya p.ny yc, .slice ba p.nb bc, .int .i64 p.hold] ∧ Box w4 (w.heap.size + 1) 112 #[.slice sa y.ns sc, .slice (some ⟨lb, lo, none⟩) y.nl lc, .slice (some ⟨fb, fo, none⟩) y.nf fc, .slice oa y.no oc, .slice ma y.nm mc]) ∧ Box w4 t5 192 #[.int .u64 ((secA y.S y.ns p.sec : Nat) : Int), .int .u64 ((secB y.S y.ns p.sec : Nat) : Int)]) := ⟨⟨B3.out.1.1.trans (hb4'.mono B3.out.1.1.size), B3.out.1.2.1.mono hb4' (Nat.le_refl _), B3.out.1.2.2.mono hb4' (Nat.le_refl _)⟩, B3.out.2.1.mono hb4' (Nat.le_refl _)⟩
  clear xp0 xy0 xp1 xy1 xp2 xy2 xp3 xy3 xp4 xy4 zp zy
  clear a0 a1 b0 b1 z5 z7 hb4 hb4' BB B3 BA
  cases f4 : ((((secA y.S y.ns p.sec &&& secA y.O y.no p.sec : Nat) : Int) == 0) && (((secB y.S y.ns p.sec &&& secB y.O y.no p.sec : Nat) : Int) == 0)) with
  | false =>
    rw [f4] at heq
    have hoff : offF p y = false := f4
    go_wp2_with fail
    go_ret
    exact ⟨by simp [wayI, hoff], B4.out.1.1⟩
  | true =>
  rw [f4] at heq
  have hoff : offF p y = true := f4
  have xp0 : w4.cell? ⟨w.heap.size, 0, none⟩ = some (.int .i64 p.sec) := B4.out.1.2.1.cell 0
  have xp1 : w4.cell? ⟨w.heap.size, 1, none⟩ = some (.slice wa p.nw wc) := B4.out.1.2.1.cell 1
  have xp2 : w4.cell? ⟨w.heap.size, 2, none⟩ = some (.slice ya p.ny yc) := B4.out.1.2.1.cell 2
  have xp3 : w4.cell? ⟨w.heap.size, 3, none⟩ = some (.slice ba p.nb bc) := B4.out.1.2.1.cell 3
  have xp4 : w4.cell? ⟨w.heap.size, 4, none⟩ = some (.int .i64 p.hold) := B4.out.1.2.1.cell 4
  have xy0 : w4.cell? ⟨w.heap.size + 1, 0, none⟩ = some (.slice sa y.ns sc) := B4.out.1.2.2.cell 0
  have xy1 : w4.cell? ⟨w.heap.size + 1, 1, none⟩ = some (.slice (some ⟨lb, lo, none⟩) y.nl lc) := B4.out.1.2.2.cell 1
  have xy2 : w4.cell? ⟨w.heap.size + 1, 2, none⟩ = some (.slice (some ⟨fb, fo, none⟩) y.nf fc) := B4.out.1.2.2.cell 2
  have xy3 : w4.cell? ⟨w.heap.size + 1, 3, none⟩ = some (.slice oa y.no oc) := B4.out.1.2.2.cell 3
  have xy4 : w4.cell? ⟨w.heap.size + 1, 4, none⟩ = some (.slice ma y.nm mc) := B4.out.1.2.2.cell 4
  have zp : w.heap.size < w4.heap.size := B4.out.1.2.1.lt
  have zy : w.heap.size + 1 < w4.heap.size := B4.out.1.2.2.lt
  go_wp2_with fail
  clear xp0 xy0 xp1 xy1 xp2 xy2 xp3 xy3 xp4 xy4 zp zy
  clear heq
  refine (turns60 p wa ya ba wc yc bc y sa oa ma lb lo fb fo sc lc fc oc mc _ hw HSM.out (H.out.2.l.mono (Nat.le_refl _) B4.out.1.1 (Nat.le_refl _)) (H.out.2.f.mono (Nat.le_refl _) B4.out.1.1 (Nat.le_refl _))).mono ?_
  rintro e w5 ⟨he, hb5⟩
  have B5 : Hid ((Below w.heap.size w w5 ∧ Box w5 w.heap.size 37 #[.int .i64 p.sec, .slice wa p.nw wc, .slice ya p.ny yc, .slice ba p.nb bc, .int .i64 p.hold] ∧ Box w5 (w.heap.size + 1) 112 #[.slice sa y.ns sc, .slice (some ⟨lb, lo, none⟩) y.nl lc, .slice (some ⟨fb, fo, none⟩) y.nf fc, .slice oa y.no oc, .slice ma y.nm mc]) ∧ Box w5 t5 192 #[.int .u64 ((secA y.S y.ns p.sec : Nat) : Int), .int .u64 ((secB y.S y.ns p.sec : Nat) : Int)]) := ⟨⟨B4.out.1.1.trans (hb5.mono B4.out.1.1.size), B4.out.1.2.1.mono hb5 (Nat.le_refl _), B4.out.1.2.2.mono hb5 (Nat.le_refl _)⟩, B4.out.2.mono hb5 (Nat.le_refl _)⟩
  clear hb5 B4
  cases f5 : turnsF p y with
  | false =>
    rw [f5] at he
    subst he
    go_wp2_with fail
    go_ret
    exact ⟨by simp [wayI, f5], B5.out.1.1⟩
  | true =>
  rw [f5] at he
  subst he
  have HT : Hid (∀ q, q < y.nl → ∃ o : Nat, y.L q 0 = (o : Int) ∧ o < p.nw) := fun q hq => by
    have g := f5
    simp only [turnsF, Bool.and_eq_true] at g
    have g := allB_iff.1 g.2 q (by omega)
    simp only [tuF, inB, Bool.and_eq_true, decide_eq_true_eq, cat, if_pos hq] at g
    exact ⟨(y.L q 0).toNat, by omega, by omega⟩
  have xy1 : w5.cell? ⟨w.heap.size + 1, 1, none⟩ = some (.slice (some ⟨lb, lo, none⟩) y.nl lc) := B5.out.1.2.2.cell 1
  have HF1 : Hid (listF y.S y.ns p.sec = true ∧ listF y.O y.no p.sec = true ∧ listF y.M y.nm p.sec = true ∧ offF p y = true ∧ turnsF p y = true) := ⟨f1, f2, f3, hoff, f5⟩
  go_wp2_with fail
  clear xy1 f1 f2 f3 hoff f5 f4
  go_loopw [66] (fun i wr => ∃ q : Nat, q ≤ y.nl ∧ i = .int .i64 q ∧ Hid (∀ i, i < q → inF p y i = true) ∧ Hid ((Below w.heap.size w wr ∧ Box wr w.heap.size 37 #[.int .i64 p.sec, .slice wa p.nw wc, .slice ya p.ny yc, .slice ba p.nb bc, .int .i64 p.hold] ∧ Box wr (w.heap.size + 1) 112 #[.slice sa y.ns sc, .slice (some ⟨lb, lo, none⟩) y.nl lc, .slice (some ⟨fb, fo, none⟩) y.nf fc, .slice oa y.no oc, .slice ma y.nm mc]) ∧ Box wr t5 192 #[.int .u64 ((secA y.S y.ns p.sec : Nat) : Int), .int .u64 ((secB y.S y.ns p.sec : Nat) : Int)])) (fun i _ => y.nl - (intOf i).toNat)
  case atStart => exact ⟨0, Nat.zero_le _, rfl, fun i hi => absurd hi (Nat.not_lt_zero _), B5⟩
  case round =>
    obtain ⟨q, hq, rfl, HQ, HB⟩ := hrel
    by_cases hlt : q < y.nl
    · obtain ⟨o, ho, hon⟩ := HT.out q hlt
      obtain ⟨b2, off2, hbe, _, _, hc⟩ := (H.out.2.l.mono (Nat.le_refl _) HB.out.1.1 (Nat.le_refl _)) (by omega)
      simp only [Option.some.injEq, Addr.mk.injEq, and_true] at hbe
      obtain ⟨rfl, rfl⟩ := hbe
      have c0 : wr.cell? ⟨lb, lo + q * 2, none⟩ = some (.int .i64 (o : Int)) := by rw [← ho]; exact hc q hlt 0 (by omega)
      have c1 : wr.cell? ⟨lb, lo + q * 2 + 1, none⟩ = some (.int .i64 (y.L q 1)) := hc q hlt 1 (by omega)
      obtain ⟨bw, offw, hwa, _, _, hcw⟩ := (H.out.1.mono (Nat.le_refl _) HB.out.1.1 (Nat.le_refl _)) (by omega)
      have c4 : wr.cell? ⟨bw, offw + o, none⟩ = some (.int .i64 (p.W o)) := by have := hcw o hon 0 (by omega); rwa [Nat.mul_one] at this
      have zb : bw < wr.heap.size := World.block_lt_of_cell? wr _ c4
      clear hc hcw
      subst hwa
      have x1 : wr.cell? ⟨w.heap.size, 1, none⟩ = some (.slice (some ⟨bw, offw, none⟩) p.nw wc) := HB.out.1.2.1.cell 1
      have a0 : wr.cell? ⟨t5, 0, none⟩ = some (.int .u64 ((secA y.S y.ns p.sec : Nat) : Int)) := HB.out.2.cell 0
      have a1 : wr.cell? ⟨t5, 1, none⟩ = some (.int .u64 ((secB y.S y.ns p.sec : Nat) : Int)) := HB.out.2.cell 1
      have zp : w.heap.size < wr.heap.size := HB.out.1.2.1.lt
      have z5 : t5 < wr.heap.size := HB.out.2.lt
      have hq0 : (0 : Int) ≤ (q : Int) := by omega
      have hqn : (q : Int) < (y.nl : Int) := by omega
      have ho0 : (0 : Int) ≤ (o : Int) := by omega
      have hon' : (o : Int) < (p.nw : Int) := by omega
      have hto : (y.L q 0).toNat = o := by omega
      go_wp2_with fail
      go_region_with (go_at_call 129; refine (has61 (secA y.S y.ns p.sec) (secB y.S y.ns p.sec) (p.W o) _ (secA_lt _ _ _) (secB_lt _ _ _)).mono ?_; rintro e w6 ⟨he, hb6⟩; subst he)
      all_goals
        have BB : Below wr.heap.size wr (wr.alloc (.cells #[.int .i64 (o : Int), .int .i64 (y.L q 1)] 146)).drew := (bel1 _ _).drew
        have hb6' : Below wr.heap.size wr w6 := BB.trans (hb6.mono BB.size)
        have B6 : Hid ((Below w.heap.size w w6 ∧ Box w6 w.heap.size 37 #[.int .i64 p.sec, .slice (some ⟨bw, offw, none⟩) p.nw wc, .slice ya p.ny yc, .slice ba p.nb bc, .int .i64 p.hold] ∧ Box w6 (w.heap.size + 1) 112 #[.slice sa y.ns sc, .slice (some ⟨lb, lo, none⟩) y.nl lc, .slice (some ⟨fb, fo, none⟩) y.nf fc, .slice oa y.no oc, .slice ma y.nm mc]) ∧ Box w6 t5 192 #[.int .u64 ((secA y.S y.ns p.sec : Nat) : Int), .int .u64 ((secB y.S y.ns p.sec : Nat) : Int)]) := ⟨⟨HB.out.1.1.trans (hb6'.mono HB.out.1.1.size), HB.out.1.2.1.mono hb6' (Nat.le_refl _), HB.out.1.2.2.mono hb6' (Nat.le_refl _)⟩, HB.out.2.mono hb6' (Nat.le_refl _)⟩
        clear c0 c1 c4 x1 a0 a1 zp z5 hb6 hb6' BB HB
        cases f6 : mt (secA y.S y.ns p.sec) (secB y.S y.ns p.sec) (p.W o) with
        | false =>
          go_wp2_with fail
          go_ret
          refine ⟨?_, B6.out.1.1⟩
          have : inF p y q = false := by rw [inF, hto, f6]
          simp [wayI, allB_no hlt this]
        | true =>
          have HQ2 : Hid (∀ i, i < q + 1 → inF p y i = true) := fun i hi => by
            by_cases e : i = q
            · subst e
              rw [inF, hto, f6]
            · exact HQ.out i (by omega)
          go_wp2_with fail
          go_roundw
          case rel => exact ⟨q + 1, by omega, by go_num, HQ2, B6⟩
          case measure => simp [intOf]; omega
    · obtain rfl : q = y.nl := by omega
      go_wp2_with fail
      go_ret
      obtain ⟨g1, g2, g3, g4, g5⟩ := HF1.out
      have hz1 : 0 < y.ns := by omega
      exact ⟨by simp [wayI, g1, g2, g3, g4, g5, allB_iff.2 HQ.out, hz1], HB.out.1.1⟩

end Go.Proofs.YtkeilejbelblcaaGreatDoor
