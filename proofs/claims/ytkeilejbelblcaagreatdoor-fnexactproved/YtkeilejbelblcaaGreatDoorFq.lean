import Derived.Test.YtkeilejbelblcaaGreatDoorEq
namespace Go.Proofs.YtkeilejbelblcaaGreatDoor
open Go.RowKit

/-- how a way stands -/
structure Hl where
  st : Int
  gone : Int
  nb : Nat
  B : Nat → Bool
  shown : Bool
  timer : Int
/-- a list of how ways stand -/
def HsAt (C : Nat) (w : World) (a : Option Addr) (n : Nat) (Y : Nat → Hl) : Prop :=
  0 < n → ∃ b off, a = some ⟨b, off, none⟩ ∧ C ≤ b ∧ b < w.heap.size ∧ ∀ i, i < n → ∃ ra rc,
    w.cell? ⟨b, off + i * 5, none⟩ = some (.int .i64 (Y i).st) ∧ w.cell? ⟨b, off + i * 5 + 1, none⟩ = some (.int .i64 (Y i).gone) ∧
    w.cell? ⟨b, off + i * 5 + 2, none⟩ = some (.slice ra (Y i).nb rc) ∧ w.cell? ⟨b, off + i * 5 + 3, none⟩ = some (.bool (Y i).shown) ∧
    w.cell? ⟨b, off + i * 5 + 4, none⟩ = some (.int .i64 (Y i).timer) ∧ VsAt 1 C w ra (Y i).nb (boolF (Y i).B)
theorem HsAt.keep {C C' : Nat} {w w' : World} {a : Option Addr} {n : Nat} {Y : Nat → Hl} (h : HsAt C w a n Y) (hC : C' ≤ C) (hs : w.heap.size ≤ w'.heap.size) (hk : ∀ b, C ≤ b → b < w.heap.size → w'.heap[b]? = w.heap[b]?) : HsAt C' w' a n Y := by
  intro h0
  obtain ⟨b, off, ha, hge, hlt, hc⟩ := h h0
  refine ⟨b, off, ha, by omega, by omega, fun i hi => ?_⟩
  obtain ⟨ra, rc, h1, h2, h3, h4, h5, h6⟩ := hc i hi
  have e := fun o => World.cell?_of_block (w := w) (w' := w') (a := ⟨b, o, none⟩) (hk b hge hlt)
  exact ⟨ra, rc, (e _).trans h1, (e _).trans h2, (e _).trans h3, (e _).trans h4, (e _).trans h5, h6.keep hC hs hk⟩
theorem HsAt.mono {C C' : Nat} {w w' : World} {a : Option Addr} {n : Nat} {Y : Nat → Hl} {B : Nat} (h : HsAt C w a n Y) (hC : C' ≤ C) (hb : Below B w w') (hB : w.heap.size ≤ B) : HsAt C' w' a n Y :=
  h.keep hC hb.size fun b _ hlt => hb.block b (by omega)
/-- a frame, by its numbers -/
structure Fm where
  ok : Bool
  no : Nat
  O : Nat → Bool
  np : Nat
  P : Nat → Nat → Int
  nh : Nat
  Y : Nat → Hl
def Fm.small (f : Fm) : Prop := f.no ≤ 1048576 ∧ f.np ≤ 1048576 ∧ f.nh ≤ 1048576 ∧ ∀ i, i < f.nh → (f.Y i).nb ≤ 1048576
structure FmIn (C : Nat) (w : World) (f : Fm) (oa pa ha : Option Addr) : Prop where
  o : VsAt 1 C w oa f.no (boolF f.O)
  p : VsAt 2 C w pa f.np (intF f.P)
  h : HsAt C w ha f.nh f.Y
theorem FmIn.mono {C C' : Nat} {w w' : World} {f : Fm} {oa pa ha : Option Addr} {B : Nat} (h : FmIn C w f oa pa ha) (hC : C' ≤ C) (hb : Below B w w') (hB : w.heap.size ≤ B) : FmIn C' w' f oa pa ha := ⟨h.o.mono hC hb hB, h.p.mono hC hb hB, h.h.mono hC hb hB⟩

set_option maxHeartbeats 1000000 in
theorem eqPoint (a0 a1 : Int) (w : World) :
    Calls Tryz.prog 86 #[.agg #[.int .i64 a0, .int .i64 a1], .agg #[.int .i64 a0, .int .i64 a1]] w fun e w' => e = .returned (.bool true) ∧ Below w.heap.size w w' := by
  go_enter Tryz.func86, Tryz.ntmps86
  go_wp2
  go_ret
  exact ⟨rfl, bel2 _ _ _⟩

set_option maxHeartbeats 1000000 in
theorem eqPointS (a a' : Option Addr) (n cap cap' : Nat) (F : Nat → Nat → Int) (w : World) (hn : n ≤ 1048576) (hE : VsAt 2 0 w a n (intF F)) (hE' : VsAt 2 0 w a' n (intF F)) :
    Calls Tryz.prog 47 #[.slice a n cap, .slice a' n cap'] w fun e w' => e = .returned (.bool true) ∧ Below w.heap.size w w' := by
  go_enter Tryz.func47, Tryz.ntmps47
  go_wp2_with fail
  go_loopw [5] (fun i wr => ∃ (k : Nat), k ≤ n ∧ i = .int .i64 k ∧ Below w.heap.size w wr) (fun i _ => n - (intOf i).toNat)
  case atStart => exact ⟨0, Nat.zero_le _, rfl, Below.refl _ _⟩
  case round =>
    obtain ⟨k, hk, rfl, hbel⟩ := hrel
    by_cases hlt : k < n
    · obtain ⟨b, off, rfl, _, hb, hc⟩ := (hE.mono (Nat.le_refl _) hbel (Nat.le_refl _)) (by omega)
      obtain ⟨b', off', rfl, _, hb', hc'⟩ := (hE'.mono (Nat.le_refl _) hbel (Nat.le_refl _)) (by omega)
      have c0 : wr.cell? ⟨b, off + k * 2, none⟩ = some (.int .i64 (F k 0)) := hc k hlt 0 (by omega)
      have c1 : wr.cell? ⟨b, off + k * 2 + 1, none⟩ = some (.int .i64 (F k 1)) := hc k hlt 1 (by omega)
      have d0 : wr.cell? ⟨b', off' + k * 2, none⟩ = some (.int .i64 (F k 0)) := hc' k hlt 0 (by omega)
      have d1 : wr.cell? ⟨b', off' + k * 2 + 1, none⟩ = some (.int .i64 (F k 1)) := hc' k hlt 1 (by omega)
      have hlt' : (k : Int) < (n : Int) := by omega
      have hk0 : (0 : Int) ≤ (k : Int) := by omega
      clear hc hc'
      go_wp2_with fail
      go_region_with (go_at_call 86; refine (eqPoint (F k 0) (F k 1) _).mono ?_; rintro e w1 ⟨rfl, hb1⟩)
      all_goals
        go_wp2_with fail
        go_roundw
        case rel => exact ⟨k + 1, by omega, by go_num, hbel.drew.trans (hb1.mono hbel.drew.size)⟩
        case measure => simp [intOf]; omega
    · go_wp2
      go_ret
      exact ⟨rfl, hbel⟩

set_option maxRecDepth 100000 in
set_option maxHeartbeats 4000000 in
theorem eqHeld (y : Hl) (ra ra' : Option Addr) (rc rc' : Nat) (w : World) (hs : y.nb ≤ 1048576) (h : VsAt 1 0 w ra y.nb (boolF y.B)) (h' : VsAt 1 0 w ra' y.nb (boolF y.B)) :
    Calls Tryz.prog 87 #[.agg #[.int .i64 y.st, .int .i64 y.gone, .slice ra y.nb rc, .bool y.shown, .int .i64 y.timer], .agg #[.int .i64 y.st, .int .i64 y.gone, .slice ra' y.nb rc', .bool y.shown, .int .i64 y.timer]] w fun e w' => e = .returned (.bool true) ∧ Below w.heap.size w w' := by
  have H : Hid (VsAt 1 0 w ra y.nb (boolF y.B) ∧ VsAt 1 0 w ra' y.nb (boolF y.B)) := ⟨h, h'⟩
  clear h h'
  go_enter Tryz.func87, Tryz.ntmps87
  go_wp2_with fail
  have B0 := bel2 w (.cells #[.int .i64 y.st, .int .i64 y.gone, .slice ra y.nb rc, .bool y.shown, .int .i64 y.timer] 72) (.cells #[.int .i64 y.st, .int .i64 y.gone, .slice ra' y.nb rc', .bool y.shown, .int .i64 y.timer] 72)
  have A1 := (Box.new w 72 #[.int .i64 y.st, .int .i64 y.gone, .slice ra y.nb rc, .bool y.shown, .int .i64 y.timer]).alloc (.cells #[.int .i64 y.st, .int .i64 y.gone, .slice ra' y.nb rc', .bool y.shown, .int .i64 y.timer] 72)
  have A2 : Box ((w.alloc (.cells #[.int .i64 y.st, .int .i64 y.gone, .slice ra y.nb rc, .bool y.shown, .int .i64 y.timer] 72)).alloc (.cells #[.int .i64 y.st, .int .i64 y.gone, .slice ra' y.nb rc', .bool y.shown, .int .i64 y.timer] 72)) (w.heap.size + 1) 72 #[.int .i64 y.st, .int .i64 y.gone, .slice ra' y.nb rc', .bool y.shown, .int .i64 y.timer] := by have := Box.new (w.alloc (.cells #[.int .i64 y.st, .int .i64 y.gone, .slice ra y.nb rc, .bool y.shown, .int .i64 y.timer] 72)) 72 #[.int .i64 y.st, .int .i64 y.gone, .slice ra' y.nb rc', .bool y.shown, .int .i64 y.timer]; simpa using this
  refine (eqBoolS ra ra' y.nb rc rc' y.B _ hs (H.out.1.mono (Nat.le_refl _) B0 (Nat.le_refl _)) (H.out.2.mono (Nat.le_refl _) B0 (Nat.le_refl _))).mono ?_
  rintro e w1 ⟨rfl, hb1⟩
  have S1 : Hid (Below w.heap.size w w1 ∧ Box w1 w.heap.size 72 #[.int .i64 y.st, .int .i64 y.gone, .slice ra y.nb rc, .bool y.shown, .int .i64 y.timer] ∧ Box w1 (w.heap.size + 1) 72 #[.int .i64 y.st, .int .i64 y.gone, .slice ra' y.nb rc', .bool y.shown, .int .i64 y.timer]) := ⟨B0.trans (hb1.mono B0.size), A1.mono hb1 (Nat.le_refl _), A2.mono hb1 (Nat.le_refl _)⟩
  clear B0 A1 A2 hb1
  have a0 : w1.cell? ⟨w.heap.size, 0, none⟩ = some (.int .i64 y.st) := S1.out.2.1.cell 0
  have a1 : w1.cell? ⟨w.heap.size, 1, none⟩ = some (.int .i64 y.gone) := S1.out.2.1.cell 1
  have a2 : w1.cell? ⟨w.heap.size, 2, none⟩ = some (.slice ra y.nb rc) := S1.out.2.1.cell 2
  have a3 : w1.cell? ⟨w.heap.size, 3, none⟩ = some (.bool y.shown) := S1.out.2.1.cell 3
  have a4 : w1.cell? ⟨w.heap.size, 4, none⟩ = some (.int .i64 y.timer) := S1.out.2.1.cell 4
  have b0 : w1.cell? ⟨w.heap.size + 1, 0, none⟩ = some (.int .i64 y.st) := S1.out.2.2.cell 0
  have b1 : w1.cell? ⟨w.heap.size + 1, 1, none⟩ = some (.int .i64 y.gone) := S1.out.2.2.cell 1
  have b2 : w1.cell? ⟨w.heap.size + 1, 2, none⟩ = some (.slice ra' y.nb rc') := S1.out.2.2.cell 2
  have b3 : w1.cell? ⟨w.heap.size + 1, 3, none⟩ = some (.bool y.shown) := S1.out.2.2.cell 3
  have b4 : w1.cell? ⟨w.heap.size + 1, 4, none⟩ = some (.int .i64 y.timer) := S1.out.2.2.cell 4
  go_wp2_with fail
  go_ret
  exact ⟨rfl, S1.out.1⟩

set_option maxRecDepth 100000 in
set_option maxHeartbeats 4000000 in
theorem eqHeldS (a a' : Option Addr) (n cap cap' : Nat) (Y : Nat → Hl) (w : World) (hn : n ≤ 1048576) (hL : ∀ i, i < n → (Y i).nb ≤ 1048576) (hR : HsAt 0 w a n Y) (hR' : HsAt 0 w a' n Y) :
    Calls Tryz.prog 48 #[.slice a n cap, .slice a' n cap'] w fun e w' => e = .returned (.bool true) ∧ Below w.heap.size w w' := by
  have HL : Hid (∀ i, i < n → (Y i).nb ≤ 1048576) := hL
  clear hL
  go_enter Tryz.func48, Tryz.ntmps48
  go_wp2_with fail
  go_loopw [5] (fun i wr => ∃ (k : Nat), k ≤ n ∧ i = .int .i64 k ∧ Below w.heap.size w wr) (fun i _ => n - (intOf i).toNat)
  case atStart => exact ⟨0, Nat.zero_le _, rfl, Below.refl _ _⟩
  case round =>
    obtain ⟨k, hk, rfl, hbel⟩ := hrel
    by_cases hlt : k < n
    · obtain ⟨b, off, rfl, _, hb, hc⟩ := (hR.mono (Nat.le_refl _) hbel.drew (Nat.le_refl _)) (by omega)
      obtain ⟨b', off', rfl, _, hb', hc'⟩ := (hR'.mono (Nat.le_refl _) hbel.drew (Nat.le_refl _)) (by omega)
      obtain ⟨ra, rc, c0, c1, c2, c3, c4, g⟩ := hc k hlt
      obtain ⟨ra', rc', d0, d1, d2, d3, d4, g'⟩ := hc' k hlt
      have hlt' : (k : Int) < (n : Int) := by omega
      have hk0 : (0 : Int) ≤ (k : Int) := by omega
      have G : Hid (VsAt 1 0 wr.drew ra (Y k).nb (boolF (Y k).B)) := g
      have G' : Hid (VsAt 1 0 wr.drew ra' (Y k).nb (boolF (Y k).B)) := g'
      have c00 : wr.cell? _ = _ := c0
      have d00 : wr.cell? _ = _ := d0
      have c10 : wr.cell? _ = _ := c1
      have d10 : wr.cell? _ = _ := d1
      have c20 : wr.cell? _ = _ := c2
      have d20 : wr.cell? _ = _ := d2
      have c30 : wr.cell? _ = _ := c3
      have d30 : wr.cell? _ = _ := d3
      have c40 : wr.cell? _ = _ := c4
      have d40 : wr.cell? _ = _ := d4
      clear hc hc' g g' c0 c1 c2 c3 c4 d0 d1 d2 d3 d4
      go_wp2_with fail
      go_region_with (go_at_call 87; refine (eqHeld (Y k) ra ra' rc rc' _ (HL.out k hlt) G.out G'.out).mono ?_; rintro e w1 ⟨rfl, hb1⟩)
      all_goals
        go_wp2_with fail
        go_roundw
        case rel => exact ⟨k + 1, by omega, by go_num, hbel.drew.trans (hb1.mono hbel.drew.size)⟩
        case measure => simp [intOf]; omega
    · go_wp2
      go_ret
      exact ⟨rfl, hbel⟩

set_option maxRecDepth 100000 in
set_option maxHeartbeats 4000000 in
theorem eqFrame (f : Fm) (oa pa ha oa' pa' ha' : Option Addr) (oc pc hc oc' pc' hc' : Nat) (w : World) (hs : f.small) (h : FmIn 0 w f oa pa ha) (h' : FmIn 0 w f oa' pa' ha') :
    Calls Tryz.prog 13 #[.agg #[.bool f.ok, .slice oa f.no oc, .slice pa f.np pc, .slice ha f.nh hc], .agg #[.bool f.ok, .slice oa' f.no oc', .slice pa' f.np pc', .slice ha' f.nh hc']] w fun e w' => e = .returned (.bool true) ∧ Below w.heap.size w w' := by
  obtain ⟨s1, s2, s3, s4⟩ := hs
  have HS : Hid (∀ i, i < f.nh → (f.Y i).nb ≤ 1048576) := s4
  have H : Hid (FmIn 0 w f oa pa ha ∧ FmIn 0 w f oa' pa' ha') := ⟨h, h'⟩
  clear h h' s4
  go_enter Tryz.func13, Tryz.ntmps13
  go_wp2_with fail
  have B0 := bel2 w (.cells #[.bool f.ok, .slice oa f.no oc, .slice pa f.np pc, .slice ha f.nh hc] 42) (.cells #[.bool f.ok, .slice oa' f.no oc', .slice pa' f.np pc', .slice ha' f.nh hc'] 42)
  have A1 := (Box.new w 42 #[.bool f.ok, .slice oa f.no oc, .slice pa f.np pc, .slice ha f.nh hc]).alloc (.cells #[.bool f.ok, .slice oa' f.no oc', .slice pa' f.np pc', .slice ha' f.nh hc'] 42)
  have A2 : Box ((w.alloc (.cells #[.bool f.ok, .slice oa f.no oc, .slice pa f.np pc, .slice ha f.nh hc] 42)).alloc (.cells #[.bool f.ok, .slice oa' f.no oc', .slice pa' f.np pc', .slice ha' f.nh hc'] 42)) (w.heap.size + 1) 42 #[.bool f.ok, .slice oa' f.no oc', .slice pa' f.np pc', .slice ha' f.nh hc'] := by have := Box.new (w.alloc (.cells #[.bool f.ok, .slice oa f.no oc, .slice pa f.np pc, .slice ha f.nh hc] 42)) 42 #[.bool f.ok, .slice oa' f.no oc', .slice pa' f.np pc', .slice ha' f.nh hc']; simpa using this
  have S0 : Hid (Below w.heap.size w ((w.alloc (.cells #[.bool f.ok, .slice oa f.no oc, .slice pa f.np pc, .slice ha f.nh hc] 42)).alloc (.cells #[.bool f.ok, .slice oa' f.no oc', .slice pa' f.np pc', .slice ha' f.nh hc'] 42)) ∧ Box ((w.alloc (.cells #[.bool f.ok, .slice oa f.no oc, .slice pa f.np pc, .slice ha f.nh hc] 42)).alloc (.cells #[.bool f.ok, .slice oa' f.no oc', .slice pa' f.np pc', .slice ha' f.nh hc'] 42)) w.heap.size 42 #[.bool f.ok, .slice oa f.no oc, .slice pa f.np pc, .slice ha f.nh hc] ∧ Box ((w.alloc (.cells #[.bool f.ok, .slice oa f.no oc, .slice pa f.np pc, .slice ha f.nh hc] 42)).alloc (.cells #[.bool f.ok, .slice oa' f.no oc', .slice pa' f.np pc', .slice ha' f.nh hc'] 42)) (w.heap.size + 1) 42 #[.bool f.ok, .slice oa' f.no oc', .slice pa' f.np pc', .slice ha' f.nh hc']) := ⟨B0, A1, A2⟩
  clear B0 A1 A2
  refine (eqBoolS oa oa' f.no oc oc' f.O _ s1 (H.out.1.o.mono (Nat.le_refl _) S0.out.1 (Nat.le_refl _)) (H.out.2.o.mono (Nat.le_refl _) S0.out.1 (Nat.le_refl _))).mono ?_
  rintro e w1 ⟨rfl, hb1⟩
  have S1 : Hid (Below w.heap.size w w1 ∧ Box w1 w.heap.size 42 #[.bool f.ok, .slice oa f.no oc, .slice pa f.np pc, .slice ha f.nh hc] ∧ Box w1 (w.heap.size + 1) 42 #[.bool f.ok, .slice oa' f.no oc', .slice pa' f.np pc', .slice ha' f.nh hc']) := ⟨S0.out.1.trans (hb1.mono S0.out.1.size), S0.out.2.1.mono hb1 (Nat.le_refl _), S0.out.2.2.mono hb1 (Nat.le_refl _)⟩
  clear S0 hb1
  have a0 : w1.cell? ⟨w.heap.size, 0, none⟩ = some (.bool f.ok) := S1.out.2.1.cell 0
  have a1 : w1.cell? ⟨w.heap.size, 1, none⟩ = some (.slice oa f.no oc) := S1.out.2.1.cell 1
  have a2 : w1.cell? ⟨w.heap.size, 2, none⟩ = some (.slice pa f.np pc) := S1.out.2.1.cell 2
  have a3 : w1.cell? ⟨w.heap.size, 3, none⟩ = some (.slice ha f.nh hc) := S1.out.2.1.cell 3
  have b0 : w1.cell? ⟨w.heap.size + 1, 0, none⟩ = some (.bool f.ok) := S1.out.2.2.cell 0
  have b1 : w1.cell? ⟨w.heap.size + 1, 1, none⟩ = some (.slice oa' f.no oc') := S1.out.2.2.cell 1
  have b2 : w1.cell? ⟨w.heap.size + 1, 2, none⟩ = some (.slice pa' f.np pc') := S1.out.2.2.cell 2
  have b3 : w1.cell? ⟨w.heap.size + 1, 3, none⟩ = some (.slice ha' f.nh hc') := S1.out.2.2.cell 3
  go_wp2_with fail
  clear a0 a1 a2 a3 b0 b1 b2 b3
  refine (eqPointS pa pa' f.np pc pc' f.P _ s2 (H.out.1.p.mono (Nat.le_refl _) S1.out.1 (Nat.le_refl _)) (H.out.2.p.mono (Nat.le_refl _) S1.out.1 (Nat.le_refl _))).mono ?_
  rintro e w2 ⟨rfl, hb2⟩
  have S2 : Hid (Below w.heap.size w w2 ∧ Box w2 w.heap.size 42 #[.bool f.ok, .slice oa f.no oc, .slice pa f.np pc, .slice ha f.nh hc] ∧ Box w2 (w.heap.size + 1) 42 #[.bool f.ok, .slice oa' f.no oc', .slice pa' f.np pc', .slice ha' f.nh hc']) := ⟨S1.out.1.trans (hb2.mono S1.out.1.size), S1.out.2.1.mono hb2 (Nat.le_refl _), S1.out.2.2.mono hb2 (Nat.le_refl _)⟩
  clear S1 hb2
  have a0 : w2.cell? ⟨w.heap.size, 0, none⟩ = some (.bool f.ok) := S2.out.2.1.cell 0
  have a1 : w2.cell? ⟨w.heap.size, 1, none⟩ = some (.slice oa f.no oc) := S2.out.2.1.cell 1
  have a2 : w2.cell? ⟨w.heap.size, 2, none⟩ = some (.slice pa f.np pc) := S2.out.2.1.cell 2
  have a3 : w2.cell? ⟨w.heap.size, 3, none⟩ = some (.slice ha f.nh hc) := S2.out.2.1.cell 3
  have b0 : w2.cell? ⟨w.heap.size + 1, 0, none⟩ = some (.bool f.ok) := S2.out.2.2.cell 0
  have b1 : w2.cell? ⟨w.heap.size + 1, 1, none⟩ = some (.slice oa' f.no oc') := S2.out.2.2.cell 1
  have b2 : w2.cell? ⟨w.heap.size + 1, 2, none⟩ = some (.slice pa' f.np pc') := S2.out.2.2.cell 2
  have b3 : w2.cell? ⟨w.heap.size + 1, 3, none⟩ = some (.slice ha' f.nh hc') := S2.out.2.2.cell 3
  go_wp2_with fail
  clear a0 a1 a2 a3 b0 b1 b2 b3
  refine (eqHeldS ha ha' f.nh hc hc' f.Y _ s3 HS.out (H.out.1.h.mono (Nat.le_refl _) S2.out.1 (Nat.le_refl _)) (H.out.2.h.mono (Nat.le_refl _) S2.out.1 (Nat.le_refl _))).mono ?_
  rintro e w3 ⟨rfl, hb3⟩
  have S3 : Hid (Below w.heap.size w w3 ∧ Box w3 w.heap.size 42 #[.bool f.ok, .slice oa f.no oc, .slice pa f.np pc, .slice ha f.nh hc] ∧ Box w3 (w.heap.size + 1) 42 #[.bool f.ok, .slice oa' f.no oc', .slice pa' f.np pc', .slice ha' f.nh hc']) := ⟨S2.out.1.trans (hb3.mono S2.out.1.size), S2.out.2.1.mono hb3 (Nat.le_refl _), S2.out.2.2.mono hb3 (Nat.le_refl _)⟩
  clear S2 hb3
  have a0 : w3.cell? ⟨w.heap.size, 0, none⟩ = some (.bool f.ok) := S3.out.2.1.cell 0
  have a1 : w3.cell? ⟨w.heap.size, 1, none⟩ = some (.slice oa f.no oc) := S3.out.2.1.cell 1
  have a2 : w3.cell? ⟨w.heap.size, 2, none⟩ = some (.slice pa f.np pc) := S3.out.2.1.cell 2
  have a3 : w3.cell? ⟨w.heap.size, 3, none⟩ = some (.slice ha f.nh hc) := S3.out.2.1.cell 3
  have b0 : w3.cell? ⟨w.heap.size + 1, 0, none⟩ = some (.bool f.ok) := S3.out.2.2.cell 0
  have b1 : w3.cell? ⟨w.heap.size + 1, 1, none⟩ = some (.slice oa' f.no oc') := S3.out.2.2.cell 1
  have b2 : w3.cell? ⟨w.heap.size + 1, 2, none⟩ = some (.slice pa' f.np pc') := S3.out.2.2.cell 2
  have b3 : w3.cell? ⟨w.heap.size + 1, 3, none⟩ = some (.slice ha' f.nh hc') := S3.out.2.2.cell 3
  go_wp2_with fail
  go_ret
  exact ⟨rfl, S3.out.1⟩

end Go.Proofs.YtkeilejbelblcaaGreatDoor
