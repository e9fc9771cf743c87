import Derived.Test.YtooebighlohobaaBs
import Derived.Test.YtooebighlohobaaBq
import Derived.Deep.RegionHeld3
namespace Go.Proofs.Ytooebighlohobaa
open Go.RowKit

/-- below that block -/
def FmLt (C : Nat) (f : Fm) (ov pv hv : Value) (r : Nat → Nat) : Prop := (∀ g, ov.ownBlock = some g → g < C) ∧ (∀ g, pv.ownBlock = some g → g < C) ∧ (∀ g, hv.ownBlock = some g → g < C) ∧ ∀ i, i < f.nh → r i < C
theorem FmOwn.bound {B C : Nat} {w : World} {f : Fm} {ov pv hv : Value} {r : Nat → Nat} (h : FmOwn B w f ov pv hv r) (hC : w.heap.size ≤ C) : FmLt C f ov pv hv r :=
  ⟨fun _g e => Nat.lt_of_lt_of_le (h.o.lt e).2 hC, fun _g e => Nat.lt_of_lt_of_le (h.p.lt e).2 hC, fun _g e => Nat.lt_of_lt_of_le (h.h.own.lt e).2 hC, fun i hi => Nat.lt_of_lt_of_le ((h.h.row i hi).1.lt (g := r i) rfl).2 hC⟩
theorem FmOwn.low {B : Nat} {w : World} {f : Fm} {ov pv hv : Value} {r : Nat → Nat} (h : FmOwn B w f ov pv hv r) : FmOwn 0 w f ov pv hv r :=
  ⟨h.o.keep (Nat.zero_le _) fun _ _ => rfl, h.p.keep (Nat.zero_le _) fun _ _ => rfl, ⟨h.h.own.keep (Nat.zero_le _) fun _ _ => rfl, fun i hi => ⟨(h.h.row i hi).1, Nat.zero_le _⟩, h.h.inj⟩, h.ne⟩
theorem FmOwn.fr {B : Nat} {w w' : World} {f : Fm} {ov pv hv : Value} {r : Nat → Nat} {X : Nat → Prop} (h : FmOwn B w f ov pv hv r) (hf : Fr X w w') (h1 : ∀ g, ov.ownBlock = some g → ¬ X g) (h2 : ∀ g, pv.ownBlock = some g → ¬ X g) (h3 : ∀ g, hv.ownBlock = some g → ¬ X g) (h4 : ∀ i, i < f.nh → ¬ X (r i)) : FmOwn B w' f ov pv hv r :=
  ⟨h.o.fr hf h1, h.p.fr hf h2, ⟨h.h.own.fr hf h3, fun i hi => ⟨(h.h.row i hi).1.fr hf fun g e => by have e := own_block e; subst e; exact h4 i hi, (h.h.row i hi).2⟩, h.h.inj⟩, h.ne⟩
theorem FmOwn.fr_lt {B C : Nat} {w w' : World} {f : Fm} {ov pv hv : Value} {r : Nat → Nat} {X : Nat → Prop} (h : FmOwn B w f ov pv hv r) (hL : FmLt C f ov pv hv r) (hf : Fr X w w') (hX : ∀ b, X b → C ≤ b) : FmOwn B w' f ov pv hv r :=
  h.fr hf (fun g e x => by have := hL.1 g e; have := hX g x; omega) (fun g e x => by have := hL.2.1 g e; have := hX g x; omega) (fun g e x => by have := hL.2.2.1 g e; have := hX g x; omega) (fun i hi x => by have := hL.2.2.2 i hi; have := hX _ x; omega)
theorem FmOwn.fr_ge {B : Nat} {w w' : World} {f : Fm} {ov pv hv : Value} {r : Nat → Nat} {X : Nat → Prop} (h : FmOwn B w f ov pv hv r) (hf : Fr X w w') (hX : ∀ b, X b → b < B) : FmOwn B w' f ov pv hv r :=
  h.fr hf (fun g e x => by have := (h.o.lt e).1; have := hX g x; omega) (fun g e x => by have := (h.p.lt e).1; have := hX g x; omega) (fun g e x => by have := (h.h.own.lt e).1; have := hX g x; omega) (fun i hi x => by have := (h.h.row i hi).2; have := hX _ x; omega)
/-- what lies there behind both calls -/
def LwM (p : Pl) (f : Fm) (w : World) (wa ya ba : Option Addr) (wc yc bc : Nat) (oa0 pa0 ha0 : Option Addr) (oc0 pc0 hc0 : Nat) (r0 : Nat → Nat) (wb5 yb5 bb5 : Nat) (rr5 : Nat → Nat) (oa6 pa6 ha6 : Option Addr) (oc6 pc6 hc6 : Nat) (r6 : Nat → Nat) (q4 C E gq : Nat) (W : World) : Prop :=
  Below w.heap.size w W ∧ Box W w.heap.size 26 #[.int .i64 p.sec, .slice wa p.nw wc, .slice ya p.ny yc, .slice ba p.nb bc, .int .i64 p.hold] ∧ FmOwn 0 W f (.slice oa0 f.no oc0) (.slice pa0 f.np pc0) (.slice ha0 f.nh hc0) r0 ∧ FmLt C f (.slice oa0 f.no oc0) (.slice pa0 f.np pc0) (.slice ha0 f.nh hc0) r0 ∧ Box W q4 42 #[.bool f.ok, .slice oa0 f.no oc0, .slice pa0 f.np pc0, .slice ha0 f.nh hc0] ∧ Box W E 33 #[.int .i64 p.sec, .slice (some ⟨wb5, 0, none⟩) p.nw p.nw, .slice (some ⟨yb5, 0, none⟩) p.ny p.ny, .slice (some ⟨bb5, 0, none⟩) p.nb p.nb, .int .i64 p.hold] ∧ PlIn 0 W p (some ⟨wb5, 0, none⟩) (some ⟨yb5, 0, none⟩) (some ⟨bb5, 0, none⟩) ∧ PlW C E W p wb5 yb5 bb5 rr5 ∧ Box W gq 42 #[.bool f.ok, .slice oa6 f.no oc6, .slice pa6 f.np pc6, .slice ha6 f.nh hc6] ∧ FmOwn (E + 1) W f (.slice oa6 f.no oc6) (.slice pa6 f.np pc6) (.slice ha6 f.nh hc6) r6 ∧ q4 < C ∧ w.heap.size < C ∧ C ≤ E ∧ E < gq
theorem LwM.mono {p : Pl} {f : Fm} {w : World} {wa ya ba : Option Addr} {wc yc bc : Nat} {oa0 pa0 ha0 : Option Addr} {oc0 pc0 hc0 : Nat} {r0 : Nat → Nat} {wb5 yb5 bb5 : Nat} {rr5 : Nat → Nat} {oa6 pa6 ha6 : Option Addr} {oc6 pc6 hc6 : Nat} {r6 : Nat → Nat} {q4 C E gq : Nat} {W W' : World} (h : LwM p f w wa ya ba wc yc bc oa0 pa0 ha0 oc0 pc0 hc0 r0 wb5 yb5 bb5 rr5 oa6 pa6 ha6 oc6 pc6 hc6 r6 q4 C E gq W) (hb : Below W.heap.size W W') : LwM p f w wa ya ba wc yc bc oa0 pa0 ha0 oc0 pc0 hc0 r0 wb5 yb5 bb5 rr5 oa6 pa6 ha6 oc6 pc6 hc6 r6 q4 C E gq W' := by
  obtain ⟨k1, k2, k3, k0, k4, k5, k6, k7, k8, k9, k10⟩ := h
  have hl := Nat.le_refl W.heap.size
  exact ⟨k1.trans (hb.mono k1.size), k2.mono hb hl, k3.mono (Nat.le_refl _) hb hl, k0, k4.mono hb hl, k5.mono hb hl, k6.mono (Nat.le_refl _) hb hl, k7.mk' (Mk.of_below hb), k8.mono hb hl, k9.mono (Nat.le_refl _) hb hl, k10⟩

theorem begF_small {p : Pl} (h : p.small) : (begF p).small := by
  unfold begF
  split
  · rename_i h0
    obtain ⟨_, g1, g2, g3, g4⟩ := planF_zero h0
    refine ⟨by show p.sec.toNat ≤ _; omega, by show p.nw ≤ _; omega, by show p.ny ≤ _; omega, fun i hi => ?_⟩
    have := (h.2.2.1 i hi).1
    show (p.Y i).ns ≤ 1048576
    omega
  · exact ⟨Nat.zero_le _, Nat.zero_le _, Nat.zero_le _, fun i hi => absurd hi (Nat.not_lt_zero _)⟩

set_option maxRecDepth 100000 in
set_option maxHeartbeats 16000000 in
theorem law4 (p : Pl) (wa ya ba : Option Addr) (wc yc bc : Nat) (w : World) (hf : p.fits) (hP : PlIn 0 w p wa ya ba) :
    Calls Try.prog 4 #[.agg #[.int .i64 p.sec, .slice wa p.nw wc, .slice ya p.ny yc, .slice ba p.nb bc, .int .i64 p.hold]] w fun e w' => e = .returned (.bool true) ∧ Below w.heap.size w w' := by
  have HP : Hid (PlIn 0 w p wa ya ba) := hP
  clear hP
  go_enter Try.func4, Try.ntmps4
  go_wp2_with fail
  have B0 := bel1 w (.cells #[.int .i64 p.sec, .slice wa p.nw wc, .slice ya p.ny yc, .slice ba p.nb bc, .int .i64 p.hold] 26)
  have A0 := Box.new w 26 #[.int .i64 p.sec, .slice wa p.nw wc, .slice ya p.ny yc, .slice ba p.nb bc, .int .i64 p.hold]
  refine (szPlan p wa ya ba wc yc bc 1048576 _ hf (by omega) (by omega) (HP.out.mono (Nat.le_refl _) B0 (Nat.le_refl _))).mono ?_
  rintro e w1 ⟨l, rfl, hr1, hr2, hb1⟩
  have S1 : Hid (Below w.heap.size w w1 ∧ Box w1 w.heap.size 26 #[.int .i64 p.sec, .slice wa p.nw wc, .slice ya p.ny yc, .slice ba p.nb bc, .int .i64 p.hold]) := ⟨B0.trans (hb1.mono B0.size), A0.mono hb1 (Nat.le_refl _)⟩
  clear hb1 B0 A0
  by_cases hneg : l < 0
  · clear hr2
    go_wp2_with fail
    go_ret
    exact ⟨rfl, S1.out.1⟩
  have HS : Hid p.small := hr2 (by omega)
  clear hr2 hf
  obtain ⟨f, HFS, H12, H13⟩ : ∃ f : Fm, Hid f.small ∧ Hid (∀ (W : World) (wa ya ba : Option Addr) (wc yc bc : Nat), PlIn 0 W p wa ya ba → Calls Try.prog 12 #[.agg #[.int .i64 p.sec, .slice wa p.nw wc, .slice ya p.ny yc, .slice ba p.nb bc, .int .i64 p.hold]] W fun e w' => FmR W f e w') ∧ Hid (∀ (W : World) (wb yb bb : Nat) (lo rr : Nat → Nat), PlOwn 0 W p wb yb bb lo rr → Calls Try.prog 13 #[.agg #[.int .i64 p.sec, .slice (some ⟨wb, 0, none⟩) p.nw p.nw, .slice (some ⟨yb, 0, none⟩) p.ny p.ny, .slice (some ⟨bb, 0, none⟩) p.nb p.nb, .int .i64 p.hold]] W fun e w' => FmR W f e w') := ⟨begF p, begF_small HS.out, fun W wa ya ba wc yc bc h => begin12 p wa ya ba wc yc bc W HS.out h, fun W wb yb bb lo rr h => begin13 p wb yb bb lo rr W HS.out h⟩
  have a0 : w1.cell? ⟨w.heap.size, 0, none⟩ = some (.int .i64 p.sec) := S1.out.2.cell 0
  have a1 : w1.cell? ⟨w.heap.size, 1, none⟩ = some (.slice wa p.nw wc) := S1.out.2.cell 1
  have a2 : w1.cell? ⟨w.heap.size, 2, none⟩ = some (.slice ya p.ny yc) := S1.out.2.cell 2
  have a3 : w1.cell? ⟨w.heap.size, 3, none⟩ = some (.slice ba p.nb bc) := S1.out.2.cell 3
  have a4 : w1.cell? ⟨w.heap.size, 4, none⟩ = some (.int .i64 p.hold) := S1.out.2.cell 4
  go_wp2_with fail
  clear a0 a1 a2 a3 a4
  refine (toPlan p wa ya ba wc yc bc _ HS.out (HP.out.mono (Nat.le_refl _) S1.out.1 (Nat.le_refl _))).mono ?_
  rintro e w2 ⟨wb, yb, bb, lo, rr, rfl, ho2, hb2⟩
  have S2 : Hid (Below w.heap.size w w2 ∧ Box w2 w.heap.size 26 #[.int .i64 p.sec, .slice wa p.nw wc, .slice ya p.ny yc, .slice ba p.nb bc, .int .i64 p.hold]) := ⟨S1.out.1.trans (hb2.mono S1.out.1.size), S1.out.2.mono hb2 (Nat.le_refl _)⟩
  have HO2 : Hid (PlIn 0 w2 p (some ⟨wb, 0, none⟩) (some ⟨yb, 0, none⟩) (some ⟨bb, 0, none⟩)) := ho2.in (Nat.zero_le _)
  clear ho2 hb2 S1
  go_wp2_with fail
  refine (H12.out _ _ _ _ _ _ _ HO2.out).mono ?_
  rintro e w3 ⟨oa0, pa0, ha0, oc0, pc0, hc0, r0, rfl, hfm, hb3⟩
  have S3 : Hid (Below w.heap.size w w3 ∧ Box w3 w.heap.size 26 #[.int .i64 p.sec, .slice wa p.nw wc, .slice ya p.ny yc, .slice ba p.nb bc, .int .i64 p.hold] ∧ FmOwn 0 w3 f (.slice oa0 f.no oc0) (.slice pa0 f.np pc0) (.slice ha0 f.nh hc0) r0) := ⟨S2.out.1.trans (hb3.mono S2.out.1.size), S2.out.2.mono hb3 (Nat.le_refl _), hfm.low⟩
  clear hfm hb3 S2 HO2 H12
  have z3 : w.heap.size < w3.heap.size := S3.out.2.1.lt
  have y0 : w3.cell? ⟨w.heap.size, 0, none⟩ = some (.int .i64 p.sec) := S3.out.2.1.cell 0
  have y1 : w3.cell? ⟨w.heap.size, 1, none⟩ = some (.slice wa p.nw wc) := S3.out.2.1.cell 1
  have y2 : w3.cell? ⟨w.heap.size, 2, none⟩ = some (.slice ya p.ny yc) := S3.out.2.1.cell 2
  have y3 : w3.cell? ⟨w.heap.size, 3, none⟩ = some (.slice ba p.nb bc) := S3.out.2.1.cell 3
  have y4 : w3.cell? ⟨w.heap.size, 4, none⟩ = some (.int .i64 p.hold) := S3.out.2.1.cell 4
  have X3 : Hid (∃ (W : World) (q4 C : Nat), W = w3.alloc (.cells #[.bool f.ok, .slice oa0 f.no oc0, .slice pa0 f.np pc0, .slice ha0 f.nh hc0] 42) ∧ q4 = w3.heap.size ∧ C = W.heap.size ∧ Below w.heap.size w W ∧ Box W w.heap.size 26 #[.int .i64 p.sec, .slice wa p.nw wc, .slice ya p.ny yc, .slice ba p.nb bc, .int .i64 p.hold] ∧ FmOwn 0 W f (.slice oa0 f.no oc0) (.slice pa0 f.np pc0) (.slice ha0 f.nh hc0) r0 ∧ FmLt C f (.slice oa0 f.no oc0) (.slice pa0 f.np pc0) (.slice ha0 f.nh hc0) r0 ∧ Box W q4 42 #[.bool f.ok, .slice oa0 f.no oc0, .slice pa0 f.np pc0, .slice ha0 f.nh hc0] ∧ q4 < C ∧ w.heap.size < C) := ⟨_, _, _, rfl, rfl, rfl, S3.out.1.alloc S3.out.1.size _, S3.out.2.1.alloc _, S3.out.2.2.mono (Nat.le_refl _) (bel1 _ _) (Nat.le_refl _), S3.out.2.2.bound (by simp), Box.new w3 42 _, by simp, by simp; omega⟩
  have yy : ∀ j v, w3.cell? ⟨w.heap.size, j, none⟩ = some v → (w3.alloc (.cells #[.bool f.ok, .slice oa0 f.no oc0, .slice pa0 f.np pc0, .slice ha0 f.nh hc0] 42)).cell? ⟨w.heap.size, j, none⟩ = some v := fun j v hv => cell_keep (bel1 _ _) z3 hv
  have u0 := yy 0 _ y0
  have u1 := yy 1 _ y1
  have u2 := yy 2 _ y2
  have u3 := yy 3 _ y3
  have u4 := yy 4 _ y4
  clear yy y0 y1 y2 y3 y4
  go_wp2_with fail
  clear u0 u1 u2 u3 u4 z3 S3
  obtain ⟨W3, q4, C, hW3, hq4, hC, k1, k2, k3, k0, k4, k5, k6⟩ := X3.out
  rw [← hW3, ← hq4]
  have S4 : Hid (Below w.heap.size w W3 ∧ Box W3 w.heap.size 26 #[.int .i64 p.sec, .slice wa p.nw wc, .slice ya p.ny yc, .slice ba p.nb bc, .int .i64 p.hold] ∧ FmOwn 0 W3 f (.slice oa0 f.no oc0) (.slice pa0 f.np pc0) (.slice ha0 f.nh hc0) r0 ∧ FmLt C f (.slice oa0 f.no oc0) (.slice pa0 f.np pc0) (.slice ha0 f.nh hc0) r0 ∧ Box W3 q4 42 #[.bool f.ok, .slice oa0 f.no oc0, .slice pa0 f.np pc0, .slice ha0 f.nh hc0] ∧ q4 < C ∧ w.heap.size < C ∧ C = W3.heap.size) := ⟨k1, k2, k3, k0, k4, k5, k6, hC⟩
  clear X3 hW3 hq4 k1 k2 k3 k0 k4 k5 k6 hC
  refine (toPlan p wa ya ba wc yc bc _ HS.out (HP.out.mono (Nat.le_refl _) S4.out.1 (Nat.le_refl _))).mono ?_
  rintro e w5 ⟨wb5, yb5, bb5, lo5, rr5, rfl, ho5, hb5⟩
  have X5 : Hid (∃ (W : World) (E : Nat), W = w5.alloc (.cells #[.int .i64 p.sec, .slice (some ⟨wb5, 0, none⟩) p.nw p.nw, .slice (some ⟨yb5, 0, none⟩) p.ny p.ny, .slice (some ⟨bb5, 0, none⟩) p.nb p.nb, .int .i64 p.hold] 33) ∧ E = w5.heap.size ∧ Below w.heap.size w W ∧ Box W w.heap.size 26 #[.int .i64 p.sec, .slice wa p.nw wc, .slice ya p.ny yc, .slice ba p.nb bc, .int .i64 p.hold] ∧ FmOwn 0 W f (.slice oa0 f.no oc0) (.slice pa0 f.np pc0) (.slice ha0 f.nh hc0) r0 ∧ FmLt C f (.slice oa0 f.no oc0) (.slice pa0 f.np pc0) (.slice ha0 f.nh hc0) r0 ∧ Box W q4 42 #[.bool f.ok, .slice oa0 f.no oc0, .slice pa0 f.np pc0, .slice ha0 f.nh hc0] ∧ Box W E 33 #[.int .i64 p.sec, .slice (some ⟨wb5, 0, none⟩) p.nw p.nw, .slice (some ⟨yb5, 0, none⟩) p.ny p.ny, .slice (some ⟨bb5, 0, none⟩) p.nb p.nb, .int .i64 p.hold] ∧ PlOwn 0 W p wb5 yb5 bb5 lo5 rr5 ∧ PlW C E W p wb5 yb5 bb5 rr5 ∧ q4 < C ∧ w.heap.size < C ∧ C ≤ E ∧ E < W.heap.size) := by
    obtain ⟨k1, k2, k3, k0, k4, k5, k6, k7⟩ := S4.out
    have B1 := k1.trans (hb5.mono k1.size)
    have hz := hb5.size
    have ho5' : PlOwn C w5 p wb5 yb5 bb5 lo5 rr5 := by rw [k7]; exact ho5
    exact ⟨_, _, rfl, rfl, B1.alloc B1.size _, (k2.mono hb5 (Nat.le_refl _)).alloc _, (k3.mono (Nat.le_refl _) hb5 (Nat.le_refl _)).mono (Nat.le_refl _) (bel1 _ _) (Nat.le_refl _), k0, (k4.mono hb5 (Nat.le_refl _)).alloc _, Box.new w5 33 _, ho5'.mono (Nat.zero_le _) (bel1 _ _) (Nat.le_refl _), (ho5'.pw (Nat.le_refl _)).mk' (Mk.of_below (bel1 _ _)), k5, k6, by omega, by simp⟩
  clear ho5 hb5 S4
  go_wp2_with fail
  obtain ⟨W5, E, hW5, hE, k1, k2, k3, k0, k4, k5, k6, k7, k8, k9, k10, k11⟩ := X5.out
  rw [← hW5, ← hE]
  have S6 : Hid (Below w.heap.size w W5 ∧ Box W5 w.heap.size 26 #[.int .i64 p.sec, .slice wa p.nw wc, .slice ya p.ny yc, .slice ba p.nb bc, .int .i64 p.hold] ∧ FmOwn 0 W5 f (.slice oa0 f.no oc0) (.slice pa0 f.np pc0) (.slice ha0 f.nh hc0) r0 ∧ FmLt C f (.slice oa0 f.no oc0) (.slice pa0 f.np pc0) (.slice ha0 f.nh hc0) r0 ∧ Box W5 q4 42 #[.bool f.ok, .slice oa0 f.no oc0, .slice pa0 f.np pc0, .slice ha0 f.nh hc0] ∧ Box W5 E 33 #[.int .i64 p.sec, .slice (some ⟨wb5, 0, none⟩) p.nw p.nw, .slice (some ⟨yb5, 0, none⟩) p.ny p.ny, .slice (some ⟨bb5, 0, none⟩) p.nb p.nb, .int .i64 p.hold] ∧ PlOwn 0 W5 p wb5 yb5 bb5 lo5 rr5 ∧ PlW C E W5 p wb5 yb5 bb5 rr5 ∧ q4 < C ∧ w.heap.size < C ∧ C ≤ E ∧ E < W5.heap.size) := ⟨k1, k2, k3, k0, k4, k5, k6, k7, k8, k9, k10, k11⟩
  clear X5 hW5 hE k1 k2 k3 k0 k4 k5 k6 k7 k8 k9 k10 k11
  refine (H13.out _ _ _ _ _ _ S6.out.2.2.2.2.2.2.1).mono ?_
  rintro e w7 ⟨oa6, pa6, ha6, oc6, pc6, hc6, r6, rfl, hfm, hb7⟩
  have X7 : Hid (∃ (W : World) (gq : Nat), W = w7.alloc (.cells #[.bool f.ok, .slice oa6 f.no oc6, .slice pa6 f.np pc6, .slice ha6 f.nh hc6] 42) ∧ gq = w7.heap.size ∧ LwM p f w wa ya ba wc yc bc oa0 pa0 ha0 oc0 pc0 hc0 r0 wb5 yb5 bb5 rr5 oa6 pa6 ha6 oc6 pc6 hc6 r6 q4 C E gq W) := by
    obtain ⟨k1, k2, k3, k0, k4, k5, k6, k7, k8, k9, k10, k11⟩ := S6.out
    have B1 := k1.trans (hb7.mono k1.size)
    have hl := Nat.le_refl W5.heap.size
    have hz := hb7.size
    have hg : FmOwn (E + 1) w7 f (.slice oa6 f.no oc6) (.slice pa6 f.np pc6) (.slice ha6 f.nh hc6) r6 := hfm.mono (by omega) (Below.refl w7.heap.size w7) (Nat.le_refl _)
    exact ⟨_, _, rfl, rfl, B1.alloc B1.size _, (k2.mono hb7 hl).alloc _, (k3.mono (Nat.le_refl _) hb7 hl).mono (Nat.le_refl _) (bel1 _ _) (Nat.le_refl _), k0, (k4.mono hb7 hl).alloc _, (k5.mono hb7 hl).alloc _, ((k6.in (Nat.le_refl _)).mono (Nat.le_refl _) hb7 hl).mono (Nat.le_refl _) (bel1 _ _) (Nat.le_refl _), (k7.mk' (Mk.of_below hb7)).mk' (Mk.of_below (bel1 _ _)), Box.new w7 42 _, hg.mono (Nat.le_refl _) (bel1 _ _) (Nat.le_refl _), k8, k9, k10, by omega⟩
  clear hfm hb7 S6
  have z7 : ∀ (W : World) (gq : Nat), LwM p f w wa ya ba wc yc bc oa0 pa0 ha0 oc0 pc0 hc0 r0 wb5 yb5 bb5 rr5 oa6 pa6 ha6 oc6 pc6 hc6 r6 q4 C E gq W → gq < W.heap.size := fun W gq h => h.2.2.2.2.2.2.2.2.1.lt
  obtain ⟨W7, gq, hW7, hgq, hM7⟩ := X7.out
  have M7 : Hid (LwM p f w wa ya ba wc yc bc oa0 pa0 ha0 oc0 pc0 hc0 r0 wb5 yb5 bb5 rr5 oa6 pa6 ha6 oc6 pc6 hc6 r6 q4 C E gq W7) := hM7
  rw [hW7] at hM7
  have g0 : (w7.alloc (.cells #[.bool f.ok, .slice oa6 f.no oc6, .slice pa6 f.np pc6, .slice ha6 f.nh hc6] 42)).cell? ⟨w7.heap.size, 0, none⟩ = some (.bool f.ok) := (Box.new w7 42 _).cell 0
  have g1 : (w7.alloc (.cells #[.bool f.ok, .slice oa6 f.no oc6, .slice pa6 f.np pc6, .slice ha6 f.nh hc6] 42)).cell? ⟨w7.heap.size, 1, none⟩ = some (.slice oa6 f.no oc6) := (Box.new w7 42 _).cell 1
  have g2 : (w7.alloc (.cells #[.bool f.ok, .slice oa6 f.no oc6, .slice pa6 f.np pc6, .slice ha6 f.nh hc6] 42)).cell? ⟨w7.heap.size, 2, none⟩ = some (.slice pa6 f.np pc6) := (Box.new w7 42 _).cell 2
  have g3 : (w7.alloc (.cells #[.bool f.ok, .slice oa6 f.no oc6, .slice pa6 f.np pc6, .slice ha6 f.nh hc6] 42)).cell? ⟨w7.heap.size, 3, none⟩ = some (.slice ha6 f.nh hc6) := (Box.new w7 42 _).cell 3
  have x0 : (w7.alloc (.cells #[.bool f.ok, .slice oa6 f.no oc6, .slice pa6 f.np pc6, .slice ha6 f.nh hc6] 42)).cell? ⟨q4, 0, none⟩ = some (.bool f.ok) := hM7.2.2.2.2.1.cell 0
  have x1 : (w7.alloc (.cells #[.bool f.ok, .slice oa6 f.no oc6, .slice pa6 f.np pc6, .slice ha6 f.nh hc6] 42)).cell? ⟨q4, 1, none⟩ = some (.slice oa0 f.no oc0) := hM7.2.2.2.2.1.cell 1
  have x2 : (w7.alloc (.cells #[.bool f.ok, .slice oa6 f.no oc6, .slice pa6 f.np pc6, .slice ha6 f.nh hc6] 42)).cell? ⟨q4, 2, none⟩ = some (.slice pa0 f.np pc0) := hM7.2.2.2.2.1.cell 2
  have x3 : (w7.alloc (.cells #[.bool f.ok, .slice oa6 f.no oc6, .slice pa6 f.np pc6, .slice ha6 f.nh hc6] 42)).cell? ⟨q4, 3, none⟩ = some (.slice ha0 f.nh hc0) := hM7.2.2.2.2.1.cell 3
  clear hM7 X7 z7
  go_wp2_with fail
  clear g0 g1 g2 g3 x0 x1 x2 x3
  rw [← hW7, ← hgq]
  clear hW7 hgq
  refine (eqFrame f oa6 pa6 ha6 oa0 pa0 ha0 oc6 pc6 hc6 oc0 pc0 hc0 W7 HFS.out (M7.out.2.2.2.2.2.2.2.2.2.1.in (Nat.zero_le _)) (M7.out.2.2.1.in (Nat.zero_le _))).mono ?_
  rintro e w8 ⟨rfl, hb8⟩
  have M8 : Hid (LwM p f w wa ya ba wc yc bc oa0 pa0 ha0 oc0 pc0 hc0 r0 wb5 yb5 bb5 rr5 oa6 pa6 ha6 oc6 pc6 hc6 r6 q4 C E gq w8.drew) := (M7.out.mono hb8).mono (Below.refl _ _).drew
  clear hb8 M7
  have y0 : w8.cell? ⟨w.heap.size, 0, none⟩ = some (.int .i64 p.sec) := M8.out.2.1.cell 0
  have y1 : w8.cell? ⟨w.heap.size, 1, none⟩ = some (.slice wa p.nw wc) := M8.out.2.1.cell 1
  have y2 : w8.cell? ⟨w.heap.size, 2, none⟩ = some (.slice ya p.ny yc) := M8.out.2.1.cell 2
  have y3 : w8.cell? ⟨w.heap.size, 3, none⟩ = some (.slice ba p.nb bc) := M8.out.2.1.cell 3
  have y4 : w8.cell? ⟨w.heap.size, 4, none⟩ = some (.int .i64 p.hold) := M8.out.2.1.cell 4
  have x0 : w8.cell? ⟨E, 0, none⟩ = some (.int .i64 p.sec) := M8.out.2.2.2.2.2.1.cell 0
  have x1 : w8.cell? ⟨E, 1, none⟩ = some (.slice (some ⟨wb5, 0, none⟩) p.nw p.nw) := M8.out.2.2.2.2.2.1.cell 1
  have x2 : w8.cell? ⟨E, 2, none⟩ = some (.slice (some ⟨yb5, 0, none⟩) p.ny p.ny) := M8.out.2.2.2.2.2.1.cell 2
  have x3 : w8.cell? ⟨E, 3, none⟩ = some (.slice (some ⟨bb5, 0, none⟩) p.nb p.nb) := M8.out.2.2.2.2.2.1.cell 3
  have x4 : w8.cell? ⟨E, 4, none⟩ = some (.int .i64 p.hold) := M8.out.2.2.2.2.2.1.cell 4
  have za : w.heap.size < w8.heap.size := M8.out.2.1.lt
  have zx : E < w8.heap.size := M8.out.2.2.2.2.2.1.lt
  go_wp2_with fail
  go_region_held3 (fun w' => w'.cell? ⟨w.heap.size, 0, none⟩ = some (.int .i64 p.sec) ∧ w'.cell? ⟨w.heap.size, 1, none⟩ = some (.slice wa p.nw wc) ∧ w'.cell? ⟨w.heap.size, 2, none⟩ = some (.slice ya p.ny yc) ∧ w'.cell? ⟨w.heap.size, 3, none⟩ = some (.slice ba p.nb bc) ∧ w'.cell? ⟨w.heap.size, 4, none⟩ = some (.int .i64 p.hold) ∧ w'.cell? ⟨E, 0, none⟩ = some (.int .i64 p.sec) ∧ w'.cell? ⟨E, 1, none⟩ = some (.slice (some ⟨wb5, 0, none⟩) p.nw p.nw) ∧ w'.cell? ⟨E, 2, none⟩ = some (.slice (some ⟨yb5, 0, none⟩) p.ny p.ny) ∧ w'.cell? ⟨E, 3, none⟩ = some (.slice (some ⟨bb5, 0, none⟩) p.nb p.nb) ∧ w'.cell? ⟨E, 4, none⟩ = some (.int .i64 p.hold)) (go_keep) (first
    | (go_at_call 8; refine (toPlan p wa ya ba wc yc bc _ HS.out (HP.out.mono (Nat.le_refl _) M8.out.1 (Nat.le_refl _))).mono ?_; rintro e w9 ⟨wb9, yb9, bb9, lo9, rr9, rfl, ho9, hb9⟩; have ka0 : w9.cell? ⟨w.heap.size, 0, none⟩ = some (.int .i64 p.sec) := cell_keep hb9 za y0; have ka1 : w9.cell? ⟨w.heap.size, 1, none⟩ = some (.slice wa p.nw wc) := cell_keep hb9 za y1; have ka2 : w9.cell? ⟨w.heap.size, 2, none⟩ = some (.slice ya p.ny yc) := cell_keep hb9 za y2; have ka3 : w9.cell? ⟨w.heap.size, 3, none⟩ = some (.slice ba p.nb bc) := cell_keep hb9 za y3; have ka4 : w9.cell? ⟨w.heap.size, 4, none⟩ = some (.int .i64 p.hold) := cell_keep hb9 za y4; have kx0 : w9.cell? ⟨E, 0, none⟩ = some (.int .i64 p.sec) := cell_keep hb9 zx x0; have kx1 : w9.cell? ⟨E, 1, none⟩ = some (.slice (some ⟨wb5, 0, none⟩) p.nw p.nw) := cell_keep hb9 zx x1; have kx2 : w9.cell? ⟨E, 2, none⟩ = some (.slice (some ⟨yb5, 0, none⟩) p.ny p.ny) := cell_keep hb9 zx x2; have kx3 : w9.cell? ⟨E, 3, none⟩ = some (.slice (some ⟨bb5, 0, none⟩) p.nb p.nb) := cell_keep hb9 zx x3; have kx4 : w9.cell? ⟨E, 4, none⟩ = some (.int .i64 p.hold) := cell_keep hb9 zx x4)
    | (go_at_call 11; refine (eqPlan p _ _ _ _ _ _ _ _ _ _ _ _ _ HS.out (M8.out.2.2.2.2.2.2.1.mono (Nat.le_refl _) hb9 (Nat.le_refl _)) (ho9.in (Nat.zero_le _))).mono ?_; rintro e w10 ⟨rfl, hb10⟩; have la0 : w10.cell? ⟨w.heap.size, 0, none⟩ = some (.int .i64 p.sec) := cell_keep hb10 (Nat.lt_of_lt_of_le za hb9.size) ka0; have la1 : w10.cell? ⟨w.heap.size, 1, none⟩ = some (.slice wa p.nw wc) := cell_keep hb10 (Nat.lt_of_lt_of_le za hb9.size) ka1; have la2 : w10.cell? ⟨w.heap.size, 2, none⟩ = some (.slice ya p.ny yc) := cell_keep hb10 (Nat.lt_of_lt_of_le za hb9.size) ka2; have la3 : w10.cell? ⟨w.heap.size, 3, none⟩ = some (.slice ba p.nb bc) := cell_keep hb10 (Nat.lt_of_lt_of_le za hb9.size) ka3; have la4 : w10.cell? ⟨w.heap.size, 4, none⟩ = some (.int .i64 p.hold) := cell_keep hb10 (Nat.lt_of_lt_of_le za hb9.size) ka4; have lx0 : w10.cell? ⟨E, 0, none⟩ = some (.int .i64 p.sec) := cell_keep hb10 (Nat.lt_of_lt_of_le zx hb9.size) kx0; have lx1 : w10.cell? ⟨E, 1, none⟩ = some (.slice (some ⟨wb5, 0, none⟩) p.nw p.nw) := cell_keep hb10 (Nat.lt_of_lt_of_le zx hb9.size) kx1; have lx2 : w10.cell? ⟨E, 2, none⟩ = some (.slice (some ⟨yb5, 0, none⟩) p.ny p.ny) := cell_keep hb10 (Nat.lt_of_lt_of_le zx hb9.size) kx2; have lx3 : w10.cell? ⟨E, 3, none⟩ = some (.slice (some ⟨bb5, 0, none⟩) p.nb p.nb) := cell_keep hb10 (Nat.lt_of_lt_of_le zx hb9.size) kx3; have lx4 : w10.cell? ⟨E, 4, none⟩ = some (.int .i64 p.hold) := cell_keep hb10 (Nat.lt_of_lt_of_le zx hb9.size) kx4))
  all_goals
    have M10 : Hid (LwM p f w wa ya ba wc yc bc oa0 pa0 ha0 oc0 pc0 hc0 r0 wb5 yb5 bb5 rr5 oa6 pa6 ha6 oc6 pc6 hc6 r6 q4 C E gq w10) := (M8.out.mono hb9).mono hb10
    clear hb9 hb10 ho9 M8 y0 y1 y2 y3 y4 x0 x1 x2 x3 x4 ka0 ka1 ka2 ka3 ka4 kx0 kx1 kx2 kx3 kx4 la0 la1 la2 la3 la4 za zx
    go_wp2_with fail
    clear lx0 lx1 lx2 lx3 lx4
    refine (markPlan15 p wb5 yb5 bb5 rr5 C E w10 HS.out HS.out.2.1 M10.out.2.2.2.2.2.2.2.1).mono ?_
    rintro e w11 ⟨⟨m, rfl⟩, hf11⟩
    have M11 : Hid (Below w.heap.size w w11 ∧ Box w11 w.heap.size 26 #[.int .i64 p.sec, .slice wa p.nw wc, .slice ya p.ny yc, .slice ba p.nb bc, .int .i64 p.hold] ∧ FmOwn 0 w11 f (.slice oa0 f.no oc0) (.slice pa0 f.np pc0) (.slice ha0 f.nh hc0) r0 ∧ Box w11 q4 42 #[.bool f.ok, .slice oa0 f.no oc0, .slice pa0 f.np pc0, .slice ha0 f.nh hc0] ∧ Box w11 gq 42 #[.bool f.ok, .slice oa6 f.no oc6, .slice pa6 f.np pc6, .slice ha6 f.nh hc6] ∧ FmOwn (E + 1) w11 f (.slice oa6 f.no oc6) (.slice pa6 f.np pc6) (.slice ha6 f.nh hc6) r6 ∧ FmLt C f (.slice oa0 f.no oc0) (.slice pa0 f.np pc0) (.slice ha0 f.nh hc0) r0 ∧ q4 < C ∧ w.heap.size < C ∧ C ≤ E ∧ E < gq) := by
      obtain ⟨k1, k2, k3, k0, k4, k5, k6, k7, k8, k9, e1, e2, e3, e4⟩ := M10.out
      exact ⟨k1.trans (hf11.below k1.size fun b hb => by omega), k2.fr hf11 (by omega), k3.fr_lt k0 hf11 (fun b hb => by omega), k4.fr hf11 (by omega), k8.fr hf11 (by omega), k9.fr_ge hf11 (fun b hb => by omega), k0, e1, e2, e3, e4⟩
    have hm0 : ¬ ((m : Int) < 0) := by omega
    clear hf11 M10
    have g0 : w11.cell? ⟨gq, 0, none⟩ = some (.bool f.ok) := M11.out.2.2.2.2.1.cell 0
    have g1 : w11.cell? ⟨gq, 1, none⟩ = some (.slice oa6 f.no oc6) := M11.out.2.2.2.2.1.cell 1
    have g2 : w11.cell? ⟨gq, 2, none⟩ = some (.slice pa6 f.np pc6) := M11.out.2.2.2.2.1.cell 2
    have g3 : w11.cell? ⟨gq, 3, none⟩ = some (.slice ha6 f.nh hc6) := M11.out.2.2.2.2.1.cell 3
    have x0 : w11.cell? ⟨q4, 0, none⟩ = some (.bool f.ok) := M11.out.2.2.2.1.cell 0
    have x1 : w11.cell? ⟨q4, 1, none⟩ = some (.slice oa0 f.no oc0) := M11.out.2.2.2.1.cell 1
    have x2 : w11.cell? ⟨q4, 2, none⟩ = some (.slice pa0 f.np pc0) := M11.out.2.2.2.1.cell 2
    have x3 : w11.cell? ⟨q4, 3, none⟩ = some (.slice ha0 f.nh hc0) := M11.out.2.2.2.1.cell 3
    have zg : gq < w11.heap.size := M11.out.2.2.2.2.1.lt
    have zq : q4 < w11.heap.size := M11.out.2.2.2.1.lt
    go_wp2_with fail
    clear g0 g1 g2 g3 x0 x1 x2 x3 zg zq
    refine (eqFrame f oa6 pa6 ha6 oa0 pa0 ha0 oc6 pc6 hc6 oc0 pc0 hc0 w11 HFS.out (M11.out.2.2.2.2.2.1.in (Nat.zero_le _)) (M11.out.2.2.1.in (Nat.zero_le _))).mono ?_
    rintro e w12 ⟨rfl, hb12⟩
    have M12 : Hid (Below w.heap.size w w12 ∧ Box w12 w.heap.size 26 #[.int .i64 p.sec, .slice wa p.nw wc, .slice ya p.ny yc, .slice ba p.nb bc, .int .i64 p.hold] ∧ FmOwn 0 w12 f (.slice oa0 f.no oc0) (.slice pa0 f.np pc0) (.slice ha0 f.nh hc0) r0 ∧ Box w12 q4 42 #[.bool f.ok, .slice oa0 f.no oc0, .slice pa0 f.np pc0, .slice ha0 f.nh hc0] ∧ Box w12 gq 42 #[.bool f.ok, .slice oa6 f.no oc6, .slice pa6 f.np pc6, .slice ha6 f.nh hc6] ∧ FmOwn (E + 1) w12 f (.slice oa6 f.no oc6) (.slice pa6 f.np pc6) (.slice ha6 f.nh hc6) r6 ∧ FmLt C f (.slice oa0 f.no oc0) (.slice pa0 f.np pc0) (.slice ha0 f.nh hc0) r0 ∧ q4 < C ∧ w.heap.size < C ∧ C ≤ E ∧ E < gq) := by
      obtain ⟨k1, k2, k3, k4, k5, k6, k7⟩ := M11.out
      have hl := Nat.le_refl w11.heap.size
      exact ⟨k1.trans (hb12.mono k1.size), k2.mono hb12 hl, k3.mono (Nat.le_refl _) hb12 hl, k4.mono hb12 hl, k5.mono hb12 hl, k6.mono (Nat.le_refl _) hb12 hl, k7⟩
    clear hb12 M11 hm0
    have g0 : w12.cell? ⟨gq, 0, none⟩ = some (.bool f.ok) := M12.out.2.2.2.2.1.cell 0
    have g1 : w12.cell? ⟨gq, 1, none⟩ = some (.slice oa6 f.no oc6) := M12.out.2.2.2.2.1.cell 1
    have g2 : w12.cell? ⟨gq, 2, none⟩ = some (.slice pa6 f.np pc6) := M12.out.2.2.2.2.1.cell 2
    have g3 : w12.cell? ⟨gq, 3, none⟩ = some (.slice ha6 f.nh hc6) := M12.out.2.2.2.2.1.cell 3
    go_wp2_with fail
    clear g0 g1 g2 g3
    refine (mark16 (E + 1) f oa6 pa6 ha6 oc6 pc6 hc6 r6 w12 HFS.out (by have := M12.out.2.2.2.2.1.lt; have := M12.out.2.2.2.2.2.2.2.2.2.2; omega) M12.out.2.2.2.2.2.1).mono ?_
    rintro e w13 ⟨rfl, hfm13, hf13, hkt⟩
    have M13 : Hid (Below w.heap.size w w13 ∧ Box w13 w.heap.size 26 #[.int .i64 p.sec, .slice wa p.nw wc, .slice ya p.ny yc, .slice ba p.nb bc, .int .i64 p.hold] ∧ FmOwn 0 w13 f (.slice oa0 f.no oc0) (.slice pa0 f.np pc0) (.slice ha0 f.nh hc0) r0 ∧ Box w13 q4 42 #[.bool f.ok, .slice oa0 f.no oc0, .slice pa0 f.np pc0, .slice ha0 f.nh hc0] ∧ Box w13 gq 42 #[.bool f.ok, .slice oa6 f.no oc6, .slice pa6 f.np pc6, .slice ha6 f.nh hc6] ∧ FmIn 0 w13 (mkF f 1) oa6 pa6 ha6) := by
      obtain ⟨k1, k2, k3, k4, k5, k6, k7, e1, e2, e3, e4⟩ := M12.out
      exact ⟨k1.trans (hf13.below k1.size fun b hb => by omega), hkt _ _ _ k2 (by decide) (by decide) (by decide), k3.fr_lt k7 hf13 (fun b hb => by omega), hkt _ _ _ k4 (by decide) (by decide) (by decide), hkt _ _ _ k5 (by decide) (by decide) (by decide), FmOwn.in (f := mkF f 1) hfm13 (Nat.zero_le _)⟩
    obtain ⟨x, hx⟩ : ∃ x, Hid (kEnd f 1 = x) := ⟨_, rfl⟩
    rw [hx.out]
    have HH : Hid (∀ W, FmIn 0 W (mkF f 1) oa6 pa6 ha6 → Calls Try.prog 17 #[.agg #[.bool f.ok, .slice oa6 f.no oc6, .slice pa6 f.np pc6, .slice ha6 f.nh hc6], .int .i64 ((1 : Nat) : Int)] W fun e w' => e = .returned (.int .i64 (x : Int)) ∧ Below W.heap.size W w') := fun W hW => by
      have := held17 f oa6 pa6 ha6 oc6 pc6 hc6 W HFS.out hW
      rw [hx.out] at this
      exact this
    have hx0 : ¬ ((x : Int) < 0) := by omega
    clear hfm13 hf13 hkt M12 hx
    have g0 : w13.cell? ⟨gq, 0, none⟩ = some (.bool f.ok) := M13.out.2.2.2.2.1.cell 0
    have g1 : w13.cell? ⟨gq, 1, none⟩ = some (.slice oa6 f.no oc6) := M13.out.2.2.2.2.1.cell 1
    have g2 : w13.cell? ⟨gq, 2, none⟩ = some (.slice pa6 f.np pc6) := M13.out.2.2.2.2.1.cell 2
    have g3 : w13.cell? ⟨gq, 3, none⟩ = some (.slice ha6 f.nh hc6) := M13.out.2.2.2.2.1.cell 3
    go_wp2_with fail
    clear g0 g1 g2 g3
    refine (HH.out w13 M13.out.2.2.2.2.2).mono ?_
    rintro e w14 ⟨rfl, hb14⟩
    have M14 : Hid (Below w.heap.size w w14 ∧ Box w14 w.heap.size 26 #[.int .i64 p.sec, .slice wa p.nw wc, .slice ya p.ny yc, .slice ba p.nb bc, .int .i64 p.hold] ∧ FmOwn 0 w14 f (.slice oa0 f.no oc0) (.slice pa0 f.np pc0) (.slice ha0 f.nh hc0) r0 ∧ Box w14 q4 42 #[.bool f.ok, .slice oa0 f.no oc0, .slice pa0 f.np pc0, .slice ha0 f.nh hc0] ∧ Box w14 gq 42 #[.bool f.ok, .slice oa6 f.no oc6, .slice pa6 f.np pc6, .slice ha6 f.nh hc6] ∧ FmIn 0 w14 (mkF f 1) oa6 pa6 ha6) := by
      obtain ⟨k1, k2, k3, k4, k5, k6⟩ := M13.out
      have hl := Nat.le_refl w13.heap.size
      exact ⟨k1.trans (hb14.mono k1.size), k2.mono hb14 hl, k3.mono (Nat.le_refl _) hb14 hl, k4.mono hb14 hl, k5.mono hb14 hl, k6.mono (Nat.le_refl _) hb14 hl⟩
    clear hb14 M13
    have y0 : w14.cell? ⟨w.heap.size, 0, none⟩ = some (.int .i64 p.sec) := M14.out.2.1.cell 0
    have y1 : w14.cell? ⟨w.heap.size, 1, none⟩ = some (.slice wa p.nw wc) := M14.out.2.1.cell 1
    have y2 : w14.cell? ⟨w.heap.size, 2, none⟩ = some (.slice ya p.ny yc) := M14.out.2.1.cell 2
    have y3 : w14.cell? ⟨w.heap.size, 3, none⟩ = some (.slice ba p.nb bc) := M14.out.2.1.cell 3
    have y4 : w14.cell? ⟨w.heap.size, 4, none⟩ = some (.int .i64 p.hold) := M14.out.2.1.cell 4
    go_wp2_with fail
    clear y0 y1 y2 y3 y4
    refine (toPlan p wa ya ba wc yc bc _ HS.out (HP.out.mono (Nat.le_refl _) M14.out.1 (Nat.le_refl _))).mono ?_
    rintro e w15 ⟨wb9, yb9, bb9, lo9, rr9, rfl, ho9, hb15⟩
    have HO9 : Hid (PlOwn 0 w15 p wb9 yb9 bb9 lo9 rr9) := ho9.mono (Nat.zero_le _) (Below.refl w15.heap.size w15) (Nat.le_refl _)
    have M15 : Hid (Below w.heap.size w w15 ∧ FmOwn 0 w15 f (.slice oa0 f.no oc0) (.slice pa0 f.np pc0) (.slice ha0 f.nh hc0) r0 ∧ Box w15 q4 42 #[.bool f.ok, .slice oa0 f.no oc0, .slice pa0 f.np pc0, .slice ha0 f.nh hc0] ∧ Box w15 gq 42 #[.bool f.ok, .slice oa6 f.no oc6, .slice pa6 f.np pc6, .slice ha6 f.nh hc6] ∧ FmIn 0 w15 (mkF f 1) oa6 pa6 ha6) := by
      obtain ⟨k1, k2, k3, k4, k5, k6⟩ := M14.out
      have hl := Nat.le_refl w14.heap.size
      exact ⟨k1.trans (hb15.mono k1.size), k3.mono (Nat.le_refl _) hb15 hl, k4.mono hb15 hl, k5.mono hb15 hl, k6.mono (Nat.le_refl _) hb15 hl⟩
    clear hb15 M14 ho9
    go_wp2_with fail
    refine (H13.out _ _ _ _ _ _ HO9.out).mono ?_
    rintro e w16 ⟨oa9, pa9, ha9, oc9, pc9, hc9, r9, rfl, hfm9, hb16⟩
    have X16 : Hid (∃ (W : World) (hq : Nat), W = w16.alloc (.cells #[.bool f.ok, .slice oa9 f.no oc9, .slice pa9 f.np pc9, .slice ha9 f.nh hc9] 42) ∧ hq = w16.heap.size ∧ Below w.heap.size w W ∧ FmOwn 0 W f (.slice oa0 f.no oc0) (.slice pa0 f.np pc0) (.slice ha0 f.nh hc0) r0 ∧ Box W q4 42 #[.bool f.ok, .slice oa0 f.no oc0, .slice pa0 f.np pc0, .slice ha0 f.nh hc0] ∧ Box W gq 42 #[.bool f.ok, .slice oa6 f.no oc6, .slice pa6 f.np pc6, .slice ha6 f.nh hc6] ∧ FmIn 0 W (mkF f 1) oa6 pa6 ha6 ∧ Box W hq 42 #[.bool f.ok, .slice oa9 f.no oc9, .slice pa9 f.np pc9, .slice ha9 f.nh hc9] ∧ FmIn 0 W f oa9 pa9 ha9) := by
      obtain ⟨k1, k3, k4, k5, k6⟩ := M15.out
      have hl := Nat.le_refl w15.heap.size
      have B1 := k1.trans (hb16.mono k1.size)
      exact ⟨_, _, rfl, rfl, B1.alloc B1.size _, (k3.mono (Nat.le_refl _) hb16 hl).mono (Nat.le_refl _) (bel1 _ _) (Nat.le_refl _), (k4.mono hb16 hl).alloc _, (k5.mono hb16 hl).alloc _, (k6.mono (Nat.le_refl _) hb16 hl).mono (Nat.le_refl _) (bel1 _ _) (Nat.le_refl _), Box.new w16 42 _, (hfm9.in (Nat.zero_le _)).mono (Nat.le_refl _) (bel1 _ _) (Nat.le_refl _)⟩
    clear hfm9 hb16 M15 HO9
    obtain ⟨W16, hq, hW16, hhq, hM16⟩ := X16.out
    have M16 : Hid (Below w.heap.size w W16 ∧ FmOwn 0 W16 f (.slice oa0 f.no oc0) (.slice pa0 f.np pc0) (.slice ha0 f.nh hc0) r0 ∧ Box W16 q4 42 #[.bool f.ok, .slice oa0 f.no oc0, .slice pa0 f.np pc0, .slice ha0 f.nh hc0] ∧ Box W16 gq 42 #[.bool f.ok, .slice oa6 f.no oc6, .slice pa6 f.np pc6, .slice ha6 f.nh hc6] ∧ FmIn 0 W16 (mkF f 1) oa6 pa6 ha6 ∧ Box W16 hq 42 #[.bool f.ok, .slice oa9 f.no oc9, .slice pa9 f.np pc9, .slice ha9 f.nh hc9] ∧ FmIn 0 W16 f oa9 pa9 ha9) := hM16
    rw [hW16, hhq] at hM16
    have g0 : (w16.alloc (.cells #[.bool f.ok, .slice oa9 f.no oc9, .slice pa9 f.np pc9, .slice ha9 f.nh hc9] 42)).cell? ⟨w16.heap.size, 0, none⟩ = some (.bool f.ok) := hM16.2.2.2.2.2.1.cell 0
    have g1 : (w16.alloc (.cells #[.bool f.ok, .slice oa9 f.no oc9, .slice pa9 f.np pc9, .slice ha9 f.nh hc9] 42)).cell? ⟨w16.heap.size, 1, none⟩ = some (.slice oa9 f.no oc9) := hM16.2.2.2.2.2.1.cell 1
    have g2 : (w16.alloc (.cells #[.bool f.ok, .slice oa9 f.no oc9, .slice pa9 f.np pc9, .slice ha9 f.nh hc9] 42)).cell? ⟨w16.heap.size, 2, none⟩ = some (.slice pa9 f.np pc9) := hM16.2.2.2.2.2.1.cell 2
    have g3 : (w16.alloc (.cells #[.bool f.ok, .slice oa9 f.no oc9, .slice pa9 f.np pc9, .slice ha9 f.nh hc9] 42)).cell? ⟨w16.heap.size, 3, none⟩ = some (.slice ha9 f.nh hc9) := hM16.2.2.2.2.2.1.cell 3
    have x0 : (w16.alloc (.cells #[.bool f.ok, .slice oa9 f.no oc9, .slice pa9 f.np pc9, .slice ha9 f.nh hc9] 42)).cell? ⟨q4, 0, none⟩ = some (.bool f.ok) := hM16.2.2.1.cell 0
    have x1 : (w16.alloc (.cells #[.bool f.ok, .slice oa9 f.no oc9, .slice pa9 f.np pc9, .slice ha9 f.nh hc9] 42)).cell? ⟨q4, 1, none⟩ = some (.slice oa0 f.no oc0) := hM16.2.2.1.cell 1
    have x2 : (w16.alloc (.cells #[.bool f.ok, .slice oa9 f.no oc9, .slice pa9 f.np pc9, .slice ha9 f.nh hc9] 42)).cell? ⟨q4, 2, none⟩ = some (.slice pa0 f.np pc0) := hM16.2.2.1.cell 2
    have x3 : (w16.alloc (.cells #[.bool f.ok, .slice oa9 f.no oc9, .slice pa9 f.np pc9, .slice ha9 f.nh hc9] 42)).cell? ⟨q4, 3, none⟩ = some (.slice ha0 f.nh hc0) := hM16.2.2.1.cell 3
    clear hM16 X16
    go_wp2_with fail
    clear g0 g1 g2 g3 x0 x1 x2 x3
    rw [← hW16]
    clear hW16 hhq
    refine (eqFrame f oa9 pa9 ha9 oa0 pa0 ha0 oc9 pc9 hc9 oc0 pc0 hc0 W16 HFS.out M16.out.2.2.2.2.2.2 (M16.out.2.1.in (Nat.zero_le _))).mono ?_
    rintro e w17 ⟨rfl, hb17⟩
    have M17 : Hid (Below w.heap.size w w17 ∧ Box w17 gq 42 #[.bool f.ok, .slice oa6 f.no oc6, .slice pa6 f.np pc6, .slice ha6 f.nh hc6] ∧ FmIn 0 w17 (mkF f 1) oa6 pa6 ha6) := ⟨M16.out.1.trans (hb17.mono M16.out.1.size), M16.out.2.2.2.1.mono hb17 (Nat.le_refl _), M16.out.2.2.2.2.1.mono (Nat.le_refl _) hb17 (Nat.le_refl _)⟩
    clear hb17 M16
    have g0 : w17.cell? ⟨gq, 0, none⟩ = some (.bool f.ok) := M17.out.2.1.cell 0
    have g1 : w17.cell? ⟨gq, 1, none⟩ = some (.slice oa6 f.no oc6) := M17.out.2.1.cell 1
    have g2 : w17.cell? ⟨gq, 2, none⟩ = some (.slice pa6 f.np pc6) := M17.out.2.1.cell 2
    have g3 : w17.cell? ⟨gq, 3, none⟩ = some (.slice ha6 f.nh hc6) := M17.out.2.1.cell 3
    go_wp2_with fail
    clear g0 g1 g2 g3
    refine (HH.out w17 M17.out.2.2).mono ?_
    rintro e w18 ⟨rfl, hb18⟩
    have M18 : Hid (Below w.heap.size w w18) := M17.out.1.trans (hb18.mono M17.out.1.size)
    clear hb18 M17
    go_wp2_with fail
    go_ret
    exact ⟨rfl, M18.out⟩

end Go.Proofs.Ytooebighlohobaa
