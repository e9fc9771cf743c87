import Derived.Test.YtkeilejbelblcaaGreatDoorGBfH11
namespace Go.Proofs.YtkeilejbelblcaaGreatDoor
open Go.RowKit

set_option maxRecDepth 100000 in
set_option maxHeartbeats 16000000 in
theorem copy33 (f : Fm) (ob oo pb po : Nat) (ha : Option Addr) (oc pc hc : Nat) (w : World) (hfo : f.no ≤ 1048576) (hfp : f.np ≤ 1048576) (hfh : f.nh ≤ 1048576) (hnb : ∀ i, i < f.nh → 1 ≤ (f.Y i).nb ∧ (f.Y i).nb ≤ 1048576) (ho : VsAt 1 0 w (some ⟨ob, oo, none⟩) f.no (boolF f.O)) (hp : VsAt 2 0 w (some ⟨pb, po, none⟩) f.np (intF f.P)) (hh : HsAt 0 w ha f.nh f.Y) :
    Calls Tryz.prog 33 #[.agg #[.bool f.ok, .slice (some ⟨ob, oo, none⟩) f.no oc, .slice (some ⟨pb, po, none⟩) f.np pc, .slice ha f.nh hc]] w fun e w' => CopyR w f e w' := by
  obtain ⟨i1, hi1, hz1, hs1, hb1⟩ := info_parts infoBool
  obtain ⟨i2, hi2, hz2, hs2, hb2⟩ := info_parts infoPt
  obtain ⟨i3, hi3, hz3, hs3, hb3⟩ := info_parts infoHeld
  have B3 := bel3 w (.cells #[.bool f.ok, .slice (some ⟨ob, oo, none⟩) f.no oc, .slice (some ⟨pb, po, none⟩) f.np pc, .slice ha f.nh hc] 42) (.cells #[.bool false, .slice none 0 0, .slice none 0 0, .slice none 0 0] 42) (.cells #[.bool f.ok, .slice none 0 0, .slice none 0 0, .slice none 0 0] 42)
  have M0 : Hid (CpM f ob oo pb po ha oc pc hc w (.slice none 0 0) 0 (.slice none 0 0) 0 (.slice none 0 0) 0 (fun _ => 0) (fun _ => 0) (((w.alloc (.cells #[.bool f.ok, .slice (some ⟨ob, oo, none⟩) f.no oc, .slice (some ⟨pb, po, none⟩) f.np pc, .slice ha f.nh hc] 42)).alloc (.cells #[.bool false, .slice none 0 0, .slice none 0 0, .slice none 0 0] 42)).alloc (.cells #[.bool f.ok, .slice none 0 0, .slice none 0 0, .slice none 0 0] 42))) := ⟨B3, ((Box.new _ _ _).alloc _).alloc _, by have := (Box.new (w.alloc (.cells #[.bool f.ok, .slice (some ⟨ob, oo, none⟩) f.no oc, .slice (some ⟨pb, po, none⟩) f.np pc, .slice ha f.nh hc] 42)) 42 #[.bool false, .slice none 0 0, .slice none 0 0, .slice none 0 0]).alloc (.cells #[.bool f.ok, .slice none 0 0, .slice none 0 0, .slice none 0 0] 42); simpa using this, by have := Box.new ((w.alloc (.cells #[.bool f.ok, .slice (some ⟨ob, oo, none⟩) f.no oc, .slice (some ⟨pb, po, none⟩) f.np pc, .slice ha f.nh hc] 42)).alloc (.cells #[.bool false, .slice none 0 0, .slice none 0 0, .slice none 0 0] 42)) 42 #[.bool f.ok, .slice none 0 0, .slice none 0 0, .slice none 0 0]; simpa using this, VOwn.nil _ _ _ _ _, VOwn.nil _ _ _ _ _, HsG.nil _ _ _ _ _, fun _ _ i hi => absurd hi (Nat.not_lt_zero _)⟩
  have HO : Hid (VsAt 1 0 w (some ⟨ob, oo, none⟩) f.no (boolF f.O) ∧ VsAt 2 0 w (some ⟨pb, po, none⟩) f.np (intF f.P) ∧ HsAt 0 w ha f.nh f.Y ∧ ∀ i, i < f.nh → 1 ≤ (f.Y i).nb ∧ (f.Y i).nb ≤ 1048576) := ⟨ho, hp, hh, hnb⟩
  have hv1 := ho.mono (Nat.le_refl _) B3 (Nat.le_refl _)
  clear ho hp hh hnb B3
  go_enter Tryz.func33, Tryz.ntmps33
  go_wp2_with (at_builtin; go_must (refine wpList_vcp _ rfl _ _ 27 rfl w.heap.size 4 i1 _ 1 1 Tryz.underlying27 hi1 hz1 hs1 hb1 rfl (by decide) (.slice none 0 0) (boolF f.O) rfl (VOwn.nil _ _ _ _ _) ob oo f.no oc (boolF f.O) rfl hv1 (fun _ _ => rfl) (by simp only [maxLen]; omega) (by omega) (by simp; omega) (Halt.mk ?_)))
  intro v1 w1 o1 g1
  obtain ⟨hM1, hB1⟩ := M0.out.occ o1 g1
  obtain ⟨va1, vc1, hv⟩ := o1.val
  subst hv
  have M1 : Hid (CpM f ob oo pb po ha oc pc hc w (.slice va1 f.no vc1) f.no (.slice none 0 0) 0 (.slice none 0 0) 0 (fun _ => 0) (fun _ => 0) (w1.setCell ⟨w.heap.size + 1 + 1, 1, none⟩ (.slice va1 f.no vc1))) := hM1
  have c1 : w1.cell? ⟨w.heap.size + 1 + 1, 1, none⟩ = some (.slice none 0 0) := hB1.cell 1
  have c2 : w1.cell? ⟨w.heap.size + 1 + 1, 2, none⟩ = some (.slice none 0 0) := hB1.cell 2
  have c4 := hB1.free 1
  have cp : w1.cell? ⟨w.heap.size, 2, none⟩ = some (.slice (some ⟨pb, po, none⟩) f.np pc) := by have := (M0.out.2.1.grown g1 (by simp [Value.ownBlock])).cell 2; exact this
  have hv2 := HO.out.2.1.mono (Nat.le_refl _) M1.out.1 (Nat.le_refl _)
  have hsz1 : w.heap.size ≤ (w1.setCell ⟨w.heap.size + 1 + 1, 1, none⟩ (.slice va1 f.no vc1)).heap.size := M1.out.1.size
  clear hM1 hB1 o1 g1 M0 hv1
  go_wp2_with (at_builtin; go_must (refine wpList_vcp _ rfl _ _ 39 rfl w.heap.size 69 i2 _ 2 16 Tryz.underlying39 hi2 hz2 hs2 hb2 rfl (by decide) (.slice none 0 0) (intF f.P) rfl (VOwn.nil _ _ _ _ _) pb po f.np pc (intF f.P) rfl hv2 (fun _ _ => rfl) (by simp only [maxLen]; omega) (by omega) hsz1 (Halt.mk ?_)))
  intro v2 w2 o2 g2
  obtain ⟨hM2, hB2⟩ := M1.out.pts o2 g2
  obtain ⟨va2, vc2, hv⟩ := o2.val
  subst hv
  have M2 : Hid (CpM f ob oo pb po ha oc pc hc w (.slice va1 f.no vc1) f.no (.slice va2 f.np vc2) f.np (.slice none 0 0) 0 (fun _ => 0) (fun _ => 0) (w2.setCell ⟨w.heap.size + 1 + 1, 2, none⟩ (.slice va2 f.np vc2))) := hM2
  have d2 : w2.cell? ⟨w.heap.size + 1 + 1, 2, none⟩ = some (.slice none 0 0) := hB2.cell 2
  have d4 := hB2.free 2
  have dp : w2.cell? ⟨w.heap.size, 3, none⟩ = some (.slice ha f.nh hc) := by have := (M1.out.2.1.grown g2 (by simp [Value.ownBlock])).cell 3; exact this
  clear hM2 hB2 o2 g2 M1 hv2 c1 c2 c4 cp hsz1
  go_wp2_with fail
  generalize w2.setCell ⟨w.heap.size + 1 + 1, 2, none⟩ (.slice va2 f.np vc2) = W at M2 ⊢
  clear d2 d4 dp
  go_loopw [25] (fun i wr => ∃ (q : Nat) (hv : Value) (r rc : Nat → Nat), q ≤ f.nh ∧ i = .int .i64 q ∧ Hid (CpM f ob oo pb po ha oc pc hc w (.slice va1 f.no vc1) f.no (.slice va2 f.np vc2) f.np hv q r rc wr)) (fun i _ => f.nh - (intOf i).toNat)
  case atStart => exact ⟨0, _, _, _, Nat.zero_le _, rfl, M2⟩
  case round =>
    obtain ⟨q, hv, r, rc, hq, rfl, M⟩ := hrel
    by_cases hlt : q < f.nh
    · obtain ⟨va3, vc3, hv3⟩ := M.out.2.2.2.2.2.2.1.own.val
      subst hv3
      obtain ⟨b, off, hha, _, hb0, hcc⟩ := HO.out.2.2.1.mono (Nat.le_refl _) M.out.1 (Nat.le_refl _) (by omega)
      obtain ⟨xa, xc, x0, x1, x2, x3, x4, hvx⟩ := hcc q hlt
      have hn := HO.out.2.2.2 q hlt
      obtain ⟨hh, HHe⟩ : ∃ hh, Hid (f.Y q = hh) := ⟨_, rfl⟩
      rw [HHe.out] at x0 x1 x2 x3 x4 hvx hn
      obtain ⟨st, gone, nb, B, sh, t⟩ := hh
      dsimp only at x0 x1 x2 x3 x4 hvx hn
      obtain ⟨bb, bo, rfl, _, hbb, _⟩ := hvx (by omega)
      subst hha
      clear hcc
      have hq0 : (0 : Int) ≤ (q : Int) := by omega
      have hqn : (q : Int) < (f.nh : Int) := by omega
      have M5 := M.out.keep (bel3 wr (.cells #[.int .i64 st, .int .i64 gone, .slice (some ⟨bb, bo, none⟩) nb xc, .bool sh, .int .i64 t] 72) (.cells #[.int .i64 st, .int .i64 gone, .slice (some ⟨bb, bo, none⟩) nb xc, .bool sh, .int .i64 t] 72) (.cells #[] 4))
      have hrow : VOwn wr.heap.size 4 1 (((wr.alloc (.cells #[.int .i64 st, .int .i64 gone, .slice (some ⟨bb, bo, none⟩) nb xc, .bool sh, .int .i64 t] 72)).alloc (.cells #[.int .i64 st, .int .i64 gone, .slice (some ⟨bb, bo, none⟩) nb xc, .bool sh, .int .i64 t] 72)).alloc (.cells #[] 4)) (.slice (some ⟨wr.heap.size + 1 + 1, 0, none⟩) 0 0) 0 (boolF B) := .inr ⟨_, 0, #[], rfl, by omega, by have := Box.new ((wr.alloc (.cells #[.int .i64 st, .int .i64 gone, .slice (some ⟨bb, bo, none⟩) nb xc, .bool sh, .int .i64 t] 72)).alloc (.cells #[.int .i64 st, .int .i64 gone, .slice (some ⟨bb, bo, none⟩) nb xc, .bool sh, .int .i64 t] 72)) 4 #[]; simpa using this, Nat.le_refl _, by simp, rfl, fun i hi => absurd hi (Nat.not_lt_zero _)⟩
      have hvx5 := hvx.mono (Nat.le_refl _) (bel3 wr (.cells #[.int .i64 st, .int .i64 gone, .slice (some ⟨bb, bo, none⟩) nb xc, .bool sh, .int .i64 t] 72) (.cells #[.int .i64 st, .int .i64 gone, .slice (some ⟨bb, bo, none⟩) nb xc, .bool sh, .int .i64 t] 72) (.cells #[] 4)) (Nat.le_refl _)
      have HBx : Hid (Box (((wr.alloc (.cells #[.int .i64 st, .int .i64 gone, .slice (some ⟨bb, bo, none⟩) nb xc, .bool sh, .int .i64 t] 72)).alloc (.cells #[.int .i64 st, .int .i64 gone, .slice (some ⟨bb, bo, none⟩) nb xc, .bool sh, .int .i64 t] 72)).alloc (.cells #[] 4)) (wr.heap.size + 1) 72 #[.int .i64 st, .int .i64 gone, .slice (some ⟨bb, bo, none⟩) nb xc, .bool sh, .int .i64 t]) := by
        rw [Hid]
        have := (Box.new (wr.alloc (.cells #[.int .i64 st, .int .i64 gone, .slice (some ⟨bb, bo, none⟩) nb xc, .bool sh, .int .i64 t] 72)) 72 #[.int .i64 st, .int .i64 gone, .slice (some ⟨bb, bo, none⟩) nb xc, .bool sh, .int .i64 t]).alloc (.cells #[] 4)
        simpa using this
      go_wp2_with (at_builtin; go_must (refine wpList_vcp _ rfl _ _ 27 rfl wr.heap.size 4 i1 _ 1 1 Tryz.underlying27 hi1 hz1 hs1 hb1 rfl (by decide) (.slice (some ⟨wr.heap.size + 1 + 1, 0, none⟩) 0 0) (boolF B) rfl hrow bb bo nb xc (boolF B) rfl hvx5 (fun _ _ => rfl) (by simp only [maxLen]; omega) (by omega) (by simp; omega) (Halt.mk ?_)))
      intro v6 w6 o6 g6
      obtain ⟨rb, cb, hv6⟩ : ∃ rb cb, v6 = .slice (some ⟨rb, 0, none⟩) nb cb := by
        rcases o6 with ⟨_, e⟩ | ⟨g, cp, cur, e, _⟩
        · omega
        · exact ⟨g, cp, e⟩
      subst hv6
      have hrb : wr.heap.size ≤ rb := (o6.lt rfl).1
      have hbx6 : Box w6 (wr.heap.size + 1) 72 #[.int .i64 st, .int .i64 gone, .slice (some ⟨bb, bo, none⟩) nb xc, .bool sh, .int .i64 t] := HBx.out.grown g6 (by simp [Value.ownBlock])
      have hbl6 : Below wr.heap.size wr w6 := (bel3 wr (.cells #[.int .i64 st, .int .i64 gone, .slice (some ⟨bb, bo, none⟩) nb xc, .bool sh, .int .i64 t] 72) (.cells #[.int .i64 st, .int .i64 gone, .slice (some ⟨bb, bo, none⟩) nb xc, .bool sh, .int .i64 t] 72) (.cells #[] 4)).trans (Below.of_grown g6 (by simp; omega) fun g e => by have := own_block e; omega)
      have hbl7 : Below wr.heap.size wr (w6.setCell ⟨wr.heap.size + 1, 2, none⟩ (.slice (some ⟨rb, 0, none⟩) nb cb)) := hbl6.setCell (by show wr.heap.size ≤ wr.heap.size + 1; omega) _
      have hbl8 : Below wr.heap.size wr ((w6.setCell ⟨wr.heap.size + 1, 2, none⟩ (.slice (some ⟨rb, 0, none⟩) nb cb)).alloc (.cells #[.int .i64 st, .int .i64 gone, .slice (some ⟨rb, 0, none⟩) nb cb, .bool sh, .int .i64 t] 72)) := hbl7.alloc hbl7.size _
      have M8 : Hid (CpM f ob oo pb po (some ⟨b, off, none⟩) oc pc hc w (.slice va1 f.no vc1) f.no (.slice va2 f.np vc2) f.np (.slice va3 q vc3) q r rc ((w6.setCell ⟨wr.heap.size + 1, 2, none⟩ (.slice (some ⟨rb, 0, none⟩) nb cb)).alloc (.cells #[.int .i64 st, .int .i64 gone, .slice (some ⟨rb, 0, none⟩) nb cb, .bool sh, .int .i64 t] 72))) := M.out.keep hbl8
      have HRW : Hid (VOwn w.heap.size 4 1 ((w6.setCell ⟨wr.heap.size + 1, 2, none⟩ (.slice (some ⟨rb, 0, none⟩) nb cb)).alloc (.cells #[.int .i64 st, .int .i64 gone, .slice (some ⟨rb, 0, none⟩) nb cb, .bool sh, .int .i64 t] 72)) (.slice (some ⟨rb, 0, none⟩) (f.Y q).nb cb) (f.Y q).nb (boolF (f.Y q).B)) := by
        rw [HHe.out]
        exact (o6.set hbx6 (by decide) 2 _).mono M.out.1.size (bel1 _ _) (Nat.le_refl _)
      have HNE : Hid ((∀ i, i < q → r i ≠ rb) ∧ ∀ g, (Value.slice va1 f.no vc1).ownBlock = some g → rb ≠ g) := ⟨fun i hi => Nat.ne_of_lt (Nat.lt_of_lt_of_le ((M.out.2.2.2.2.2.2.1.row i hi).lt rfl).2 hrb), fun g hg => Ne.symm (Nat.ne_of_lt (Nat.lt_of_lt_of_le (M.out.2.2.2.2.1.lt hg).2 hrb))⟩
      have HOW : Hid (VOwn w.heap.size 72 5 ((w6.setCell ⟨wr.heap.size + 1, 2, none⟩ (.slice (some ⟨rb, 0, none⟩) nb cb)).alloc (.cells #[.int .i64 st, .int .i64 gone, .slice (some ⟨rb, 0, none⟩) nb cb, .bool sh, .int .i64 t] 72)) (.slice va3 q vc3) q (hlG f.Y (updN r q rb) (updN rc q cb))) := by
        refine (M8.out.2.2.2.2.2.2.1.own).congr fun i hi j _ => ?_
        simp only [hlG, updN_ne (show i ≠ q by omega)]
      have HBN : Hid (Box ((w6.setCell ⟨wr.heap.size + 1, 2, none⟩ (.slice (some ⟨rb, 0, none⟩) nb cb)).alloc (.cells #[.int .i64 st, .int .i64 gone, .slice (some ⟨rb, 0, none⟩) nb cb, .bool sh, .int .i64 t] 72)) w6.heap.size 72 #[.int .i64 st, .int .i64 gone, .slice (some ⟨rb, 0, none⟩) nb cb, .bool sh, .int .i64 t]) := by
        rw [Hid]
        have := Box.new (w6.setCell ⟨wr.heap.size + 1, 2, none⟩ (.slice (some ⟨rb, 0, none⟩) nb cb)) 72 #[.int .i64 st, .int .i64 gone, .slice (some ⟨rb, 0, none⟩) nb cb, .bool sh, .int .i64 t]
        simpa only [size_setc] using this
      have HXS : Hid ((#[.int .i64 st, .int .i64 gone, .slice (some ⟨rb, 0, none⟩) nb cb, .bool sh, .int .i64 t] : Array Value).toList = (List.range 5).map (hlG f.Y (updN r q rb) (updN rc q cb) q)) := by
        rw [Hid]
        simp [hlG, List.range_succ, HHe.out, updN_same]
      have k0 : w6.cell? ⟨wr.heap.size + 1, 0, none⟩ = some (.int .i64 st) := hbx6.cell 0
      have k1 : w6.cell? ⟨wr.heap.size + 1, 1, none⟩ = some (.int .i64 gone) := hbx6.cell 1
      have k2 : w6.cell? ⟨wr.heap.size + 1, 2, none⟩ = some (.slice (some ⟨bb, bo, none⟩) nb xc) := hbx6.cell 2
      have k3 : w6.cell? ⟨wr.heap.size + 1, 3, none⟩ = some (.bool sh) := hbx6.cell 3
      have k4 : w6.cell? ⟨wr.heap.size + 1, 4, none⟩ = some (.int .i64 t) := hbx6.cell 4
      have kf := hbx6.free 2
      have kh : w6.cell? ⟨w.heap.size + 1 + 1, 3, none⟩ = some (.slice va3 q vc3) := (M.out.keep hbl6).2.2.2.1.cell 3
      have hxl : wr.heap.size + 1 < w6.heap.size := hbx6.lt
      have hfl : w.heap.size + 1 + 1 < wr.heap.size := M.out.2.2.2.1.lt
      have hsz8 : w.heap.size ≤ ((w6.setCell ⟨wr.heap.size + 1, 2, none⟩ (.slice (some ⟨rb, 0, none⟩) nb cb)).alloc (.cells #[.int .i64 st, .int .i64 gone, .slice (some ⟨rb, 0, none⟩) nb cb, .bool sh, .int .i64 t] 72)).heap.size := M8.out.1.size
      clear hbx6 hbl6 hbl7 hbl8 o6 g6 M5 hrow hvx5 HBx M x0 x1 x2 x3 x4 hvx
      go_wp2_with (at_builtin; go_must (refine wpList_vapp _ rfl _ _ 40 rfl w.heap.size 72 i3 _ 5 56 Tryz.underlying40 hi3 hz3 hs3 hb3 rfl (by decide) (.slice va3 q vc3) q (hlG f.Y (updN r q rb) (updN rc q cb)) rfl HOW.out (hlG_one _ _ _) w6.heap.size 1 #[.int .i64 st, .int .i64 gone, .slice (some ⟨rb, 0, none⟩) nb cb, .bool sh, .int .i64 t] rfl HBN.out HXS.out (by simp only [maxLen]; omega) (by omega) hsz8 (Halt.mk ?_)))
      intro v9 w9 o9 g9
      obtain ⟨hM9, hB9⟩ := M8.out.way o9 g9 HRW.out HNE.out.1 HNE.out.2
      have M9 : Hid (CpM f ob oo pb po (some ⟨b, off, none⟩) oc pc hc w (.slice va1 f.no vc1) f.no (.slice va2 f.np vc2) f.np v9 (q + 1) (updN r q rb) (updN rc q cb) (w9.setCell ⟨w.heap.size + 1 + 1, 3, none⟩ v9)) := hM9
      obtain ⟨va9, vc9, hv9⟩ := o9.val
      subst hv9
      have m3 : w9.cell? ⟨w.heap.size + 1 + 1, 3, none⟩ = some (.slice va3 q vc3) := hB9.cell 3
      have m4 := hB9.free 3
      clear hM9 hB9 o9 g9 M8 HRW HNE HOW HBN HXS k0 k1 k2 k3 k4 kf kh hsz8
      go_wp2_with fail
      go_roundw
      case rel => exact ⟨q + 1, _, _, _, by omega, by go_num, M9⟩
      case measure => simp [intOf]; omega
    · obtain rfl : q = f.nh := by omega
      obtain ⟨va3, vc3, hv3⟩ := M.out.2.2.2.2.2.2.1.own.val
      subst hv3
      obtain ⟨h1, h2, h3, h4, h5, h6, h7, h8⟩ := M.out
      have e0 : wr.cell? ⟨w.heap.size + 1 + 1, 0, none⟩ = some (.bool f.ok) := h4.cell 0
      have e1 : wr.cell? ⟨w.heap.size + 1 + 1, 1, none⟩ = some (.slice va1 f.no vc1) := h4.cell 1
      have e2 : wr.cell? ⟨w.heap.size + 1 + 1, 2, none⟩ = some (.slice va2 f.np vc2) := h4.cell 2
      have e3 : wr.cell? ⟨w.heap.size + 1 + 1, 3, none⟩ = some (.slice va3 f.nh vc3) := h4.cell 3
      have z0 : wr.cell? ⟨w.heap.size + 1, 0, none⟩ = some (.bool false) := h3.cell 0
      have z1 : wr.cell? ⟨w.heap.size + 1, 1, none⟩ = some (.slice none 0 0) := h3.cell 1
      have z2 : wr.cell? ⟨w.heap.size + 1, 2, none⟩ = some (.slice none 0 0) := h3.cell 2
      have z3 : wr.cell? ⟨w.heap.size + 1, 3, none⟩ = some (.slice none 0 0) := h3.cell 3
      have y0 := h3.free 0
      have y1 := h3.free 1
      have y2 := h3.free 2
      have y3 := h3.free 3
      have HR : Hid (∀ w', Fr (fun b => b = w.heap.size + 1) wr w' → CopyR w f (.returned (.agg #[.bool f.ok, .slice va1 f.no vc1, .slice va2 f.np vc2, .slice va3 f.nh vc3])) w') := fun w' hf => by
        have K : ∀ b T cur, Box wr b T cur → T ≠ 42 → w'.heap[b]? = wr.heap[b]? := fun b T cur hb hT => hf.block b hb.lt (hb.ne h3 hT)
        exact ⟨_, _, _, r, rc, rfl, h5.by_ fun b cur hb => K b 4 cur hb (by decide), h6.by_ fun b cur hb => K b 69 cur hb (by decide), h7.by_ fun b T cur hb hT => K b T cur hb (by rcases hT with rfl | rfl <;> decide), h8, h1.trans (hf.below h1.size fun k hk => by omega)⟩
      have HF0 : Hid (Fr (fun b => b = w.heap.size + 1) wr wr) := Fr.refl _ _
      clear h1 h2 h3 h4 h5 h6 h7 h8
      go_wp2_with fail
      refine bodyPost_ret (v := .agg #[.bool f.ok, .slice va1 f.no vc1, .slice va2 f.np vc2, .slice va3 f.nh vc3]) (by simp [results, Tryz.results33, go_sem, z0, z1, z2, z3]) rfl ?_
      exact HR.out _ ((((HF0.out.cells rfl 0 _).cells rfl 1 _).cells rfl 2 _).cells rfl 3 _)

end Go.Proofs.YtkeilejbelblcaaGreatDoor
