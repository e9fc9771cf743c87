import Derived.Test.YtooebighlohobaaBm
import Derived.Deep.RegionLaw
import Derived.Deep.AppendLies
namespace Go.Proofs.Ytooebighlohobaa
open Go.RowKit

set_option maxRecDepth 100000 in
set_option maxHeartbeats 8000000 in
theorem begin12 (p : Pl) (wa ya ba : Option Addr) (wc yc bc : Nat) (w : World) (hs : p.small) (h : PlIn 0 w p wa ya ba) :
    Calls Try.prog 12 #[.agg #[.int .i64 p.sec, .slice wa p.nw wc, .slice ya p.ny yc, .slice ba p.nb bc, .int .i64 p.hold]] w fun e w' => FmR w (begF p) e w' := by
  have H : Hid (PlIn 0 w p wa ya ba) := h
  have HS : Hid p.small := hs
  have HX : Hid (Box ((w.alloc (.cells #[.int .i64 p.sec, .slice wa p.nw wc, .slice ya p.ny yc, .slice ba p.nb bc, .int .i64 p.hold] 33)).alloc (.cells #[.bool false, .slice none 0 0, .slice none 0 0, .slice none 0 0] 42)) w.heap.size 33 #[.int .i64 p.sec, .slice wa p.nw wc, .slice ya p.ny yc, .slice ba p.nb bc, .int .i64 p.hold] ∧ Box ((w.alloc (.cells #[.int .i64 p.sec, .slice wa p.nw wc, .slice ya p.ny yc, .slice ba p.nb bc, .int .i64 p.hold] 33)).alloc (.cells #[.bool false, .slice none 0 0, .slice none 0 0, .slice none 0 0] 42)) (w.heap.size + 1) 42 #[.bool false, .slice none 0 0, .slice none 0 0, .slice none 0 0] ∧ Below w.heap.size w ((w.alloc (.cells #[.int .i64 p.sec, .slice wa p.nw wc, .slice ya p.ny yc, .slice ba p.nb bc, .int .i64 p.hold] 33)).alloc (.cells #[.bool false, .slice none 0 0, .slice none 0 0, .slice none 0 0] 42))) := ⟨(Box.new w 33 _).alloc _, by have := Box.new (w.alloc (.cells #[.int .i64 p.sec, .slice wa p.nw wc, .slice ya p.ny yc, .slice ba p.nb bc, .int .i64 p.hold] 33)) 42 #[.bool false, .slice none 0 0, .slice none 0 0, .slice none 0 0]; simpa using this, bel2 w _ _⟩
  clear h hs
  go_enter Try.func12, Try.ntmps12
  go_wp2_with fail
  generalize ((w.alloc (.cells #[.int .i64 p.sec, .slice wa p.nw wc, .slice ya p.ny yc, .slice ba p.nb bc, .int .i64 p.hold] 33)).alloc (.cells #[.bool false, .slice none 0 0, .slice none 0 0, .slice none 0 0] 42)) = w0 at HX ⊢
  refine (ok36 p wa ya ba wc yc bc _ HS.out (H.out.mono (Nat.le_refl _) HX.out.2.2 (Nat.le_refl _))).mono ?_
  rintro e w1 ⟨rfl, hb1⟩
  have HX1 : Hid (Box w1 w.heap.size 33 #[.int .i64 p.sec, .slice wa p.nw wc, .slice ya p.ny yc, .slice ba p.nb bc, .int .i64 p.hold] ∧ Box w1 (w.heap.size + 1) 42 #[.bool false, .slice none 0 0, .slice none 0 0, .slice none 0 0] ∧ Below w.heap.size w w1) := ⟨HX.out.1.mono hb1 (Nat.le_refl _), HX.out.2.1.mono hb1 (Nat.le_refl _), HX.out.2.2.trans (hb1.mono HX.out.2.2.size)⟩
  clear HX hb1
  have d0 : w1.cell? ⟨w.heap.size + 1, 0, none⟩ = some (.bool false) := HX1.out.2.1.cell 0
  have f0 := HX1.out.2.1.free 0
  have d1 : w1.cell? ⟨w.heap.size + 1, 1, none⟩ = some (.slice none 0 0) := HX1.out.2.1.cell 1
  have f1 := HX1.out.2.1.free 1
  have d2 : w1.cell? ⟨w.heap.size + 1, 2, none⟩ = some (.slice none 0 0) := HX1.out.2.1.cell 2
  have f2 := HX1.out.2.1.free 2
  have d3 : w1.cell? ⟨w.heap.size + 1, 3, none⟩ = some (.slice none 0 0) := HX1.out.2.1.cell 3
  have f3 := HX1.out.2.1.free 3
  by_cases h0 : (planF p).1 = 0
  · obtain ⟨_, g1, g2, g3, g4⟩ := planF_zero h0
    have e0 : decide ((planF p).1 = 0) = true := by simp [h0]
    rw [e0]
    have HF : Hid (begF p = ⟨true, p.sec.toNat, fun _ => false, p.nw, fun _ _ => 1, p.ny, (fun i => ⟨0, 0, (p.Y i).ns, fun _ => false, false, 0⟩)⟩) := begF_yes h0
    obtain ⟨n, hn⟩ : ∃ n : Nat, p.sec = (n : Int) := ⟨p.sec.toNat, by omega⟩
    have HN : Hid (p.sec.toNat = n) := by rw [Hid, hn]; simp
    have n60 : n ≤ 60 := by omega
    have hmk := make_rows (P := Try.prog) 38 4 _ 1 1 Try.underlying38 infoBool n (by omega) (by omega)
    simp only [Nat.mul_one] at hmk
    have a0 : w1.cell? ⟨w.heap.size, 0, none⟩ = some (.int .i64 (n : Int)) := by have := HX1.out.1.cell 0; simp only [hn] at this; exact this
    have z0 : w.heap.size + 1 < w1.heap.size := HX1.out.2.1.lt
    have a1 : ∀ x y, ((w1.alloc x).alloc y).cell? ⟨w.heap.size, 1, none⟩ = some (.slice wa p.nw wc) := fun x y => cell_keep (bel2 w1 x y) (by omega) (HX1.out.1.cell 1)
    clear d0 d1 d2 d3 f0 f1 f2 f3 e0 h0 hn
    have M0 : Hid (∃ (W : World) (ob fb : Nat), W = (w1.alloc (.cells (mk0 (.bool false) n) 4)).alloc (.cells #[.bool true, .slice (some ⟨w1.heap.size, 0, none⟩) n n, .slice none 0 0, .slice none 0 0] 42) ∧ ob = w1.heap.size ∧ fb = w1.heap.size + 1 ∧ BgM p w wa ya ba wc yc bc ob fb n (.slice none 0 0) 0 (.slice none 0 0) 0 (fun _ => 0) W) := by
      have hb : Box (w1.alloc (.cells (mk0 (.bool false) n) 4)) w1.heap.size 4 (mk0 (.bool false) n) := Box.new _ _ _
      refine ⟨_, _, _, rfl, rfl, rfl, ?_, (HX1.out.1.alloc _).alloc _, (HX1.out.2.1.alloc _).alloc _, ?_, (VOwn.made (hb.alloc _) (by omega)), VOwn.nil _ _ _ _ _, HsOwn.nil _ _ _ _, z0, by omega⟩
      · exact HX1.out.2.2.trans ((bel2 w1 _ _).mono HX1.out.2.2.size)
      · have := Box.new (w1.alloc (.cells (mk0 (.bool false) n) 4)) 42 #[.bool true, .slice (some ⟨w1.heap.size, 0, none⟩) n n, .slice none 0 0, .slice none 0 0]
        simpa using this
    go_wp2_with fail
    clear a0 a1 hmk
    obtain ⟨W, ob, fb, hW, hob, hfb, hM⟩ := M0.out
    rw [← hW, ← hfb]
    have MM : Hid (BgM p w wa ya ba wc yc bc ob fb n (.slice none 0 0) 0 (.slice none 0 0) 0 (fun _ => 0) W) := hM
    clear hW hM hob hfb M0 HX1 z0
    obtain ⟨i0, hi0, hz0, hs0, hb0⟩ := info_parts infoPoint
    obtain ⟨i1, hi1, hz1, hs1, hb1⟩ := info_parts infoHeld
    go_loopw [17] (fun i wr => ∃ (q : Nat) (va : Option Addr) (vc : Nat), q ≤ p.nw ∧ i = .int .i64 q ∧ Hid (BgM p w wa ya ba wc yc bc ob fb n (.slice va q vc) q (.slice none 0 0) 0 (fun _ => 0) wr)) (fun i _ => p.nw - (intOf i).toNat)
    case atStart => exact ⟨0, none, 0, Nat.zero_le _, rfl, MM⟩
    case round =>
      obtain ⟨q, va, vc, hq, rfl, M⟩ := hrel
      clear MM
      by_cases hlt : q < p.nw
      · have c2 : wr.cell? ⟨fb, 2, none⟩ = some (.slice va q vc) := M.out.2.2.2.1.cell 2
        have zf : fb < wr.heap.size := M.out.2.2.2.1.lt
        have hql : (q : Int) < (p.nw : Int) := by omega
        have M1 : Hid (BgM p w wa ya ba wc yc bc ob fb n (.slice va q vc) q (.slice none 0 0) 0 (fun _ => 0) (wr.alloc (.cells #[.int .i64 1, .int .i64 1] 69))) := M.out.mono (bel1 _ _)
        go_wp2_with (at_builtin; go_must (refine wpList_vapp _ rfl _ _ 39 rfl fb 69 i0 _ 2 16 Try.underlying39 hi0 hz0 hs0 hb0 rfl (by decide) (.slice va q vc) q (intF fun _ _ => 1) rfl M1.out.2.2.2.2.2.1 (fun _ _ => rfl) wr.heap.size 1 #[.int .i64 1, .int .i64 1] rfl (Box.new wr 69 _) rfl (by simp only [maxLen]; omega) (by omega) (by simp; omega) (Halt.mk ?_)))
        intro v2 w2 o2 g2
        obtain ⟨hM2, hB2⟩ := M1.out.point o2 g2
        obtain ⟨va2, vc2, hv2⟩ := o2.val
        subst hv2
        have c3 : w2.cell? ⟨fb, 2, none⟩ = some (.slice va q vc) := hB2.cell 2
        have c4 := hB2.free 2
        have M2 : Hid (BgM p w wa ya ba wc yc bc ob fb n (.slice va2 (q + 1) vc2) (q + 1) (.slice none 0 0) 0 (fun _ => 0) (w2.setCell ⟨fb, 2, none⟩ (.slice va2 (q + 1) vc2))) := hM2
        clear hM2 hB2 o2 g2 M M1 c2
        go_wp2_with fail
        go_roundw
        case rel => exact ⟨q + 1, va2, vc2, by omega, by go_num, M2⟩
        case measure => simp [intOf]; omega
      · have hge : ¬ ((q : Int) < (p.nw : Int)) := by omega
        have hqn : q = p.nw := by omega
        have MP : Hid (BgM p w wa ya ba wc yc bc ob fb n (.slice va p.nw vc) p.nw (.slice none 0 0) 0 (fun _ => 0) wr) := by have := M.out; rw [hqn] at this; exact this
        have a2 : wr.cell? ⟨w.heap.size, 2, none⟩ = some (.slice ya p.ny yc) := M.out.2.1.cell 2
        clear M
        go_wp2_with fail
        clear a2 hge hqn hlt hq
        go_loopw [29] (fun i wr => ∃ (q : Nat) (ha : Option Addr) (hc : Nat) (r : Nat → Nat), q ≤ p.ny ∧ i = .int .i64 q ∧ Hid (BgM p w wa ya ba wc yc bc ob fb n (.slice va p.nw vc) p.nw (.slice ha q hc) q r wr ∧ ∀ i, i < q → r i < wr.heap.size)) (fun i _ => p.ny - (intOf i).toNat)
        case atStart => exact ⟨0, none, 0, _, Nat.zero_le _, rfl, MP.out, fun i hi => absurd hi (Nat.not_lt_zero _)⟩
        case round =>
          obtain ⟨q, ha, hc, r, hq, rfl, M⟩ := hrel
          clear MP
          by_cases hlt : q < p.ny
          · have hq0 : (0 : Int) ≤ (q : Int) := by omega
            have hql : (q : Int) < (p.ny : Int) := by omega
            have hns := (HS.out.2.2.1 q hlt).1
            have hwy := H.out.wy.mono (Nat.le_refl _) M.out.1.1 (Nat.le_refl _)
            obtain ⟨b, off, hya, _, hb, hc'⟩ := hwy (by omega)
            subst hya
            obtain ⟨sa, sc, la, lc, fa, fc, oa, oc, ma, mc, x0, x1, x2, x3, x4, _⟩ := hc' q hlt
            obtain ⟨m, hm⟩ : ∃ m, Hid ((p.Y q).ns = m) := ⟨_, rfl⟩
            rw [hm.out] at x0 hns
            have hmk := make_rows (P := Try.prog) 38 4 _ 1 1 Try.underlying38 infoBool m (by omega) (by omega)
            simp only [Nat.mul_one] at hmk
            have zf : fb < wr.heap.size := M.out.1.2.2.2.1.lt
            have M1 : Hid (BgM p w wa (some ⟨b, off, none⟩) ba wc yc bc ob fb n (.slice va p.nw vc) p.nw (.slice ha q hc) q r (wr.alloc (.cells #[.slice sa m sc, .slice la (p.Y q).nl lc, .slice fa (p.Y q).nf fc, .slice oa (p.Y q).no oc, .slice ma (p.Y q).nm mc] 59))) := M.out.1.mono (bel1 _ _)
            have M2 : Hid (BgM p w wa (some ⟨b, off, none⟩) ba wc yc bc ob fb n (.slice va p.nw vc) p.nw (.slice ha q hc) q r ((wr.alloc (.cells #[.slice sa m sc, .slice la (p.Y q).nl lc, .slice fa (p.Y q).nf fc, .slice oa (p.Y q).no oc, .slice ma (p.Y q).nm mc] 59)).alloc (.cells (mk0 (.bool false) m) 4))) := M1.out.mono (bel1 _ _)
            have M3 : Hid (BgM p w wa (some ⟨b, off, none⟩) ba wc yc bc ob fb n (.slice va p.nw vc) p.nw (.slice ha q hc) q r (((wr.alloc (.cells #[.slice sa m sc, .slice la (p.Y q).nl lc, .slice fa (p.Y q).nf fc, .slice oa (p.Y q).no oc, .slice ma (p.Y q).nm mc] 59)).alloc (.cells (mk0 (.bool false) m) 4)).alloc (.cells #[.int .i64 0, .int .i64 0, .slice (some ⟨wr.heap.size + 1, 0, none⟩) m m, .bool false, .int .i64 0] 71))) := M2.out.mono (bel1 _ _)
            have e1 : (wr.alloc (.cells #[.slice sa m sc, .slice la (p.Y q).nl lc, .slice fa (p.Y q).nf fc, .slice oa (p.Y q).no oc, .slice ma (p.Y q).nm mc] 59)).cell? ⟨fb, 3, none⟩ = some (.slice ha q hc) := M1.out.2.2.2.1.cell 3
            have e2 : ((wr.alloc (.cells #[.slice sa m sc, .slice la (p.Y q).nl lc, .slice fa (p.Y q).nf fc, .slice oa (p.Y q).no oc, .slice ma (p.Y q).nm mc] 59)).alloc (.cells (mk0 (.bool false) m) 4)).cell? ⟨fb, 3, none⟩ = some (.slice ha q hc) := M2.out.2.2.2.1.cell 3
            have e3 : (((wr.alloc (.cells #[.slice sa m sc, .slice la (p.Y q).nl lc, .slice fa (p.Y q).nf fc, .slice oa (p.Y q).no oc, .slice ma (p.Y q).nm mc] 59)).alloc (.cells (mk0 (.bool false) m) 4)).alloc (.cells #[.int .i64 0, .int .i64 0, .slice (some ⟨wr.heap.size + 1, 0, none⟩) m m, .bool false, .int .i64 0] 71)).cell? ⟨fb, 3, none⟩ = some (.slice ha q hc) := M3.out.2.2.2.1.cell 3
            have y1 : (wr.alloc (.cells #[.slice sa m sc, .slice la (p.Y q).nl lc, .slice fa (p.Y q).nf fc, .slice oa (p.Y q).no oc, .slice ma (p.Y q).nm mc] 59)).cell? ⟨wr.heap.size, 0, none⟩ = some (.slice sa m sc) := (Box.new wr 59 _).cell 0
            have y2 : ((wr.alloc (.cells #[.slice sa m sc, .slice la (p.Y q).nl lc, .slice fa (p.Y q).nf fc, .slice oa (p.Y q).no oc, .slice ma (p.Y q).nm mc] 59)).alloc (.cells (mk0 (.bool false) m) 4)).cell? ⟨wr.heap.size, 0, none⟩ = some (.slice sa m sc) := ((Box.new wr 59 _).alloc _).cell 0
            have y3 : (((wr.alloc (.cells #[.slice sa m sc, .slice la (p.Y q).nl lc, .slice fa (p.Y q).nf fc, .slice oa (p.Y q).no oc, .slice ma (p.Y q).nm mc] 59)).alloc (.cells (mk0 (.bool false) m) 4)).alloc (.cells #[.int .i64 0, .int .i64 0, .slice (some ⟨wr.heap.size + 1, 0, none⟩) m m, .bool false, .int .i64 0] 71)).cell? ⟨wr.heap.size, 0, none⟩ = some (.slice sa m sc) := (((Box.new wr 59 _).alloc _).alloc _).cell 0
            have HRB : Hid (VOwn (wr.heap.size + 1) 4 1 (((wr.alloc (.cells #[.slice sa m sc, .slice la (p.Y q).nl lc, .slice fa (p.Y q).nf fc, .slice oa (p.Y q).no oc, .slice ma (p.Y q).nm mc] 59)).alloc (.cells (mk0 (.bool false) m) 4)).alloc (.cells #[.int .i64 0, .int .i64 0, .slice (some ⟨wr.heap.size + 1, 0, none⟩) m m, .bool false, .int .i64 0] 71)) (.slice (some ⟨wr.heap.size + 1, 0, none⟩) m m) m (boolF fun _ => false)) := by
              have hbx : Box ((wr.alloc (.cells #[.slice sa m sc, .slice la (p.Y q).nl lc, .slice fa (p.Y q).nf fc, .slice oa (p.Y q).no oc, .slice ma (p.Y q).nm mc] 59)).alloc (.cells (mk0 (.bool false) m) 4)) (wr.heap.size + 1) 4 (mk0 (.bool false) m) := by have := Box.new (wr.alloc (.cells #[.slice sa m sc, .slice la (p.Y q).nl lc, .slice fa (p.Y q).nf fc, .slice oa (p.Y q).no oc, .slice ma (p.Y q).nm mc] 59)) 4 (mk0 (.bool false) m); simpa using this
              exact VOwn.made (hbx.alloc _) (by omega)
            have hbx2 : Box (((wr.alloc (.cells #[.slice sa m sc, .slice la (p.Y q).nl lc, .slice fa (p.Y q).nf fc, .slice oa (p.Y q).no oc, .slice ma (p.Y q).nm mc] 59)).alloc (.cells (mk0 (.bool false) m) 4)).alloc (.cells #[.int .i64 0, .int .i64 0, .slice (some ⟨wr.heap.size + 1, 0, none⟩) m m, .bool false, .int .i64 0] 71)) (wr.heap.size + 1 + 1) 71 #[.int .i64 0, .int .i64 0, .slice (some ⟨wr.heap.size + 1, 0, none⟩) m m, .bool false, .int .i64 0] := by
              have := Box.new ((wr.alloc (.cells #[.slice sa m sc, .slice la (p.Y q).nl lc, .slice fa (p.Y q).nf fc, .slice oa (p.Y q).no oc, .slice ma (p.Y q).nm mc] 59)).alloc (.cells (mk0 (.bool false) m) 4)) 71 #[.int .i64 0, .int .i64 0, .slice (some ⟨wr.heap.size + 1, 0, none⟩) m m, .bool false, .int .i64 0]
              simpa using this
            have HBX : Hid (Box (((wr.alloc (.cells #[.slice sa m sc, .slice la (p.Y q).nl lc, .slice fa (p.Y q).nf fc, .slice oa (p.Y q).no oc, .slice ma (p.Y q).nm mc] 59)).alloc (.cells (mk0 (.bool false) m) 4)).alloc (.cells #[.int .i64 0, .int .i64 0, .slice (some ⟨wr.heap.size + 1, 0, none⟩) m m, .bool false, .int .i64 0] 71)) (wr.heap.size + 1 + 1) 71 #[.int .i64 0, .int .i64 0, .slice (some ⟨wr.heap.size + 1, 0, none⟩) m m, .bool false, .int .i64 0]) := hbx2
            clear hbx2
            have HOW : Hid (VOwn fb 71 5 (((wr.alloc (.cells #[.slice sa m sc, .slice la (p.Y q).nl lc, .slice fa (p.Y q).nf fc, .slice oa (p.Y q).no oc, .slice ma (p.Y q).nm mc] 59)).alloc (.cells (mk0 (.bool false) m) 4)).alloc (.cells #[.int .i64 0, .int .i64 0, .slice (some ⟨wr.heap.size + 1, 0, none⟩) m m, .bool false, .int .i64 0] 71)) (.slice ha q hc) q (hlF (fun i => ⟨0, 0, (p.Y i).ns, fun _ => false, false, 0⟩) (fun i => if i < q then r i else wr.heap.size + 1))) := by
              refine (M3.out.2.2.2.2.2.2.1.own).congr fun i hi j _ => ?_
              simp only [hlF, hi, if_true]
            have HXS : Hid ((#[.int .i64 0, .int .i64 0, .slice (some ⟨wr.heap.size + 1, 0, none⟩) m m, .bool false, .int .i64 0] : Array Value).toList = (List.range 5).map (hlF (fun i => ⟨0, 0, (p.Y i).ns, fun _ => false, false, 0⟩) (fun i => if i < q then r i else wr.heap.size + 1) q)) := by
              rw [Hid]
              simp [hlF, List.range_succ, hm.out]
            have HRL : Hid (∀ i, i < q → r i < wr.heap.size) := M.out.2
            have HWAY : Hid (∀ g gc w4, VOwn fb 71 5 w4 (.slice (some ⟨g, 0, none⟩) (q + 1) gc) (q + 1) (hlF (fun i => ⟨0, 0, (p.Y i).ns, fun _ => false, false, 0⟩) (fun i => if i < q then r i else wr.heap.size + 1)) → World.grownBy (((wr.alloc (.cells #[.slice sa m sc, .slice la (p.Y q).nl lc, .slice fa (p.Y q).nf fc, .slice oa (p.Y q).no oc, .slice ma (p.Y q).nm mc] 59)).alloc (.cells (mk0 (.bool false) m) 4)).alloc (.cells #[.int .i64 0, .int .i64 0, .slice (some ⟨wr.heap.size + 1, 0, none⟩) m m, .bool false, .int .i64 0] 71)) w4 (Value.slice ha q hc).ownBlock → (BgM p w wa (some ⟨b, off, none⟩) ba wc yc bc ob fb n (.slice va p.nw vc) p.nw (.slice (some ⟨g, 0, none⟩) (q + 1) gc) (q + 1) (fun i => if i < q then r i else wr.heap.size + 1) (w4.setCell ⟨fb, 3, none⟩ (.slice (some ⟨g, 0, none⟩) (q + 1) gc)) ∧ ∀ i, i < q + 1 → (if i < q then r i else wr.heap.size + 1) < (w4.setCell ⟨fb, 3, none⟩ (.slice (some ⟨g, 0, none⟩) (q + 1) gc)).heap.size) ∧ Box w4 fb 42 #[.bool true, .slice (some ⟨ob, 0, none⟩) n n, .slice va p.nw vc, .slice ha q hc]) := fun g gc w4 hv hg => by
              have hh := M3.out.way hv hg (by rw [hm.out]; exact HRB.out) (by omega) (fun i hi => by have := HRL.out i hi; omega)
              have hz := hg.size
              simp only [size_alloc3] at hz
              refine ⟨⟨hh.1, fun i hi => ?_⟩, hh.2⟩
              rw [size_setc]
              by_cases c : i < q
              · rw [if_pos c]
                have := HRL.out i c
                omega
              · rw [if_neg c]
                omega
            clear M hwy hc' HRB M1 M2 M3
            go_wp2_with fail
            go_region_law (refine step_vapp _ (by rfl) _ _ 40 (by rfl) fb 71 i1 _ 5 56 Try.underlying40 hi1 hz1 hs1 hb1 rfl (by omega) (.slice ha q hc) q (hlF (fun i => ⟨0, 0, (p.Y i).ns, fun _ => false, false, 0⟩) (fun i => if i < q then r i else wr.heap.size + 1)) (by rfl) HOW.out (hlF_one _ _) (wr.heap.size + 1 + 1) 1 #[.int .i64 0, .int .i64 0, .slice (some ⟨wr.heap.size + 1, 0, none⟩) m m, .bool false, .int .i64 0] (by rfl) HBX.out HXS.out (by simp only [maxLen]; omega) (by omega) (by simp; omega) ?_; intro g gc w4 hv4 hg4; obtain ⟨hM4, hB4⟩ := HWAY.out g gc w4 hv4 ⟨hg4.os, hg4.tape, hg4.output, hg4.size, hg4.block⟩; have k3 : w4.cell? ⟨fb, 3, none⟩ = some (.slice ha q hc) := hB4.cell 3; have k4 := hB4.free 3; have M4 : Hid (_ ∧ _) := hM4)
            all_goals
              clear hM4 hB4 hv4 hg4 HOW HBX HXS HWAY e1 e2 e3 y1 y2 y3 x0 x1 x2 x3 x4 hmk
              go_wp2_with fail
              go_roundw
              case rel => exact ⟨q + 1, _, _, _, by omega, by go_num, M4⟩
              case measure => simp [intOf]; omega
          · have hge : ¬ ((q : Int) < (p.ny : Int)) := by omega
            have hqn : q = p.ny := by omega
            have MP : Hid (BgM p w wa ya ba wc yc bc ob fb n (.slice va p.nw vc) p.nw (.slice ha p.ny hc) p.ny r wr) := by have := M.out.1; rw [hqn] at this; exact this
            have c0 : wr.cell? ⟨fb, 0, none⟩ = some (.bool true) := M.out.1.2.2.2.1.cell 0
            have c1 : wr.cell? ⟨fb, 1, none⟩ = some (.slice (some ⟨ob, 0, none⟩) n n) := M.out.1.2.2.2.1.cell 1
            have c2 : wr.cell? ⟨fb, 2, none⟩ = some (.slice va p.nw vc) := M.out.1.2.2.2.1.cell 2
            have c3 : wr.cell? ⟨fb, 3, none⟩ = some (.slice ha p.ny hc) := MP.out.2.2.2.1.cell 3
            have d0 : wr.cell? ⟨w.heap.size + 1, 0, none⟩ = some (.bool false) := M.out.1.2.2.1.cell 0
            have d1 : wr.cell? ⟨w.heap.size + 1, 1, none⟩ = some (.slice none 0 0) := M.out.1.2.2.1.cell 1
            have d2 : wr.cell? ⟨w.heap.size + 1, 2, none⟩ = some (.slice none 0 0) := M.out.1.2.2.1.cell 2
            have d3 : wr.cell? ⟨w.heap.size + 1, 3, none⟩ = some (.slice none 0 0) := M.out.1.2.2.1.cell 3
            have f0 := M.out.1.2.2.1.free 0
            have f1 := M.out.1.2.2.1.free 1
            have f2 := M.out.1.2.2.1.free 2
            have f3 := M.out.1.2.2.1.free 3
            have HR : Hid (∀ w', Fr (fun b => b = w.heap.size + 1) wr w' → FmR w (begF p) (.returned (.agg #[.bool true, .slice (some ⟨ob, 0, none⟩) n n, .slice va p.nw vc, .slice ha p.ny hc])) w') := fun w' hf => by
              obtain ⟨h1, h2, h3, h4, h5, h6, h7, h8, h9⟩ := MP.out
              have K : ∀ b T cur, Box wr b T cur → T ≠ 42 → w'.heap[b]? = wr.heap[b]? := fun b T cur hb hT => hf.block b hb.lt fun e => by subst e; exact hb.ne h3 hT rfl
              rw [HF.out, HN.out]
              refine ⟨_, _, _, _, _, _, r, rfl, ⟨?_, ?_, ?_, fun g hg i hi => ?_⟩, h1.trans (hf.below h1.size fun k hk => by omega)⟩
              · exact (h5.by_ fun b cur hb => K b 4 cur hb (by decide)).keep (by omega) fun _ _ => rfl
              · exact (h6.by_ fun b cur hb => K b 69 cur hb (by decide)).keep (by omega) fun _ _ => rfl
              · have := h7.by_ fun b T cur hb hT => K b T cur hb (by rcases hT with rfl | rfl <;> decide)
                exact ⟨this.own.keep (by omega) fun _ _ => rfl, fun i hi => ⟨(this.row i hi).1, by have := (this.row i hi).2; omega⟩, this.inj⟩
              · have e := own_block hg
                have := (h7.row i hi).2
                omega
            have HF0 : Hid (Fr (fun b => b = w.heap.size + 1) wr wr) := Fr.refl _ _
            clear M MP hqn
            go_wp2_with fail
            refine bodyPost_ret (v := .agg #[.bool true, .slice (some ⟨ob, 0, none⟩) n n, .slice va p.nw vc, .slice ha p.ny hc]) (by simp [results, Try.results12, go_sem, d0, d1, d2, d3]) rfl ?_
            exact HR.out _ ((((HF0.out.cells rfl 0 _).cells rfl 1 _).cells rfl 2 _).cells rfl 3 _)
  · have e0 : decide ((planF p).1 = 0) = false := by simp [h0]
    rw [e0]
    have HF : Hid (begF p = _) := begF_no h0
    have HR : Hid (∀ w', Fr (fun b => b = w.heap.size + 1) w1 w' → Below w.heap.size w w') := fun w' hf => HX1.out.2.2.trans (hf.below HX1.out.2.2.size fun k hk => by omega)
    have HF0 : Hid (Fr (fun b => b = w.heap.size + 1) w1 w1) := Fr.refl _ _
    clear h0 e0
    go_wp2_with fail
    refine bodyPost_ret (v := .agg #[.bool false, .slice none 0 0, .slice none 0 0, .slice none 0 0]) (by simp [results, Try.results12, go_sem, d0, d1, d2, d3]) rfl ?_
    rw [HF.out]
    exact ⟨none, none, none, 0, 0, 0, fun _ => 0, rfl, ⟨VOwn.nil _ _ _ _ _, VOwn.nil _ _ _ _ _, HsOwn.nil _ _ _ _, fun g hg => by simp [Value.ownBlock] at hg⟩, HR.out _ ((((HF0.out.cells rfl 0 _).cells rfl 1 _).cells rfl 2 _).cells rfl 3 _)⟩

end Go.Proofs.Ytooebighlohobaa
