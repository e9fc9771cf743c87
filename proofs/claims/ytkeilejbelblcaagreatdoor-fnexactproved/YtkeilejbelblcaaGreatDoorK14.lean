import Derived.Test.YtkeilejbelblcaaGreatDoorK13
import Derived.Test.YtkeilejbelblcaaGreatDoorGBfH11
namespace Go.Proofs.YtkeilejbelblcaaGreatDoor
open Go.RowKit Go.Lib

/-- what the desk's held gives -/
def HdG (p : Pl) (S : Nat → WS) (w : World) (e : Ending) (w' : World) : Prop := ∃ (ha : Option Addr) (hc : Nat) (r rc : Nat → Nat), e = .returned (.slice ha p.ny hc) ∧ HsG w.heap.size w' (.slice ha p.ny hc) p.ny (fun i => WS.held (p.Y i).ns (S i)) r rc ∧ Below w.heap.size w w'
set_option maxRecDepth 100000 in
set_option maxHeartbeats 16000000 in
theorem held83 (p : Pl) (wb yb bb : Nat) (lo rr : Nat → Nat) (oa : Option Addr) (no oc : Nat) (pa : Option Addr) (np pc : Nat) (ia : Option Addr) (ic : Nat) (S : Nat → WS) (v : Nat → Value) (M : Nat) (w : World) (hs : p.small) (hny : p.ny ≤ 100) (hP : PlOwn 0 w p wb yb bb lo rr) (hns : ∀ i, i < p.ny → 1 ≤ (p.Y i).ns) (h : WlOwn M w ia p.ny ic (fun i => (p.Y i).ns) S v) :
    Calls Tryz.prog 83 #[.agg #[.int .i64 p.sec, .slice (some ⟨wb, 0, none⟩) p.nw p.nw, .slice (some ⟨yb, 0, none⟩) p.ny p.ny, .slice (some ⟨bb, 0, none⟩) p.nb p.nb, .int .i64 p.hold, .slice oa no oc, .slice pa np pc, .slice ia p.ny ic]] w fun e w' => HdG p S w e w' := by
  have H : Hid (PlOwn 0 w p wb yb bb lo rr ∧ p.small ∧ WlOwn M w ia p.ny ic (fun i => (p.Y i).ns) S v ∧ ∀ i, i < p.ny → 1 ≤ (p.Y i).ns) := ⟨hP, hs, h, hns⟩
  obtain ⟨i1, hi1, hz1, hs1, hb1⟩ := info_parts infoHeld
  have M0 : Hid (Box (w.alloc (.cells #[.int .i64 p.sec, .slice (some ⟨wb, 0, none⟩) p.nw p.nw, .slice (some ⟨yb, 0, none⟩) p.ny p.ny, .slice (some ⟨bb, 0, none⟩) p.nb p.nb, .int .i64 p.hold, .slice oa no oc, .slice pa np pc, .slice ia p.ny ic] 84)) w.heap.size 84 #[.int .i64 p.sec, .slice (some ⟨wb, 0, none⟩) p.nw p.nw, .slice (some ⟨yb, 0, none⟩) p.ny p.ny, .slice (some ⟨bb, 0, none⟩) p.nb p.nb, .int .i64 p.hold, .slice oa no oc, .slice pa np pc, .slice ia p.ny ic] ∧ Below w.heap.size w (w.alloc (.cells #[.int .i64 p.sec, .slice (some ⟨wb, 0, none⟩) p.nw p.nw, .slice (some ⟨yb, 0, none⟩) p.ny p.ny, .slice (some ⟨bb, 0, none⟩) p.nb p.nb, .int .i64 p.hold, .slice oa no oc, .slice pa np pc, .slice ia p.ny ic] 84)) ∧ HsG (w.heap.size + 1) (w.alloc (.cells #[.int .i64 p.sec, .slice (some ⟨wb, 0, none⟩) p.nw p.nw, .slice (some ⟨yb, 0, none⟩) p.ny p.ny, .slice (some ⟨bb, 0, none⟩) p.nb p.nb, .int .i64 p.hold, .slice oa no oc, .slice pa np pc, .slice ia p.ny ic] 84)) (.slice none 0 0) 0 (fun i => WS.held (p.Y i).ns (S i)) (fun _ => 0) (fun _ => 0) ∧ ∀ i, i < 0 → ((fun _ => 0)) i < (w.alloc (.cells #[.int .i64 p.sec, .slice (some ⟨wb, 0, none⟩) p.nw p.nw, .slice (some ⟨yb, 0, none⟩) p.ny p.ny, .slice (some ⟨bb, 0, none⟩) p.nb p.nb, .int .i64 p.hold, .slice oa no oc, .slice pa np pc, .slice ia p.ny ic] 84)).heap.size) := ⟨Box.new _ _ _, bel1 _ _, HsG.nil _ _ _ _ _, fun i hi => absurd hi (Nat.not_lt_zero _)⟩
  have x7 : (w.alloc (.cells #[.int .i64 p.sec, .slice (some ⟨wb, 0, none⟩) p.nw p.nw, .slice (some ⟨yb, 0, none⟩) p.ny p.ny, .slice (some ⟨bb, 0, none⟩) p.nb p.nb, .int .i64 p.hold, .slice oa no oc, .slice pa np pc, .slice ia p.ny ic] 84)).cell? ⟨w.heap.size, 7, none⟩ = some (.slice ia p.ny ic) := (Box.new w 84 #[.int .i64 p.sec, .slice (some ⟨wb, 0, none⟩) p.nw p.nw, .slice (some ⟨yb, 0, none⟩) p.ny p.ny, .slice (some ⟨bb, 0, none⟩) p.nb p.nb, .int .i64 p.hold, .slice oa no oc, .slice pa np pc, .slice ia p.ny ic]).cell 7
  clear hP hs h hns
  go_enter Tryz.func83, Tryz.ntmps83
  go_wp2_with fail
  generalize w.alloc (.cells #[.int .i64 p.sec, .slice (some ⟨wb, 0, none⟩) p.nw p.nw, .slice (some ⟨yb, 0, none⟩) p.ny p.ny, .slice (some ⟨bb, 0, none⟩) p.nb p.nb, .int .i64 p.hold, .slice oa no oc, .slice pa np pc, .slice ia p.ny ic] 84) = W at *
  clear x7
  go_loopw [3, 9] (fun u i wr => ∃ (q : Nat) (ha : Option Addr) (hc : Nat) (r rc : Nat → Nat), q ≤ p.ny ∧ i = .int .i64 (q : Int) ∧ u = .slice ha q hc ∧ Hid (Box wr w.heap.size 84 #[.int .i64 p.sec, .slice (some ⟨wb, 0, none⟩) p.nw p.nw, .slice (some ⟨yb, 0, none⟩) p.ny p.ny, .slice (some ⟨bb, 0, none⟩) p.nb p.nb, .int .i64 p.hold, .slice oa no oc, .slice pa np pc, .slice ia p.ny ic] ∧ Below w.heap.size w wr ∧ HsG (w.heap.size + 1) wr (.slice ha q hc) q (fun i => WS.held (p.Y i).ns (S i)) r rc ∧ ∀ i, i < q → (r) i < wr.heap.size)) (fun _ i _ => p.ny - (intOf i).toNat)
  case atStart => exact ⟨0, none, 0, _, _, Nat.zero_le _, rfl, rfl, M0⟩
  case round =>
    clear M0
    obtain ⟨q, ha, hc, r, rc, hq, rfl, rfl, M⟩ := hrel
    by_cases hlt : q < p.ny
    · obtain ⟨ib, rfl, _, hib⟩ := H.out.2.2.1.own.addr (by omega)
      have hwq : WsV wr (p.Y q).ns (S q) (v q) := (H.out.2.2.1.ws q hlt).mono M.out.2.1 (Nat.le_refl _)
      obtain ⟨vs, hbx, _, _, _, _, hrow⟩ := H.out.1.wy
      obtain ⟨b1, b2, b3, b4, b5, hr⟩ := hrow q hlt
      have HY0 : Hid (w.cell? ⟨yb, q * 5, none⟩ = some (.slice (some ⟨b1, 0, none⟩) (p.Y q).ns (p.Y q).ns) ∧ yb < w.heap.size) := ⟨(hbx.cell _).trans hr.c0, hbx.lt⟩
      clear hrow hbx hr
      obtain ⟨m, hm⟩ : ∃ m, Hid ((p.Y q).ns = m) := ⟨_, rfl⟩
      have hm1 : 1 ≤ m := by rw [← hm.out]; exact H.out.2.2.2 q hlt
      have hm2 : m ≤ 1048576 := by have := (H.out.2.1.2.2.1 q hlt).1; rw [hm.out] at this; omega
      rw [hm.out] at hwq HY0
      obtain ⟨TT, x, F, HTF, hvq, hna, hme, hC⟩ := held_any hm1 hm2 hwq
      have HTF2 : Hid ((TT = 161 ∧ F = 192) ∨ (TT = 163 ∧ F = 195) ∨ (TT = 164 ∧ F = 202) ∨ (TT = 166 ∧ F = 205) ∨ (TT = 169 ∧ F = 208)) := HTF
      obtain ⟨k, hke⟩ : ∃ k, Hid (WS.held m (S q) = k) := ⟨_, rfl⟩
      have HC : Hid (∀ W : World, Below wr.heap.size wr W → Calls Tryz.prog F #[x, .int .i64 (m : Int)] W fun e w' => HlR W k e w') := fun W hb => by
        rw [← hke.out]
        exact hC W (hwq.mono hb (Nat.le_refl _))
      have c0 : wr.cell? ⟨ib, q, none⟩ = some (.iface TT x) := by
        have h1 := H.out.2.2.1.own.cell (i := q) (j := 0) hlt (by omega)
        rw [Nat.mul_one, Nat.add_zero, hvq] at h1
        exact cell_keep M.out.2.1 hib h1
      have x2 : wr.cell? ⟨w.heap.size, 2, none⟩ = some (.slice (some ⟨yb, 0, none⟩) p.ny p.ny) := M.out.1.cell 2
      have y0 : wr.cell? ⟨yb, q * 5, none⟩ = some (.slice (some ⟨b1, 0, none⟩) m m) := cell_keep M.out.2.1 HY0.out.2 HY0.out.1
      have hq0 : (0 : Int) ≤ (q : Int) := by omega
      have hqn : (q : Int) < (p.ny : Int) := by omega
      clear HTF hC hwq
      have HKq : Hid ((fun i => WS.held (p.Y i).ns (S i)) q = k) := by
        show WS.held (p.Y q).ns (S q) = k
        rw [hm.out]
        exact hke.out
      have HW2 : Hid (∀ w2 rb cb, Below wr.heap.size wr w2 → Box w2 w.heap.size 84 #[.int .i64 p.sec, .slice (some ⟨wb, 0, none⟩) p.nw p.nw, .slice (some ⟨yb, 0, none⟩) p.ny p.ny, .slice (some ⟨bb, 0, none⟩) p.nb p.nb, .int .i64 p.hold, .slice oa no oc, .slice pa np pc, .slice (some ⟨ib, 0, none⟩) p.ny ic] ∧ Below w.heap.size w w2 ∧ w2.cell? ⟨yb, q * 5, none⟩ = some (.slice (some ⟨b1, 0, none⟩) m m) ∧ VOwn (w.heap.size + 1) 72 5 w2 (.slice ha q hc) q (hlG (fun i => WS.held (p.Y i).ns (S i)) (updN r q rb) (updN rc q cb)) ∧ w.heap.size + 1 ≤ w2.heap.size) := fun w2 rb cb hb2 => by
        have hB := M.out.2.1.trans (hb2.mono M.out.2.1.size)
        refine ⟨M.out.1.mono hb2 (Nat.le_refl _), hB, cell_keep hB HY0.out.2 HY0.out.1, (M.out.2.2.1.own.mono (Nat.le_refl _) hb2 (Nat.le_refl _)).congr fun i hi j _ => ?_, by have := M.out.1.lt; have := hb2.size; omega⟩
        simp only [hlG, updN_ne (show i ≠ q by omega)]
      have HVS : Hid (∀ rb cb, (#[.int .i64 k.st, .int .i64 k.gone, .slice (some ⟨rb, 0, none⟩) k.nb cb, .bool k.shown, .int .i64 k.timer] : Array Value).toList = (List.range 5).map (hlG (fun i => WS.held (p.Y i).ns (S i)) (updN r q rb) (updN rc q cb) q)) := fun rb cb => by
        simp only [← HKq.out]
        simp [hlG, List.range_succ, updN_same]
      have HAP : Hid (∀ w2 rb cb, Below wr.heap.size wr w2 → wr.heap.size ≤ rb → VOwn rb 4 1 w2 (.slice (some ⟨rb, 0, none⟩) k.nb cb) k.nb (boolF k.B) → ∀ g gc w4, VOwn (w.heap.size + 1) 72 5 w4 (.slice (some ⟨g, 0, none⟩) (q + 1) gc) (q + 1) (hlG (fun i => WS.held (p.Y i).ns (S i)) (updN r q rb) (updN rc q cb)) → World.grownBy (w2.alloc (.cells #[.int .i64 k.st, .int .i64 k.gone, .slice (some ⟨rb, 0, none⟩) k.nb cb, .bool k.shown, .int .i64 k.timer] 72)) w4 (Value.slice ha q hc).ownBlock → Box w4 w.heap.size 84 #[.int .i64 p.sec, .slice (some ⟨wb, 0, none⟩) p.nw p.nw, .slice (some ⟨yb, 0, none⟩) p.ny p.ny, .slice (some ⟨bb, 0, none⟩) p.nb p.nb, .int .i64 p.hold, .slice oa no oc, .slice pa np pc, .slice (some ⟨ib, 0, none⟩) p.ny ic] ∧ Below w.heap.size w w4 ∧ HsG (w.heap.size + 1) w4 (.slice (some ⟨g, 0, none⟩) (q + 1) gc) (q + 1) (fun i => WS.held (p.Y i).ns (S i)) (updN r q rb) (updN rc q cb) ∧ ∀ i, i < (q + 1) → ((updN r q rb)) i < w4.heap.size) := fun w2 rb cb hb2 hrb hv g gc w4 hq4 hg4 => by
        have hba : Below wr.heap.size wr (w2.alloc (.cells #[.int .i64 k.st, .int .i64 k.gone, .slice (some ⟨rb, 0, none⟩) k.nb cb, .bool k.shown, .int .i64 k.timer] 72)) := hb2.trans ((bel1 w2 _).mono hb2.size)
        have hown := M.out.2.2.1.mono hba (Nat.le_refl _)
        have hbx := M.out.1.mono hba (Nat.le_refl _)
        have hB := M.out.2.1.trans (hba.mono M.out.2.1.size)
        have hva := hv.alloc (.cells #[.int .i64 k.st, .int .i64 k.gone, .slice (some ⟨rb, 0, none⟩) k.nb cb, .bool k.shown, .int .i64 k.timer] 72)
        refine ⟨hbx.grown hg4 fun e => hown.own.off hbx (by decide) e rfl, hB.trans (Below.of_grown hg4 hB.size fun g e => by have := (hown.own.lt e).1; omega), hown.app hq4 hg4 (by rw [show WS.held (p.Y q).ns (S q) = k from HKq.out]; exact hva.keep (by have := M.out.1.lt; omega) fun _ _ => rfl) (fun i hi => by have := M.out.2.2.2 i hi; omega), fun i hi => ?_⟩
        have hz := hg4.size
        by_cases c : i = q
        · subst c
          rw [updN_same]
          have := (hva.lt (g := rb) rfl).2
          omega
        · rw [updN_ne c]
          have h1 := M.out.2.2.2 i (by omega)
          have h2 := hba.size
          omega
      have MD : Hid (Below wr.heap.size wr wr.drew) := (Below.refl _ _).drew
      have hql2 : q + 1 ≤ maxLen := by simp only [maxLen]; omega
      have hqb : (q + 1) * 56 ≤ 140737488355328 := by omega
      have HP2 : Hid (∀ w2 rb cb, Below wr.heap.size wr w2 → w2.cell? ⟨w.heap.size, 2, none⟩ = some (.slice (some ⟨yb, 0, none⟩) p.ny p.ny) ∧ w2.cell? ⟨yb, q * 5, none⟩ = some (.slice (some ⟨b1, 0, none⟩) m m)) := fun w2 rb cb hb => ⟨(HW2.out w2 rb cb hb).1.cell 2, (HW2.out w2 rb cb hb).2.2.1⟩
      clear M
      go_wp2_with fail
      rcases HTF2.out with ⟨rfl, rfl⟩ | ⟨rfl, rfl⟩ | ⟨rfl, rfl⟩ | ⟨rfl, rfl⟩ | ⟨rfl, rfl⟩
      all_goals clear HTF2
      all_goals go_region_held3 (fun wx : World => wx.cell? ⟨w.heap.size, 2, none⟩ = some (.slice (some ⟨yb, 0, none⟩) p.ny p.ny) ∧ wx.cell? ⟨yb, q * 5, none⟩ = some (.slice (some ⟨b1, 0, none⟩) m m)) (go_keep) (first
        | (refine (HC.out _ MD.out).mono ?_; rintro e w2 ⟨rb, cb, rfl, hrb, hv2, hb2⟩; have B2 : Below wr.heap.size wr w2 := MD.out.trans (hb2.mono MD.out.size); have B3 : Below wr.heap.size wr (w2.alloc (.cells #[.int .i64 k.st, .int .i64 k.gone, .slice (some ⟨rb, 0, none⟩) k.nb cb, .bool k.shown, .int .i64 k.timer] 72)) := B2.trans ((bel1 w2 _).mono B2.size); have n2 := (HP2.out w2 rb cb B2).1; have n0 := (HP2.out w2 rb cb B2).2; have p2 := (HP2.out _ rb cb B3).1; have p0 := (HP2.out _ rb cb B3).2)
        | (have hB3' := B3; refine step_vapp _ (by rfl) _ _ 40 (by rfl) (w.heap.size + 1) 72 i1 _ 5 56 Tryz.underlying40 hi1 hz1 hs1 hb1 rfl (by omega) (.slice ha q hc) q (hlG (fun i => WS.held (p.Y i).ns (S i)) (updN r q rb) (updN rc q cb)) (by rfl) (HW2.out _ rb cb B3).2.2.2.1 (hlG_one _ _ _) w2.heap.size 1 #[.int .i64 k.st, .int .i64 k.gone, .slice (some ⟨rb, 0, none⟩) k.nb cb, .bool k.shown, .int .i64 k.timer] (by rfl) (Box.new w2 72 _) (HVS.out rb cb) hql2 hqb (HW2.out _ rb cb B3).2.2.2.2 ?_; intro g gc w4 hv4 hg4; have M4 := HAP.out w2 rb cb B2 (Nat.le_trans MD.out.size hrb) hv2 g gc w4 hv4 ⟨hg4.os, hg4.tape, hg4.output, hg4.size, hg4.block⟩; have r2 : w4.cell? ⟨w.heap.size, 2, none⟩ = some (.slice (some ⟨yb, 0, none⟩) p.ny p.ny) := M4.1.cell 2; have r0 : w4.cell? ⟨yb, q * 5, none⟩ = some (.slice (some ⟨b1, 0, none⟩) m m) := cell_keep M4.2.1 HY0.out.2 HY0.out.1))
      all_goals
        have M5 : Hid (_ ∧ _ ∧ _ ∧ _) := M4
        clear HW2 HVS HAP n2 n0 p2 p0 r2 r0 B2 B3 hv2 hb2 hv4 hg4 M4
        go_wp2_with fail
        go_roundw
        case rel => exact ⟨q + 1, _, _, _, _, by omega, by go_num, rfl, M5⟩
        case measure => simp [intOf]; omega
    · obtain rfl : q = p.ny := by omega
      have HR : Hid (HdG p S w (.returned (.slice ha p.ny hc)) wr) := ⟨ha, hc, r, rc, rfl, ⟨M.out.2.2.1.own.keep (by omega) fun _ _ => rfl, fun i hi => (M.out.2.2.1.row i hi).keep (by omega) fun _ _ => rfl, M.out.2.2.1.inj⟩, M.out.2.1⟩
      clear M
      go_wp2_with fail
      go_ret
      exact HR.out

end Go.Proofs.YtkeilejbelblcaaGreatDoor
