import Derived.Test.YtlgapgajgpilgaaGreatDoorZay
import Derived.Test.YtlgapgajgpilgaaGreatDoorZal
import Derived.Test.YtlgapgajgpilgaaGreatDoorZam
namespace Go.Proofs.YtlgapgajgpilgaaGreatDoor
open Go.RowKit Go.Lib
def HdG (p : Pl) (S : Nat → WS) (w : World) (e : Ending) (w' : World) : Prop := ∃ (ha : Option Addr) (hc : Nat) (r rc : Nat → Nat), e = .returned (.slice ha p.ny hc) ∧ HsG w.heap.size w' (.slice ha p.ny hc) p.ny (fun i => WS.held (p.Y i).ns (S i)) r rc ∧ Below w.heap.size w w'
set_option maxRecDepth 100000 in
set_option maxHeartbeats 16000000 in
theorem held83 (p : Pl) (wb yb bb : Nat) (lo rr : Nat → Nat) (oa : Option Addr) (no oc : Nat) (pa : Option Addr) (np pc : Nat) (ia : Option Addr) (ic : Nat) (S : Nat → WS) (v : Nat → Value) (M : Nat) (w : World) (hs : p.small) (hny : p.ny ≤ 100) (hP : PlOwn 0 w p wb yb bb lo rr) (hns : ∀ i, i < p.ny → 1 ≤ (p.Y i).ns) (h : WlOwn M w ia p.ny ic (fun i => (p.Y i).ns) S v) :
  Calls Tryz.prog 81 #[.agg #[.int .i64 p.sec, .slice (some ⟨wb, 0, none⟩) p.nw p.nw, .slice (some ⟨yb, 0, none⟩) p.ny p.ny, .slice (some ⟨bb, 0, none⟩) p.nb p.nb, .int .i64 p.hold, .slice oa no oc, .slice pa np pc, .slice ia p.ny ic]] w fun e w' => HdG p S w e w' := by
 have H : Hid (PlOwn 0 w p wb yb bb lo rr ∧ p.small ∧ WlOwn M w ia p.ny ic (fun i => (p.Y i).ns) S v ∧ ∀ i, i < p.ny → 1 ≤ (p.Y i).ns) := ⟨hP, hs, h, hns⟩
 obtain ⟨i1, hi1, hz1, hs1, hb1⟩ := info_parts infoHeld
 have M0 : Hid (Box (w.alloc (.cells #[.int .i64 p.sec, .slice (some ⟨wb, 0, none⟩) p.nw p.nw, .slice (some ⟨yb, 0, none⟩) p.ny p.ny, .slice (some ⟨bb, 0, none⟩) p.nb p.nb, .int .i64 p.hold, .slice oa no oc, .slice pa np pc, .slice ia p.ny ic] 73)) w.heap.size 73 #[.int .i64 p.sec, .slice (some ⟨wb, 0, none⟩) p.nw p.nw, .slice (some ⟨yb, 0, none⟩) p.ny p.ny, .slice (some ⟨bb, 0, none⟩) p.nb p.nb, .int .i64 p.hold, .slice oa no oc, .slice pa np pc, .slice ia p.ny ic] ∧ Below w.heap.size w (w.alloc (.cells #[.int .i64 p.sec, .slice (some ⟨wb, 0, none⟩) p.nw p.nw, .slice (some ⟨yb, 0, none⟩) p.ny p.ny, .slice (some ⟨bb, 0, none⟩) p.nb p.nb, .int .i64 p.hold, .slice oa no oc, .slice pa np pc, .slice ia p.ny ic] 73)) ∧ HsG (w.heap.size + 1) (w.alloc (.cells #[.int .i64 p.sec, .slice (some ⟨wb, 0, none⟩) p.nw p.nw, .slice (some ⟨yb, 0, none⟩) p.ny p.ny, .slice (some ⟨bb, 0, none⟩) p.nb p.nb, .int .i64 p.hold, .slice oa no oc, .slice pa np pc, .slice ia p.ny ic] 73)) (.slice none 0 0) 0 (fun i => WS.held (p.Y i).ns (S i)) (fun _ => 0) (fun _ => 0) ∧ ∀ i, i < 0 → ((fun _ => 0)) i < (w.alloc (.cells #[.int .i64 p.sec, .slice (some ⟨wb, 0, none⟩) p.nw p.nw, .slice (some ⟨yb, 0, none⟩) p.ny p.ny, .slice (some ⟨bb, 0, none⟩) p.nb p.nb, .int .i64 p.hold, .slice oa no oc, .slice pa np pc, .slice ia p.ny ic] 73)).heap.size) := ⟨Box.new _ _ _, bel1 _ _, HsG.nil _ _ _ _ _, fun i hi => absurd hi (Nat.not_lt_zero _)⟩
 have x7 : (w.alloc (.cells #[.int .i64 p.sec, .slice (some ⟨wb, 0, none⟩) p.nw p.nw, .slice (some ⟨yb, 0, none⟩) p.ny p.ny, .slice (some ⟨bb, 0, none⟩) p.nb p.nb, .int .i64 p.hold, .slice oa no oc, .slice pa np pc, .slice ia p.ny ic] 73)).cell? ⟨w.heap.size, 7, none⟩ = some (.slice ia p.ny ic) := (Box.new w 73 #[.int .i64 p.sec, .slice (some ⟨wb, 0, none⟩) p.nw p.nw, .slice (some ⟨yb, 0, none⟩) p.ny p.ny, .slice (some ⟨bb, 0, none⟩) p.nb p.nb, .int .i64 p.hold, .slice oa no oc, .slice pa np pc, .slice ia p.ny ic]).cell 7
 clear hP hs h hns
 go_enter Tryz.func81, Tryz.ntmps81
 go_wp2_with fail
 generalize w.alloc (.cells #[.int .i64 p.sec, .slice (some ⟨wb, 0, none⟩) p.nw p.nw, .slice (some ⟨yb, 0, none⟩) p.ny p.ny, .slice (some ⟨bb, 0, none⟩) p.nb p.nb, .int .i64 p.hold, .slice oa no oc, .slice pa np pc, .slice ia p.ny ic] 73) = W at *
 clear x7
 go_loopw [3, 9] (fun u i wr => ∃ (q : Nat) (ha : Option Addr) (hc : Nat) (r rc : Nat → Nat), q ≤ p.ny ∧ i = .int .i64 (q : Int) ∧ u = .slice ha q hc ∧ Hid (Box wr w.heap.size 73 #[.int .i64 p.sec, .slice (some ⟨wb, 0, none⟩) p.nw p.nw, .slice (some ⟨yb, 0, none⟩) p.ny p.ny, .slice (some ⟨bb, 0, none⟩) p.nb p.nb, .int .i64 p.hold, .slice oa no oc, .slice pa np pc, .slice ia p.ny ic] ∧ Below w.heap.size w wr ∧ HsG (w.heap.size + 1) wr (.slice ha q hc) q (fun i => WS.held (p.Y i).ns (S i)) r rc ∧ ∀ i, i < q → (r) i < wr.heap.size)) (fun _ i _ => p.ny - (intOf i).toNat)
 case atStart => exact ⟨0, none, 0, _, _, Nat.zero_le _, rfl, rfl, M0⟩
 case round =>
  clear M0
  obtain ⟨q, ha, hc, r, rc, hq, rfl, rfl, M⟩ := hrel
  by_cases hlt : q < p.ny
  ·
   obtain ⟨ib, rfl, _, hib⟩ := H.out.2.2.1.own.addr (by omega)
   have hwq : WsV wr (p.Y q).ns (S q) (v q) := (H.out.2.2.1.ws q hlt).mono M.out.2.1 (Nat.le_refl _)
   obtain ⟨vs, hbx, _, _, _, _, hrow⟩ := H.out.1.wy
   obtain ⟨b1, b2, b3, b4, b5, hr⟩ := hrow q hlt
   have HY0 : Hid (w.cell? ⟨yb, q * 5, none⟩ = some (.slice (some ⟨b1, 0, none⟩) (p.Y q).ns (p.Y q).ns) ∧ yb < w.heap.size) := ⟨(hbx.cell _).trans hr.c0, hbx.lt⟩
   clear hrow hbx hr
   obtain ⟨m, hm⟩ : ∃ m, Hid ((p.Y q).ns = m) := ⟨_, rfl⟩
   have hm1 : 1 ≤ m := by rw [← hm.out]; exact H.out.2.2.2 q hlt
   have hm2 : m ≤ 1048576 := by have := (H.out.2.1.2.2.1 q hlt).1; rw [hm.out] at this; omega
   rw [hm.out] at hwq HY0
   obtain ⟨TT, x, F, HTF, hvq, hna, hme, hC⟩ := held_any hm1 hm2 hwq
   have HTF2 : Hid ((TT = 155 ∧ F = 174) ∨ (TT = 157 ∧ F = 177) ∨ (TT = 158 ∧ F = 185) ∨ (TT = 160 ∧ F = 188) ∨ (TT = 163 ∧ F = 191)) := HTF
   obtain ⟨k, hke⟩ : ∃ k, Hid (WS.held m (S q) = k) := ⟨_, rfl⟩
   have HC : Hid (∀ W : World, Below wr.heap.size wr W → Calls Tryz.prog F #[x, .int .i64 (m : Int)] W fun e w' => HlR W k e w') := fun W hb => by
    rw [← hke.out]
    exact hC W (hwq.mono hb (Nat.le_refl _))
   have c0 : wr.cell? ⟨ib, q, none⟩ = some (.iface TT x) := by
    have h1 := H.out.2.2.1.own.cell (i := q) (j := 0) hlt (by omega)
    rw [Nat.mul_one, Nat.add_zero, hvq] at h1
    exact cell_keep M.out.2.1 hib h1
   have x2 : wr.cell? ⟨w.heap.size, 2, none⟩ = some (.slice (some ⟨yb, 0, none⟩) p.ny p.ny) := M.out.1.cell 2
   have y0 : wr.cell? ⟨yb, q * 5, none⟩ = some (.slice (some ⟨b1, 0, none⟩) m m) := cell_keep M.out.2.1 HY0.out.2 HY0.out.1
   have hq0 : (0 : Int) ≤ (q : Int) := by omega
   have hqn : (q : Int) < (p.ny : Int) := by omega
   clear HTF hC hwq
   have HKq : Hid ((fun i => WS.held (p.Y i).ns (S i)) q = k) := by
    show WS.held (p.Y q).ns (S q) = k
    rw [hm.out]
    exact hke.out
   have HW2 : Hid (∀ w2 rb cb, Below wr.heap.size wr w2 → Box w2 w.heap.size 73 #[.int .i64 p.sec, .slice (some ⟨wb, 0, none⟩) p.nw p.nw, .slice (some ⟨yb, 0, none⟩) p.ny p.ny, .slice (some ⟨bb, 0, none⟩) p.nb p.nb, .int .i64 p.hold, .slice oa no oc, .slice pa np pc, .slice (some ⟨ib, 0, none⟩) p.ny ic] ∧ Below w.heap.size w w2 ∧ w2.cell? ⟨yb, q * 5, none⟩ = some (.slice (some ⟨b1, 0, none⟩) m m) ∧ VOwn (w.heap.size + 1) 109 5 w2 (.slice ha q hc) q (hlG (fun i => WS.held (p.Y i).ns (S i)) (updN r q rb) (updN rc q cb)) ∧ w.heap.size + 1 ≤ w2.heap.size) := fun w2 rb cb hb2 => by
    have hB := M.out.2.1.trans (hb2.mono M.out.2.1.size)
    refine ⟨M.out.1.mono hb2 (Nat.le_refl _), hB, cell_keep hB HY0.out.2 HY0.out.1, (M.out.2.2.1.own.mono (Nat.le_refl _) hb2 (Nat.le_refl _)).congr fun i hi j _ => ?_, by have := M.out.1.lt; have := hb2.size; omega⟩
    simp only [hlG, updN_ne (show i ≠ q by omega)]
   have HVS : Hid (∀ rb cb, (#[.int .i64 k.st, .int .i64 k.gone, .slice (some ⟨rb, 0, none⟩) k.nb cb, .bool k.shown, .int .i64 k.timer] : Array Value).toList = (List.range 5).map (hlG (fun i => WS.held (p.Y i).ns (S i)) (updN r q rb) (updN rc q cb) q)) := fun rb cb => by
    simp only [← HKq.out]
    simp [hlG, List.range_succ, updN_same]
   have HAP : Hid (∀ w2 rb cb, Below wr.heap.size wr w2 → wr.heap.size ≤ rb → VOwn rb 4 1 w2 (.slice (some ⟨rb, 0, none⟩) k.nb cb) k.nb (boolF k.B) → ∀ g gc w4, VOwn (w.heap.size + 1) 109 5 w4 (.slice (some ⟨g, 0, none⟩) (q + 1) gc) (q + 1) (hlG (fun i => WS.held (p.Y i).ns (S i)) (updN r q rb) (updN rc q cb)) → World.grownBy (w2.alloc (.cells #[.int .i64 k.st, .int .i64 k.gone, .slice (some ⟨rb, 0, none⟩) k.nb cb, .bool k.shown, .int .i64 k.timer] 109)) w4 (Value.slice ha q hc).ownBlock → Box w4 w.heap.size 73 #[.int .i64 p.sec, .slice (some ⟨wb, 0, none⟩) p.nw p.nw, .slice (some ⟨yb, 0, none⟩) p.ny p.ny, .slice (some ⟨bb, 0, none⟩) p.nb p.nb, .int .i64 p.hold, .slice oa no oc, .slice pa np pc, .slice (some ⟨ib, 0, none⟩) p.ny ic] ∧ Below w.heap.size w w4 ∧ HsG (w.heap.size + 1) w4 (.slice (some ⟨g, 0, none⟩) (q + 1) gc) (q + 1) (fun i => WS.held (p.Y i).ns (S i)) (updN r q rb) (updN rc q cb) ∧ ∀ i, i < (q + 1) → ((updN r q rb)) i < w4.heap.size) := fun w2 rb cb hb2 hrb hv g gc w4 hq4 hg4 => by
    have hba : Below wr.heap.size wr (w2.alloc (.cells #[.int .i64 k.st, .int .i64 k.gone, .slice (some ⟨rb, 0, none⟩) k.nb cb, .bool k.shown, .int .i64 k.timer] 109)) := hb2.trans ((bel1 w2 _).mono hb2.size)
    have hown := M.out.2.2.1.mono hba (Nat.le_refl _)
    have hbx := M.out.1.mono hba (Nat.le_refl _)
    have hB := M.out.2.1.trans (hba.mono M.out.2.1.size)
    have hva := hv.alloc (.cells #[.int .i64 k.st, .int .i64 k.gone, .slice (some ⟨rb, 0, none⟩) k.nb cb, .bool k.shown, .int .i64 k.timer] 109)
    refine ⟨hbx.grown hg4 fun e => hown.own.off hbx (by decide) e rfl, hB.trans (Below.of_grown hg4 hB.size fun g e => by have := (hown.own.lt e).1; omega), hown.app hq4 hg4 (by rw [show WS.held (p.Y q).ns (S q) = k from HKq.out]; exact hva.keep (by have := M.out.1.lt; omega) fun _ _ => rfl) (fun i hi => by have := M.out.2.2.2 i hi; omega), fun i hi => ?_⟩
    have hz := hg4.size
    by_cases c : i = q
    ·
     subst c
     rw [updN_same]
     have := (hva.lt (g := rb) rfl).2
     omega
    ·
     rw [updN_ne c]
     have h1 := M.out.2.2.2 i (by omega)
     have h2 := hba.size
     omega
   have MD : Hid (Below wr.heap.size wr wr.drew) := (Below.refl _ _).drew
   have hql2 : q + 1 ≤ maxLen := by simp only [maxLen]; omega
   have hqb : (q + 1) * 56 ≤ 140737488355328 := by omega
   have HP2 : Hid (∀ w2 rb cb, Below wr.heap.size wr w2 → w2.cell? ⟨w.heap.size, 2, none⟩ = some (.slice (some ⟨yb, 0, none⟩) p.ny p.ny) ∧ w2.cell? ⟨yb, q * 5, none⟩ = some (.slice (some ⟨b1, 0, none⟩) m m)) := fun w2 rb cb hb => ⟨(HW2.out w2 rb cb hb).1.cell 2, (HW2.out w2 rb cb hb).2.2.1⟩
   clear M
   go_wp2_with fail
   rcases HTF2.out with ⟨rfl, rfl⟩ | ⟨rfl, rfl⟩ | ⟨rfl, rfl⟩ | ⟨rfl, rfl⟩ | ⟨rfl, rfl⟩
   all_goals clear HTF2
   all_goals go_region_held3 (fun wx : World => wx.cell? ⟨w.heap.size, 2, none⟩ = some (.slice (some ⟨yb, 0, none⟩) p.ny p.ny) ∧ wx.cell? ⟨yb, q * 5, none⟩ = some (.slice (some ⟨b1, 0, none⟩) m m)) (go_keep) (first
    | (refine (HC.out _ MD.out).mono ?_; rintro e w2 ⟨rb, cb, rfl, hrb, hv2, hb2⟩; have B2 : Below wr.heap.size wr w2 := MD.out.trans (hb2.mono MD.out.size); have B3 : Below wr.heap.size wr (w2.alloc (.cells #[.int .i64 k.st, .int .i64 k.gone, .slice (some ⟨rb, 0, none⟩) k.nb cb, .bool k.shown, .int .i64 k.timer] 109)) := B2.trans ((bel1 w2 _).mono B2.size); have n2 := (HP2.out w2 rb cb B2).1; have n0 := (HP2.out w2 rb cb B2).2; have p2 := (HP2.out _ rb cb B3).1; have p0 := (HP2.out _ rb cb B3).2)
    | (have hB3' := B3; refine step_vapp _ (by rfl) _ _ 40 (by rfl) (w.heap.size + 1) 109 i1 _ 5 56 Tryz.underlying40 hi1 hz1 hs1 hb1 rfl (by omega) (.slice ha q hc) q (hlG (fun i => WS.held (p.Y i).ns (S i)) (updN r q rb) (updN rc q cb)) (by rfl) (HW2.out _ rb cb B3).2.2.2.1 (hlG_one _ _ _) w2.heap.size 1 #[.int .i64 k.st, .int .i64 k.gone, .slice (some ⟨rb, 0, none⟩) k.nb cb, .bool k.shown, .int .i64 k.timer] (by rfl) (Box.new w2 109 _) (HVS.out rb cb) hql2 hqb (HW2.out _ rb cb B3).2.2.2.2 ?_; intro g gc w4 hv4 hg4; have M4 := HAP.out w2 rb cb B2 (Nat.le_trans MD.out.size hrb) hv2 g gc w4 hv4 ⟨hg4.os, hg4.tape, hg4.output, hg4.size, hg4.block⟩; have r2 : w4.cell? ⟨w.heap.size, 2, none⟩ = some (.slice (some ⟨yb, 0, none⟩) p.ny p.ny) := M4.1.cell 2; have r0 : w4.cell? ⟨yb, q * 5, none⟩ = some (.slice (some ⟨b1, 0, none⟩) m m) := cell_keep M4.2.1 HY0.out.2 HY0.out.1))
   all_goals
    have M5 : Hid (_ ∧ _ ∧ _ ∧ _) := M4
    clear HW2 HVS HAP n2 n0 p2 p0 r2 r0 B2 B3 hv2 hb2 hv4 hg4 M4
    go_wp2_with fail
    go_roundw
    case rel => exact ⟨q + 1, _, _, _, _, by omega, by go_num, rfl, M5⟩
    case measure => simp [intOf]; omega
  ·
   obtain rfl : q = p.ny := by omega
   have HR : Hid (HdG p S w (.returned (.slice ha p.ny hc)) wr) := ⟨ha, hc, r, rc, rfl, ⟨M.out.2.2.1.own.keep (by omega) fun _ _ => rfl, fun i hi => (M.out.2.2.1.row i hi).keep (by omega) fun _ _ => rfl, M.out.2.2.1.inj⟩, M.out.2.1⟩
   clear M
   go_wp2_with fail
   go_ret
   exact HR.out
end Go.Proofs.YtlgapgajgpilgaaGreatDoor
namespace Go.Proofs.YtlgapgajgpilgaaGreatDoor
open Go.RowKit Go.Lib
set_option maxHeartbeats 2000000 in
theorem equal115 (a a' : Option Addr) (n c c' : Nat) (B B' : Nat → Bool) (w : World) (hn : n ≤ 1048576) (h : VsAt 1 0 w a n (boolF B)) (h' : VsAt 1 0 w a' n (boolF B')) :
  Calls Tryz.prog 111 #[.slice a n c, .slice a' n c'] w fun e w' => e = .returned (.bool (allB (fun j => decide (B j = B' j)) n)) ∧ Below w.heap.size w w' := by
 obtain ⟨R, HR⟩ : ∃ R, Hid (allB (fun j => decide (B j = B' j)) n = R) := ⟨_, rfl⟩
 rw [HR.out]
 go_enter Tryz.func111, Tryz.ntmps111
 go_wp2_with fail
 go_loopw [13] (fun i wr => ∃ k : Nat, k ≤ n ∧ i = .int .i64 (k : Int) ∧ Hid (∀ j, j < k → B j = B' j) ∧ Below w.heap.size w wr) (fun i _ => n - (intOf i).toNat)
 case atStart => exact ⟨0, Nat.zero_le _, rfl, fun i hi => absurd hi (Nat.not_lt_zero _), Below.refl _ _⟩
 case round =>
  obtain ⟨k, hk, rfl, HK, hbel⟩ := hrel
  by_cases hlt : k < n
  ·
   obtain ⟨b, off, rfl, _, hb, hc⟩ := (h.mono (Nat.le_refl _) hbel (Nat.le_refl _)) (by omega)
   obtain ⟨b', off', rfl, _, hb', hc'⟩ := (h'.mono (Nat.le_refl _) hbel (Nat.le_refl _)) (by omega)
   have c0 : wr.cell? ⟨b, off + k, none⟩ = some (.bool (B k)) := by have := hc k hlt 0 (by omega); rwa [Nat.mul_one] at this
   have d0 : wr.cell? ⟨b', off' + k, none⟩ = some (.bool (B' k)) := by have := hc' k hlt 0 (by omega); rwa [Nat.mul_one] at this
   have hlt' : (k : Int) < (n : Int) := by omega
   have hk0 : (0 : Int) ≤ (k : Int) := by omega
   have HNO : Hid (B k ≠ B' k → R = false) := fun e => by rw [← HR.out, allB_no hlt (by simpa using e)]
   have HGO : Hid (B k = B' k → ∀ j, j < k + 1 → B j = B' j) := fun e j hj => by
    by_cases c : j = k
    ·
     subst c
     exact e
    ·
     exact HK.out j (by omega)
   clear hc hc'
   cases h1 : B k with
   | true =>
    cases h2 : B' k with
    | true =>
     rw [h1] at c0
     rw [h2] at d0
     have HX := HGO.out (by rw [h1, h2])
     go_wp2_with fail
     go_quiet (fail)
     go_wp2_with fail
     go_roundw
     case rel => exact ⟨k + 1, by omega, by go_num, HX, below_drewN hbel _⟩
     case measure => simp [intOf]; omega
    | false =>
     rw [h1] at c0
     rw [h2] at d0
     have HX : Hid (R = false) := HNO.out (by rw [h1, h2]; simp)
     go_wp2_with fail
     go_quiet (fail)
     go_wp2_with fail
     go_ret
     exact ⟨by rw [HX.out]; rfl, below_drewN hbel _⟩
   | false =>
    cases h2 : B' k with
    | false =>
     rw [h1] at c0
     rw [h2] at d0
     have HX := HGO.out (by rw [h1, h2])
     go_wp2_with fail
     go_quiet (fail)
     go_wp2_with fail
     go_roundw
     case rel => exact ⟨k + 1, by omega, by go_num, HX, below_drewN hbel _⟩
     case measure => simp [intOf]; omega
    | true =>
     rw [h1] at c0
     rw [h2] at d0
     have HX : Hid (R = false) := HNO.out (by rw [h1, h2]; simp)
     go_wp2_with fail
     go_quiet (fail)
     go_wp2_with fail
     go_ret
     exact ⟨by rw [HX.out]; rfl, below_drewN hbel _⟩
  ·
   obtain rfl : k = n := by omega
   have HX : Hid (R = true) := by
    rw [Hid, ← HR.out]
    exact allB_iff.2 fun j hj => by simpa using HK.out j hj
   go_wp2_with fail
   go_ret
   exact ⟨by rw [HX.out]; rfl, hbel⟩
set_option maxRecDepth 100000 in
set_option maxHeartbeats 4000000 in
theorem sameHeld84 (x y : Hl) (xa ya : Option Addr) (xc yc : Nat) (w : World) (hnb : y.nb = x.nb) (hn : x.nb ≤ 1048576) (hx : VsAt 1 0 w xa x.nb (boolF x.B)) (hy : VsAt 1 0 w ya y.nb (boolF y.B)) :
  Calls Tryz.prog 82 #[.agg #[.int .i64 x.st, .int .i64 x.gone, .slice xa x.nb xc, .bool x.shown, .int .i64 x.timer], .agg #[.int .i64 y.st, .int .i64 y.gone, .slice ya y.nb yc, .bool y.shown, .int .i64 y.timer]] w fun e w' => e = .returned (.bool (sameB x y)) ∧ Below w.heap.size w w' := by
 obtain ⟨xs, xg, nb0, xB, xsh, xt⟩ := x
 obtain ⟨ys, yg, nb, yB, ysh, yt⟩ := y
 dsimp only at hnb hn hx hy ⊢
 subst hnb
 obtain ⟨R, HR⟩ : ∃ R, Hid (sameB ⟨xs, xg, nb, xB, xsh, xt⟩ ⟨ys, yg, nb, yB, ysh, yt⟩ = R) := ⟨_, rfl⟩
 rw [HR.out]
 have HR2 : Hid ((decide (xs = ys) && (decide (xg = yg) && (decide (xsh = ysh) && (decide (xt = yt) && allB (fun j => decide (xB j = yB j)) nb)))) = R) := HR.out
 have H : Hid (VsAt 1 0 w xa nb (boolF xB) ∧ VsAt 1 0 w ya nb (boolF yB)) := ⟨hx, hy⟩
 have S0 : Hid (Below w.heap.size w ((w.alloc (.cells #[.int .i64 xs, .int .i64 xg, .slice xa nb xc, .bool xsh, .int .i64 xt] 109)).alloc (.cells #[.int .i64 ys, .int .i64 yg, .slice ya nb yc, .bool ysh, .int .i64 yt] 109)) ∧ Box ((w.alloc (.cells #[.int .i64 xs, .int .i64 xg, .slice xa nb xc, .bool xsh, .int .i64 xt] 109)).alloc (.cells #[.int .i64 ys, .int .i64 yg, .slice ya nb yc, .bool ysh, .int .i64 yt] 109)) w.heap.size 109 #[.int .i64 xs, .int .i64 xg, .slice xa nb xc, .bool xsh, .int .i64 xt] ∧ Box ((w.alloc (.cells #[.int .i64 xs, .int .i64 xg, .slice xa nb xc, .bool xsh, .int .i64 xt] 109)).alloc (.cells #[.int .i64 ys, .int .i64 yg, .slice ya nb yc, .bool ysh, .int .i64 yt] 109)) (w.heap.size + 1) 109 #[.int .i64 ys, .int .i64 yg, .slice ya nb yc, .bool ysh, .int .i64 yt]) := ⟨bel2 _ _ _, (Box.new _ _ _).alloc _, by have := Box.new (w.alloc (.cells #[.int .i64 xs, .int .i64 xg, .slice xa nb xc, .bool xsh, .int .i64 xt] 109)) 109 #[.int .i64 ys, .int .i64 yg, .slice ya nb yc, .bool ysh, .int .i64 yt]; simpa using this⟩
 clear hx hy HR
 by_cases e0 : xs = ys
 rotate_left
 ·
  have z0 : (xs == ys) = false := by simpa using e0
  have HX : Hid (R = false) := by rw [Hid, ← HR2.out]; simp [e0]
  go_enter Tryz.func82, Tryz.ntmps82
  go_wp2_with fail
  go_ret
  exact ⟨by rw [HX.out]; rfl, S0.out.1⟩
 subst e0
 by_cases e1 : xg = yg
 rotate_left
 ·
  have z0 : (xg == yg) = false := by simpa using e1
  have HX : Hid (R = false) := by rw [Hid, ← HR2.out]; simp [e1]
  go_enter Tryz.func82, Tryz.ntmps82
  go_wp2_with fail
  go_ret
  exact ⟨by rw [HX.out]; rfl, S0.out.1⟩
 subst e1
 have z0 : (xs == xs) = true := by simp
 have z1 : (xg == xg) = true := by simp
 go_enter Tryz.func82, Tryz.ntmps82
 go_wp2_with fail
 generalize ((w.alloc (.cells #[.int .i64 xs, .int .i64 xg, .slice xa nb xc, .bool xsh, .int .i64 xt] 109)).alloc (.cells #[.int .i64 xs, .int .i64 xg, .slice ya nb yc, .bool ysh, .int .i64 yt] 109)) = W at S0 ⊢
 refine (equal115 xa ya nb xc yc xB yB W hn (H.out.1.mono (Nat.le_refl _) S0.out.1 (Nat.le_refl _)) (H.out.2.mono (Nat.le_refl _) S0.out.1 (Nat.le_refl _))).mono ?_
 rintro e w1 ⟨he, hb1⟩
 have S1 : Hid (Below w.heap.size w w1 ∧ Box w1 w.heap.size 109 #[.int .i64 xs, .int .i64 xg, .slice xa nb xc, .bool xsh, .int .i64 xt] ∧ Box w1 (w.heap.size + 1) 109 #[.int .i64 xs, .int .i64 xg, .slice ya nb yc, .bool ysh, .int .i64 yt]) := ⟨S0.out.1.trans (hb1.mono S0.out.1.size), S0.out.2.1.mono hb1 (Nat.le_refl _), S0.out.2.2.mono hb1 (Nat.le_refl _)⟩
 clear hb1 S0
 have u3 : w1.cell? ⟨w.heap.size, 3, none⟩ = some (.bool xsh) := S1.out.2.1.cell 3
 have u4 : w1.cell? ⟨w.heap.size, 4, none⟩ = some (.int .i64 xt) := S1.out.2.1.cell 4
 have v3 : w1.cell? ⟨w.heap.size + 1, 3, none⟩ = some (.bool ysh) := S1.out.2.2.cell 3
 have v4 : w1.cell? ⟨w.heap.size + 1, 4, none⟩ = some (.int .i64 yt) := S1.out.2.2.cell 4
 cases hA : allB (fun j => decide (xB j = yB j)) nb with
 | false =>
  rw [hA] at he
  subst he
  have HX : Hid (R = false) := by rw [Hid, ← HR2.out, hA]; simp
  go_wp2_with fail
  go_ret
  exact ⟨by rw [HX.out]; rfl, S1.out.1⟩
 | true =>
  rw [hA] at he
  subst he
  have HR3 : Hid ((decide (xsh = ysh) && decide (xt = yt)) = R) := by rw [Hid, ← HR2.out, hA]; simp
  by_cases e4 : xt = yt
  ·
   subst e4
   have z4 : (xt == xt) = true := by simp
   cases xsh with
   | true =>
    cases ysh with
    | true =>
     have HX : Hid (R = true) := by rw [Hid, ← HR3.out]; simp
     go_wp2_with fail
     go_ret
     exact ⟨by rw [HX.out]; rfl, S1.out.1⟩
    | false =>
     have HX : Hid (R = false) := by rw [Hid, ← HR3.out]; simp
     go_wp2_with fail
     go_ret
     exact ⟨by rw [HX.out]; rfl, S1.out.1⟩
   | false =>
    cases ysh with
    | false =>
     have HX : Hid (R = true) := by rw [Hid, ← HR3.out]; simp
     go_wp2_with fail
     go_ret
     exact ⟨by rw [HX.out]; rfl, S1.out.1⟩
    | true =>
     have HX : Hid (R = false) := by rw [Hid, ← HR3.out]; simp
     go_wp2_with fail
     go_ret
     exact ⟨by rw [HX.out]; rfl, S1.out.1⟩
  ·
   have z4 : (xt == yt) = false := by simpa using e4
   have HX : Hid (R = false) := by rw [Hid, ← HR3.out]; simp [e4]
   cases xsh <;> cases ysh
   all_goals
    go_wp2_with fail
    go_ret
    exact ⟨by rw [HX.out]; rfl, S1.out.1⟩
theorem HsG.hs {B : Nat} {w : World} {a : Option Addr} {n cap : Nat} {Y : Nat → Hl} {r rc : Nat → Nat} (h : HsG B w (.slice a n cap) n Y r rc) : HsAt 0 w a n Y := by
 intro h0
 obtain ⟨b, off, e, _, hlt, hc⟩ := h.own.vs h0
 exact ⟨b, off, e, Nat.zero_le _, hlt, fun i hi => ⟨_, _, hc i hi 0 (by omega), hc i hi 1 (by omega), hc i hi 2 (by omega), hc i hi 3 (by omega), hc i hi 4 (by omega), (h.row i hi).vs.le (Nat.zero_le _)⟩⟩
set_option maxRecDepth 100000 in
set_option maxHeartbeats 4000000 in
theorem equalFunc82 (a a' : Option Addr) (n c c' : Nat) (X Y : Nat → Hl) (w : World) (hn : n ≤ 1048576) (hb : ∀ i, i < n → (Y i).nb = (X i).nb ∧ (X i).nb ≤ 1048576) (h : HsAt 0 w a n X) (h' : HsAt 0 w a' n Y) :
  Calls Tryz.prog 79 #[.slice a n c, .slice a' n c', .func (.func 82) #[] #[]] w fun e w' => e = .returned (.bool (allB (fun i => sameB (X i) (Y i)) n)) ∧ Below w.heap.size w w' := by
 obtain ⟨R, HR⟩ : ∃ R, Hid (allB (fun i => sameB (X i) (Y i)) n = R) := ⟨_, rfl⟩
 rw [HR.out]
 have H : Hid (HsAt 0 w a n X ∧ HsAt 0 w a' n Y ∧ ∀ i, i < n → (Y i).nb = (X i).nb ∧ (X i).nb ≤ 1048576) := ⟨h, h', hb⟩
 clear h h' hb
 go_enter Tryz.func79, Tryz.ntmps79
 go_wp2_with fail
 go_loopw [17] (fun i wr => ∃ q : Nat, q ≤ n ∧ i = .int .i64 (q : Int) ∧ Hid (∀ j, j < q → sameB (X j) (Y j) = true) ∧ Below w.heap.size w wr) (fun i _ => n - (intOf i).toNat)
 case atStart => exact ⟨0, Nat.zero_le _, rfl, fun i hi => absurd hi (Nat.not_lt_zero _), Below.refl _ _⟩
 case round =>
  obtain ⟨q, hq, rfl, HQ, hbel⟩ := hrel
  by_cases hlt : q < n
  ·
   obtain ⟨b, off, rfl, _, hbb, hc⟩ := H.out.1.mono (Nat.le_refl _) hbel (Nat.le_refl _) (by omega)
   obtain ⟨b', off', rfl, _, hbb', hc'⟩ := H.out.2.1.mono (Nat.le_refl _) hbel (Nat.le_refl _) (by omega)
   obtain ⟨xa, xc, x0, x1, x2, x3, x4, hxv⟩ := hc q hlt
   obtain ⟨ya, yc, y0, y1, y2, y3, y4, hyv⟩ := hc' q hlt
   have HV : Hid (VsAt 1 0 wr xa (X q).nb (boolF (X q).B) ∧ VsAt 1 0 wr ya (Y q).nb (boolF (Y q).B)) := ⟨hxv, hyv⟩
   have hq0 : (0 : Int) ≤ (q : Int) := by omega
   have hqn : (q : Int) < (n : Int) := by omega
   have HNO : Hid (sameB (X q) (Y q) = false → R = false) := fun e => by rw [← HR.out, allB_no hlt e]
   have HGO : Hid (sameB (X q) (Y q) = true → ∀ j, j < q + 1 → sameB (X j) (Y j) = true) := fun e j hj => by
    by_cases c : j = q
    ·
     subst c
     exact e
    ·
     exact HQ.out j (by omega)
   have B2 : Hid (Below wr.heap.size wr ((wr.alloc (.cells #[.int .i64 (X q).st, .int .i64 (X q).gone, .slice xa (X q).nb xc, .bool (X q).shown, .int .i64 (X q).timer] 109)).alloc (.cells #[.int .i64 (Y q).st, .int .i64 (Y q).gone, .slice ya (Y q).nb yc, .bool (Y q).shown, .int .i64 (Y q).timer] 109)) ∧ Below w.heap.size w ((wr.alloc (.cells #[.int .i64 (X q).st, .int .i64 (X q).gone, .slice xa (X q).nb xc, .bool (X q).shown, .int .i64 (X q).timer] 109)).alloc (.cells #[.int .i64 (Y q).st, .int .i64 (Y q).gone, .slice ya (Y q).nb yc, .bool (Y q).shown, .int .i64 (Y q).timer] 109))) := ⟨bel2 _ _ _, hbel.trans ((bel2 wr _ _).mono hbel.size)⟩
   clear hc hc' hxv hyv
   go_wp2_with fail
   generalize ((wr.alloc (.cells #[.int .i64 (X q).st, .int .i64 (X q).gone, .slice xa (X q).nb xc, .bool (X q).shown, .int .i64 (X q).timer] 109)).alloc (.cells #[.int .i64 (Y q).st, .int .i64 (Y q).gone, .slice ya (Y q).nb yc, .bool (Y q).shown, .int .i64 (Y q).timer] 109)) = W at B2 ⊢
   clear x0 x1 x2 x3 x4 y0 y1 y2 y3 y4
   refine (sameHeld84 (X q) (Y q) xa ya xc yc W (H.out.2.2 q hlt).1 (H.out.2.2 q hlt).2 (HV.out.1.mono (Nat.le_refl _) B2.out.1 (Nat.le_refl _)) (HV.out.2.mono (Nat.le_refl _) B2.out.1 (Nat.le_refl _))).mono ?_
   rintro e w1 ⟨he, hb1⟩
   have B3 := B2.out.2.trans (hb1.mono B2.out.2.size)
   cases hS : sameB (X q) (Y q) with
   | true =>
    rw [hS] at he
    subst he
    have HX := HGO.out hS
    go_wp2_with fail
    go_roundw
    case rel => exact ⟨q + 1, by omega, by go_num, HX, B3⟩
    case measure => simp [intOf]; omega
   | false =>
    rw [hS] at he
    subst he
    have HX : Hid (R = false) := HNO.out hS
    go_wp2_with fail
    go_ret
    exact ⟨by rw [HX.out]; rfl, B3⟩
  ·
   obtain rfl : q = n := by omega
   have HX : Hid (R = true) := by rw [Hid, ← HR.out]; exact allB_iff.2 HQ.out
   go_wp2_with fail
   go_ret
   exact ⟨by rw [HX.out]; rfl, hbel⟩
end Go.Proofs.YtlgapgajgpilgaaGreatDoor
