import Derived.Test.YtjhmaofjmalglaaGreatZbj
import Derived.Test.YtjhmaofjmalglaaGreatZbm
namespace Go.Proofs.YtjhmaofjmalglaaGreat
open Go.RowKit Go.Lib
def TmR (w : World) (fq : Nat) (fa fw lg : Int) (nb : Nat) (B : Nat → Nat → Int) (h : Nat → Int) (e : Ending) (w' : World) : Prop := ∃ (z : Nat) (a : Option Addr) (c : Nat), e = .returned (.agg #[.int .i64 (fq : Int), .int .i64 fa, .int .i64 fw, .int .i64 lg, .slice a z c]) ∧ (z ≤ nb ∧ (∀ q, q < z → h q < lg) ∧ (z < nb → lg ≤ h z)) ∧ VOwn w.heap.size 74 2 w' (.slice a z c) z (intF B) ∧ Below w.heap.size w w'
set_option maxRecDepth 100000 in
set_option maxHeartbeats 16000000 in
theorem trim108 {v : Nv} (ok : v.Ok) (pa : Option Addr) (pc : Nat) (ja : Option Addr) (jc : Nat) (fq : Nat) (fa fw lg : Int) (nb : Nat) (B : Nat → Nat → Int) (ba : Option Addr) (bk : Nat) (w : World) (hP : PsAt 0 w pa v.n v.P) (hsp : spotB v (fq : Int) fa fw = true) (hlg : 1 ≤ lg ∧ lg ≤ 100000) (hnb : nb ≤ 201) (hst : ∀ i, i < nb → stepB v (B i 0) (B i 1) = true) (hB : NsAt 2 0 w ba nb B) :
  Calls Tryz.prog 108 #[.agg #[.slice pa v.n pc, .slice ja v.m jc], .agg #[.int .i64 (fq : Int), .int .i64 fa, .int .i64 fw, .int .i64 lg, .slice ba nb bk]] w fun e w' => TmR w fq fa fw lg nb B (hvF v (fq : Int) fa fw B) e w' := by
 obtain ⟨fq', hfe, hfq, hfw, hfa⟩ := spot_nat hsp
 obtain rfl : fq = fq' := by omega
 clear hfe
 obtain ⟨i0, hi0, hz0, hs0, hb0⟩ := info_parts infoStepZ
 have hvn := ok.n1
 have H : Hid (v.Ok ∧ PsAt 0 w pa v.n v.P ∧ NsAt 2 0 w ba nb B ∧ (∀ i, i < nb → stepB v (B i 0) (B i 1) = true) ∧ spotB v (fq : Int) fa fw = true) := ⟨ok, hP, hB, hst, hsp⟩
 obtain ⟨pb, po, rfl, _, hpb, hpc⟩ := hP (by omega)
 have HPC : Hid (∀ q, q < v.n → pb < w.heap.size ∧ w.cell? ⟨pb, po + q * 4 + 1, none⟩ = some (.int .i64 (v.P q).ln)) := fun q hq => ⟨hpb, (hpc q hq).2.1⟩
 have HF0 : Hid (farI (v.P fq).ln fa fw = hvF v (fq : Int) fa fw B 0) := by show _ = _; rw [hvF, Int.toNat_natCast]
 have S0 : Hid (Below w.heap.size w (((w.alloc (.cells #[.slice (some ⟨pb, po, none⟩) v.n pc, .slice ja v.m jc] 40)).alloc (.cells #[.int .i64 (fq : Int), .int .i64 fa, .int .i64 fw, .int .i64 lg, .slice ba nb bk] 33)).alloc (.cells #[.int .i64 0, .int .i64 0, .int .i64 0, .int .i64 0, .slice none 0 0] 33)) ∧ Box (((w.alloc (.cells #[.slice (some ⟨pb, po, none⟩) v.n pc, .slice ja v.m jc] 40)).alloc (.cells #[.int .i64 (fq : Int), .int .i64 fa, .int .i64 fw, .int .i64 lg, .slice ba nb bk] 33)).alloc (.cells #[.int .i64 0, .int .i64 0, .int .i64 0, .int .i64 0, .slice none 0 0] 33)) (w.heap.size) 40 #[.slice (some ⟨pb, po, none⟩) v.n pc, .slice ja v.m jc] ∧ Box (((w.alloc (.cells #[.slice (some ⟨pb, po, none⟩) v.n pc, .slice ja v.m jc] 40)).alloc (.cells #[.int .i64 (fq : Int), .int .i64 fa, .int .i64 fw, .int .i64 lg, .slice ba nb bk] 33)).alloc (.cells #[.int .i64 0, .int .i64 0, .int .i64 0, .int .i64 0, .slice none 0 0] 33)) (w.heap.size + 1) 33 #[.int .i64 (fq : Int), .int .i64 fa, .int .i64 fw, .int .i64 lg, .slice ba nb bk] ∧ Box (((w.alloc (.cells #[.slice (some ⟨pb, po, none⟩) v.n pc, .slice ja v.m jc] 40)).alloc (.cells #[.int .i64 (fq : Int), .int .i64 fa, .int .i64 fw, .int .i64 lg, .slice ba nb bk] 33)).alloc (.cells #[.int .i64 0, .int .i64 0, .int .i64 0, .int .i64 0, .slice none 0 0] 33)) (w.heap.size + 1 + 1) 33 #[.int .i64 0, .int .i64 0, .int .i64 0, .int .i64 0, .slice none 0 0]) := ⟨((Below.refl _ _).alloc nr _ |>.alloc (by simp) _ |>.alloc (by simp; omega) _), (((Box.new w 40 #[.slice (some ⟨pb, po, none⟩) v.n pc, .slice ja v.m jc]).alloc (.cells #[.int .i64 (fq : Int), .int .i64 fa, .int .i64 fw, .int .i64 lg, .slice ba nb bk] 33)).alloc (.cells #[.int .i64 0, .int .i64 0, .int .i64 0, .int .i64 0, .slice none 0 0] 33)), by have := ((Box.new (w.alloc (.cells #[.slice (some ⟨pb, po, none⟩) v.n pc, .slice ja v.m jc] 40)) 33 #[.int .i64 (fq : Int), .int .i64 fa, .int .i64 fw, .int .i64 lg, .slice ba nb bk]).alloc (.cells #[.int .i64 0, .int .i64 0, .int .i64 0, .int .i64 0, .slice none 0 0] 33)); simpa using this, by have := (Box.new ((w.alloc (.cells #[.slice (some ⟨pb, po, none⟩) v.n pc, .slice ja v.m jc] 40)).alloc (.cells #[.int .i64 (fq : Int), .int .i64 fa, .int .i64 fw, .int .i64 lg, .slice ba nb bk] 33)) 33 #[.int .i64 0, .int .i64 0, .int .i64 0, .int .i64 0, .slice none 0 0]); simpa using this⟩
 clear ok hP hB hst hsp hpb hpc
 go_enter Tryz.func108, Tryz.ntmps108
 go_upto_region 1 with fail
 generalize (((w.alloc (.cells #[.slice (some ⟨pb, po, none⟩) v.n pc, .slice ja v.m jc] 40)).alloc (.cells #[.int .i64 (fq : Int), .int .i64 fa, .int .i64 fw, .int .i64 lg, .slice ba nb bk] 33)).alloc (.cells #[.int .i64 0, .int .i64 0, .int .i64 0, .int .i64 0, .slice none 0 0] 33)) = V0 at S0 ⊢
 have x0 := S0.out.2.1.cel 0
 have x1 := S0.out.2.1.cel 1
 have y0 := S0.out.2.2.1.cel 0
 have y1 := S0.out.2.2.1.cel 1
 have y2 := S0.out.2.2.1.cel 2
 have y3 := S0.out.2.2.1.cel 3
 have y4 := S0.out.2.2.1.cel 4
 have z0 := S0.out.2.2.2.cel 0
 have z1 := S0.out.2.2.2.cel 1
 have z2 := S0.out.2.2.2.cel 2
 have z3 := S0.out.2.2.2.cel 3
 have z4 := S0.out.2.2.2.cel 4
 go_wp2_with fail
 clear x0 x1 y0 y1 y2 y3 y4 z0 z1 z2 z3 z4
 refine (behind63 H.out.1 (some ⟨pb, po, none⟩) pc ja jc fq fa fw V0 hfq hfa (H.out.2.1.mono nr S0.out.1 nr)).mono ?_
 rintro e w1 ⟨rfl, hb⟩
 have MA66 : Hid (Below w.heap.size w w1 ∧ Box w1 (w.heap.size) 40 #[.slice (some ⟨pb, po, none⟩) v.n pc, .slice ja v.m jc] ∧ Box w1 (w.heap.size + 1) 33 #[.int .i64 (fq : Int), .int .i64 fa, .int .i64 fw, .int .i64 lg, .slice ba nb bk] ∧ Box w1 (w.heap.size + 1 + 1) 33 #[.int .i64 0, .int .i64 0, .int .i64 0, .int .i64 0, .slice none 0 0]) := ⟨S0.out.1.trans (hb.mono S0.out.1.size), S0.out.2.1.mono hb nr, S0.out.2.2.1.mono hb nr, S0.out.2.2.2.mono hb nr⟩
 clear hb S0
 have x0 := MA66.out.2.2.1.cel 0
 have x1 := MA66.out.2.2.1.cel 1
 have x2 := MA66.out.2.2.1.cel 2
 have x3 := MA66.out.2.2.1.cel 3
 have x4 := MA66.out.2.2.1.cel 4
 go_wp2_with fail
 clear x0 x1 x2 x3 x4
 go_loopw [5, 6, 16] (fun l u c wr => ∃ (k : Nat) (x : Int) (oa : Option Addr) (oc : Nat), k ≤ nb ∧ c = .int .i64 k ∧ l = .int .i64 x ∧ u = .slice oa k oc ∧ Hid (x = hvF v (fq : Int) fa fw B k) ∧ Hid (∀ q, q < k → hvF v (fq : Int) fa fw B q < lg) ∧ Hid (Below w.heap.size w wr ∧ Box wr (w.heap.size) 40 #[.slice (some ⟨pb, po, none⟩) v.n pc, .slice ja v.m jc] ∧ Box wr (w.heap.size + 1) 33 #[.int .i64 (fq : Int), .int .i64 fa, .int .i64 fw, .int .i64 lg, .slice ba nb bk] ∧ Box wr (w.heap.size + 1 + 1) 33 #[.int .i64 0, .int .i64 0, .int .i64 0, .int .i64 0, .slice none 0 0] ∧ VOwn w.heap.size 74 2 wr (.slice oa k oc) k (intF B))) (fun _ _ c _ => nb - (intOf c).toNat)
 case atStart => exact ⟨0, _, none, 0, Nat.zero_le _, rfl, rfl, rfl, HF0, fun q hq => absurd hq (Nat.not_lt_zero _), ⟨MA66.out.1, MA66.out.2.1, MA66.out.2.2.1, MA66.out.2.2.2, VOwn.nil _ _ _ _ _⟩⟩
 case round =>
  clear MA66
  obtain ⟨k, x, oa, oc, hk, rfl, rfl, rfl, HX, HK, T⟩ := hrel
  have hbd : 0 ≤ x ∧ x ≤ 3000000000 := by
   have h9 := hv_bnd H.out.1 H.out.2.2.2.2 k fun i hi => H.out.2.2.2.1 i (by omega)
   rw [← HX.out] at h9
   omega
  by_cases hlt : k < nb
  ·
   obtain ⟨bb, bo, hbe, _, hbl, hbc⟩ := H.out.2.2.1 (by omega)
   obtain ⟨sp, HSP, hspn, _⟩ : ∃ q : Nat, Hid (B k 0 = (q : Int)) ∧ q < v.n ∧ (B k 1 = 1 ∨ B k 1 = -1) := step_nat (H.out.2.2.2.1 k hlt)
   obtain ⟨wy, HWY⟩ : ∃ q, Hid (B k 1 = q) := ⟨_, rfl⟩
   have hk0 : (0 : Int) ≤ (k : Int) := by omega
   have hkn : (k : Int) < (nb : Int) := by omega
   have hsp0 : (0 : Int) ≤ (sp : Int) := by omega
   have hspi : (sp : Int) < (v.n : Int) := by omega
   have d0 : wr.cell? ⟨bb, bo + k * 2, none⟩ = some (.int .i64 (sp : Int)) := cell_keep T.out.1 hbl (by have := hbc k hlt 0 (by omega); rw [HSP.out] at this; exact this)
   have d1 : wr.cell? ⟨bb, bo + k * 2 + 1, none⟩ = some (.int .i64 wy) := cell_keep T.out.1 hbl (by have := hbc k hlt 1 (by omega); rw [HWY.out] at this; exact this)
   have hbs : ba = some ⟨bb, bo, none⟩ := hbe
   clear hbe hbc hbl
   subst hbs
   have hln := H.out.1.ln sp hspn
   have T1 : Hid (Below w.heap.size w (wr.alloc (.cells #[.int .i64 (sp : Int), .int .i64 wy] 74)) ∧ Box (wr.alloc (.cells #[.int .i64 (sp : Int), .int .i64 wy] 74)) (w.heap.size) 40 #[.slice (some ⟨pb, po, none⟩) v.n pc, .slice ja v.m jc] ∧ Box (wr.alloc (.cells #[.int .i64 (sp : Int), .int .i64 wy] 74)) (w.heap.size + 1) 33 #[.int .i64 (fq : Int), .int .i64 fa, .int .i64 fw, .int .i64 lg, .slice (some ⟨bb, bo, none⟩) nb bk] ∧ Box (wr.alloc (.cells #[.int .i64 (sp : Int), .int .i64 wy] 74)) (w.heap.size + 1 + 1) 33 #[.int .i64 0, .int .i64 0, .int .i64 0, .int .i64 0, .slice none 0 0] ∧ VOwn w.heap.size 74 2 (wr.alloc (.cells #[.int .i64 (sp : Int), .int .i64 wy] 74)) (.slice oa k oc) k (intF B) ∧ Box (wr.alloc (.cells #[.int .i64 (sp : Int), .int .i64 wy] 74)) (wr.heap.size) 74 #[.int .i64 (sp : Int), .int .i64 wy]) := ⟨T.out.1.alloc T.out.1.size _, T.out.2.1.alloc _, T.out.2.2.1.alloc _, T.out.2.2.2.1.alloc _, T.out.2.2.2.2.alloc _, Box.new _ _ _⟩
   have HL67 : Hid (w.heap.size ≤ wr.heap.size) := T.out.1.size
   have HO68 : Hid (∀ g, (Value.slice oa k oc).ownBlock = some g → g < wr.heap.size) := fun g hg => (T.out.2.2.2.2.lt hg).2
   go_upto_region 6 with fail
   clear d0 d1 T
   generalize wr.alloc (.cells #[.int .i64 (sp : Int), .int .i64 wy] 74) = V5 at T1 ⊢
   generalize wr.heap.size = sq at T1 HL67 HO68 ⊢
   have x0 := T1.out.2.2.1.cel 0
   have x1 := T1.out.2.2.1.cel 1
   have x2 := T1.out.2.2.1.cel 2
   have x3 := T1.out.2.2.1.cel 3
   have x4 := T1.out.2.2.1.cel 4
   have y0 := T1.out.2.2.2.2.2.cel 0
   have y1 := T1.out.2.2.2.2.2.cel 1
   by_cases hx : lg ≤ x
   ·
    have hx' : decide (lg ≤ x) = true := by simp; omega
    have HLE : Hid (lg ≤ hvF v (fq : Int) fa fw B k) := by rw [← HX.out]; exact hx
    have T2 : Hid (Below w.heap.size w V5 ∧ Box V5 (w.heap.size) 40 #[.slice (some ⟨pb, po, none⟩) v.n pc, .slice ja v.m jc] ∧ Box V5 (w.heap.size + 1) 33 #[.int .i64 (fq : Int), .int .i64 fa, .int .i64 fw, .int .i64 lg, .slice (some ⟨bb, bo, none⟩) nb bk] ∧ Box V5 (w.heap.size + 1 + 1) 33 #[.int .i64 0, .int .i64 0, .int .i64 0, .int .i64 0, .slice none 0 0] ∧ VOwn w.heap.size 74 2 V5 (.slice oa k oc) k (intF B)) := ⟨T1.out.1, T1.out.2.1, T1.out.2.2.1, T1.out.2.2.2.1, T1.out.2.2.2.2.1⟩
    clear x0 x1 x2 x3 x4 y0 y1 T1
    have z0 := T2.out.2.2.1.cel 0
    have z1 := T2.out.2.2.1.cel 1
    have z2 := T2.out.2.2.1.cel 2
    have z3 := T2.out.2.2.1.cel 3
    have z4 := T2.out.2.2.1.cel 4
    have zf0 := T2.out.2.2.1.free 0
    have zf1 := T2.out.2.2.1.free 1
    have zf2 := T2.out.2.2.1.free 2
    have zf3 := T2.out.2.2.1.free 3
    have zf4 := T2.out.2.2.1.free 4
    have MA69 : Hid (Below w.heap.size w (V5.setCell ⟨w.heap.size + 1, 4, none⟩ (.slice oa k oc)) ∧ Box (V5.setCell ⟨w.heap.size + 1, 4, none⟩ (.slice oa k oc)) (w.heap.size) 40 #[.slice (some ⟨pb, po, none⟩) v.n pc, .slice ja v.m jc] ∧ Box (V5.setCell ⟨w.heap.size + 1, 4, none⟩ (.slice oa k oc)) (w.heap.size + 1) 33 #[.int .i64 (fq : Int), .int .i64 fa, .int .i64 fw, .int .i64 lg, .slice oa k oc] ∧ Box (V5.setCell ⟨w.heap.size + 1, 4, none⟩ (.slice oa k oc)) (w.heap.size + 1 + 1) 33 #[.int .i64 0, .int .i64 0, .int .i64 0, .int .i64 0, .slice none 0 0] ∧ VOwn w.heap.size 74 2 (V5.setCell ⟨w.heap.size + 1, 4, none⟩ (.slice oa k oc)) (.slice oa k oc) k (intF B)) := ⟨(T2.out.1.setCell (Nat.le_add_right _ 1) _), (T2.out.2.1.other (box_ne T2.out.2.1 T2.out.2.2.1 (by decide)) _), by have h9 := (T2.out.2.2.1.set 4 (.slice oa k oc)); exact h9, (T2.out.2.2.2.1.other (Nat.succ_ne_self _) _), (T2.out.2.2.2.2.set T2.out.2.2.1 (by decide) 4 _)⟩
    clear T2
    go_upto_region 11 with fail
    clear z0 z1 z2 z3 z4 zf0 zf1 zf2 zf3 zf4
    generalize (V5.setCell ⟨w.heap.size + 1, 4, none⟩ (.slice oa k oc)) = W7 at MA69 ⊢
    have y0 := MA69.out.2.2.1.cel 0
    have y1 := MA69.out.2.2.1.cel 1
    have y2 := MA69.out.2.2.1.cel 2
    have y3 := MA69.out.2.2.1.cel 3
    have y4 := MA69.out.2.2.1.cel 4
    have z0 := MA69.out.2.2.2.1.cel 0
    have z1 := MA69.out.2.2.2.1.cel 1
    have z2 := MA69.out.2.2.2.1.cel 2
    have z3 := MA69.out.2.2.2.1.cel 3
    have z4 := MA69.out.2.2.2.1.cel 4
    have zf0 := MA69.out.2.2.2.1.free 0
    have zf1 := MA69.out.2.2.2.1.free 1
    have zf2 := MA69.out.2.2.2.1.free 2
    have zf3 := MA69.out.2.2.2.1.free 3
    have zf4 := MA69.out.2.2.2.1.free 4
    have MA70 : Hid (Below w.heap.size w (((((W7.setCell ⟨w.heap.size + 1 + 1, 0, none⟩ (.int .i64 (fq : Int))).setCell ⟨w.heap.size + 1 + 1, 1, none⟩ (.int .i64 fa)).setCell ⟨w.heap.size + 1 + 1, 2, none⟩ (.int .i64 fw)).setCell ⟨w.heap.size + 1 + 1, 3, none⟩ (.int .i64 lg)).setCell ⟨w.heap.size + 1 + 1, 4, none⟩ (.slice oa k oc)) ∧ Box (((((W7.setCell ⟨w.heap.size + 1 + 1, 0, none⟩ (.int .i64 (fq : Int))).setCell ⟨w.heap.size + 1 + 1, 1, none⟩ (.int .i64 fa)).setCell ⟨w.heap.size + 1 + 1, 2, none⟩ (.int .i64 fw)).setCell ⟨w.heap.size + 1 + 1, 3, none⟩ (.int .i64 lg)).setCell ⟨w.heap.size + 1 + 1, 4, none⟩ (.slice oa k oc)) (w.heap.size) 40 #[.slice (some ⟨pb, po, none⟩) v.n pc, .slice ja v.m jc] ∧ Box (((((W7.setCell ⟨w.heap.size + 1 + 1, 0, none⟩ (.int .i64 (fq : Int))).setCell ⟨w.heap.size + 1 + 1, 1, none⟩ (.int .i64 fa)).setCell ⟨w.heap.size + 1 + 1, 2, none⟩ (.int .i64 fw)).setCell ⟨w.heap.size + 1 + 1, 3, none⟩ (.int .i64 lg)).setCell ⟨w.heap.size + 1 + 1, 4, none⟩ (.slice oa k oc)) (w.heap.size + 1) 33 #[.int .i64 (fq : Int), .int .i64 fa, .int .i64 fw, .int .i64 lg, .slice oa k oc] ∧ Box (((((W7.setCell ⟨w.heap.size + 1 + 1, 0, none⟩ (.int .i64 (fq : Int))).setCell ⟨w.heap.size + 1 + 1, 1, none⟩ (.int .i64 fa)).setCell ⟨w.heap.size + 1 + 1, 2, none⟩ (.int .i64 fw)).setCell ⟨w.heap.size + 1 + 1, 3, none⟩ (.int .i64 lg)).setCell ⟨w.heap.size + 1 + 1, 4, none⟩ (.slice oa k oc)) (w.heap.size + 1 + 1) 33 #[.int .i64 (fq : Int), .int .i64 fa, .int .i64 fw, .int .i64 lg, .slice oa k oc] ∧ VOwn w.heap.size 74 2 (((((W7.setCell ⟨w.heap.size + 1 + 1, 0, none⟩ (.int .i64 (fq : Int))).setCell ⟨w.heap.size + 1 + 1, 1, none⟩ (.int .i64 fa)).setCell ⟨w.heap.size + 1 + 1, 2, none⟩ (.int .i64 fw)).setCell ⟨w.heap.size + 1 + 1, 3, none⟩ (.int .i64 lg)).setCell ⟨w.heap.size + 1 + 1, 4, none⟩ (.slice oa k oc)) (.slice oa k oc) k (intF B)) := ⟨(((((MA69.out.1.setCell (Nat.le_add_right _ 2) _).setCell (Nat.le_add_right _ 2) _).setCell (Nat.le_add_right _ 2) _).setCell (Nat.le_add_right _ 2) _).setCell (Nat.le_add_right _ 2) _), (((((MA69.out.2.1.other (box_ne MA69.out.2.1 MA69.out.2.2.2.1 (by decide)) _).other (box_ne MA69.out.2.1 MA69.out.2.2.2.1 (by decide)) _).other (box_ne MA69.out.2.1 MA69.out.2.2.2.1 (by decide)) _).other (box_ne MA69.out.2.1 MA69.out.2.2.2.1 (by decide)) _).other (box_ne MA69.out.2.1 MA69.out.2.2.2.1 (by decide)) _), (((((MA69.out.2.2.1.other (Nat.succ_ne_self _).symm _).other (Nat.succ_ne_self _).symm _).other (Nat.succ_ne_self _).symm _).other (Nat.succ_ne_self _).symm _).other (Nat.succ_ne_self _).symm _), by have h9 := (((((MA69.out.2.2.2.1.set 0 (.int .i64 (fq : Int))).set 1 (.int .i64 fa)).set 2 (.int .i64 fw)).set 3 (.int .i64 lg)).set 4 (.slice oa k oc)); exact h9, (((((MA69.out.2.2.2.2.set MA69.out.2.2.2.1 (by decide) 0 _).set (MA69.out.2.2.2.1.set 0 (.int .i64 (fq : Int))) (by decide) 1 _).set ((MA69.out.2.2.2.1.set 0 (.int .i64 (fq : Int))).set 1 (.int .i64 fa)) (by decide) 2 _).set (((MA69.out.2.2.2.1.set 0 (.int .i64 (fq : Int))).set 1 (.int .i64 fa)).set 2 (.int .i64 fw)) (by decide) 3 _).set ((((MA69.out.2.2.2.1.set 0 (.int .i64 (fq : Int))).set 1 (.int .i64 fa)).set 2 (.int .i64 fw)).set 3 (.int .i64 lg)) (by decide) 4 _)⟩
    clear MA69
    go_wp2_with fail
    clear y0 y1 y2 y3 y4 z0 z1 z2 z3 z4 zf0 zf1 zf2 zf3 zf4
    generalize (((((W7.setCell ⟨w.heap.size + 1 + 1, 0, none⟩ (.int .i64 (fq : Int))).setCell ⟨w.heap.size + 1 + 1, 1, none⟩ (.int .i64 fa)).setCell ⟨w.heap.size + 1 + 1, 2, none⟩ (.int .i64 fw)).setCell ⟨w.heap.size + 1 + 1, 3, none⟩ (.int .i64 lg)).setCell ⟨w.heap.size + 1 + 1, 4, none⟩ (.slice oa k oc)) = W9 at MA70 ⊢
    have z0 := MA70.out.2.2.2.1.cel 0
    have z1 := MA70.out.2.2.2.1.cel 1
    have z2 := MA70.out.2.2.2.1.cel 2
    have z3 := MA70.out.2.2.2.1.cel 3
    have z4 := MA70.out.2.2.2.1.cel 4
    exact bodyPost_ret (v := .agg #[.int .i64 (fq : Int), .int .i64 fa, .int .i64 fw, .int .i64 lg, .slice oa k oc]) (by simp [results, Tryz.results108, go_sem, z0, z1, z2, z3, z4]) rfl (⟨k, oa, oc, rfl, ⟨by omega, HK.out, fun _ => HLE.out⟩, MA70.out.2.2.2.2, MA70.out.1⟩)
   ·
    have hx' : decide (lg ≤ x) = false := by simp; omega
    have HK2 : Hid (∀ q, q < k + 1 → hvF v (fq : Int) fa fw B q < lg) := fun q hq => by
     by_cases c : q = k
     ·
      rw [c, ← HX.out]; omega
     ·
      exact HK.out q (by omega)
    have HVS : Hid ((#[.int .i64 (sp : Int), .int .i64 wy] : Array Value).toList = (List.range 2).map (intF B k)) := by
     show _ = _
     simp [List.range_succ, intF, HSP.out, HWY.out]
    have HSQ : Hid (∀ o w6, (V5.alloc o).grownBy w6 (Value.slice oa k oc).ownBlock → w6.cell? ⟨sq, 0, none⟩ = some (.int .i64 (sp : Int))) := fun o w6 hg => by
     have hbx := T1.out.2.2.2.2.2
     have hgr := (hbx.alloc o).grown hg (fun e => by have h7 := HO68.out sq e; omega)
     exact hgr.cell 0
    have hsz : w.heap.size ≤ (V5.alloc (.cells #[.int .i64 (sp : Int), .int .i64 wy] 74)).heap.size := (T1.out.1.alloc T1.out.1.size _).size
    go_wp2_with (at_builtin; go_must (refine wpList_vapp _ rfl _ _ 31 rfl w.heap.size 74 i0 _ 2 16 Tryz.underlying31 hi0 hz0 hs0 hb0 rfl (by decide) (.slice oa k oc) k (intF B) rfl (T1.out.2.2.2.2.1.alloc _) (fun _ _ => rfl) V5.heap.size 1 #[.int .i64 (sp : Int), .int .i64 wy] rfl (Box.new _ _ _) HVS.out (by simp only [maxLen]; omega) (by omega) hsz (Halt.mk ?_)))
    intro v2 w6 ho2 hg2
    have u0 : w6.cell? ⟨sq, 0, none⟩ = some (.int .i64 (sp : Int)) := HSQ.out _ _ hg2
    obtain ⟨av, cv, rfl⟩ := ho2.val
    have MG : Hid (Below w.heap.size w w6 ∧ Box w6 (w.heap.size) 40 #[.slice (some ⟨pb, po, none⟩) v.n pc, .slice ja v.m jc] ∧ Box w6 (w.heap.size + 1) 33 #[.int .i64 (fq : Int), .int .i64 fa, .int .i64 fw, .int .i64 lg, .slice (some ⟨bb, bo, none⟩) nb bk] ∧ Box w6 (w.heap.size + 1 + 1) 33 #[.int .i64 0, .int .i64 0, .int .i64 0, .int .i64 0, .slice none 0 0] ∧ VOwn w.heap.size 74 2 w6 (.slice av (k + 1) cv) (k + 1) (intF B)) := ⟨bel_grow T1.out.1 T1.out.2.2.2.2.1 T1.out.1.size nr hg2, box_grow T1.out.2.1 T1.out.2.2.2.2.1 (by decide) hg2, box_grow T1.out.2.2.1 T1.out.2.2.2.2.1 (by decide) hg2, box_grow T1.out.2.2.2.1 T1.out.2.2.2.2.1 (by decide) hg2, ho2⟩
    clear ho2 hg2 hsz T1 x0 x1 x2 x3 x4 y0 y1
    have x0 := MG.out.2.1.cel 0
    have x1 := MG.out.2.1.cel 1
    have c1 : w6.cell? ⟨pb, po + sp * 4 + 1, none⟩ = some (.int .i64 (v.P sp).ln) := cell_keep MG.out.1 (HPC.out sp hspn).1 (HPC.out sp hspn).2
    have hwx : IntKind.i64.wrap (x + (v.P sp).ln) = x + (v.P sp).ln := by rw [IntKind.wrap_i64]; omega
    have HX2 : Hid (x + (v.P sp).ln = hvF v (fq : Int) fa fw B (k + 1)) := by
     show _ = hvF v (fq : Int) fa fw B k + (v.P (B k 0).toNat).ln
     rw [HX.out, HSP.out, Int.toNat_natCast]
    go_wp2_with fail
    clear x0 x1 c1 u0
    go_roundw
    case rel => exact ⟨k + 1, _, av, cv, by omega, by go_num, rfl, rfl, HX2, HK2, MG⟩
    case measure => simp [intOf]; omega
  ·
   obtain rfl : k = nb := by omega
   have hge : ¬ ((k : Int) < (k : Int)) := by omega
   have z0 := T.out.2.2.1.cel 0
   have z1 := T.out.2.2.1.cel 1
   have z2 := T.out.2.2.1.cel 2
   have z3 := T.out.2.2.1.cel 3
   have z4 := T.out.2.2.1.cel 4
   have zf0 := T.out.2.2.1.free 0
   have zf1 := T.out.2.2.1.free 1
   have zf2 := T.out.2.2.1.free 2
   have zf3 := T.out.2.2.1.free 3
   have zf4 := T.out.2.2.1.free 4
   have MA71 : Hid (Below w.heap.size w (wr.setCell ⟨w.heap.size + 1, 4, none⟩ (.slice oa k oc)) ∧ Box (wr.setCell ⟨w.heap.size + 1, 4, none⟩ (.slice oa k oc)) (w.heap.size) 40 #[.slice (some ⟨pb, po, none⟩) v.n pc, .slice ja v.m jc] ∧ Box (wr.setCell ⟨w.heap.size + 1, 4, none⟩ (.slice oa k oc)) (w.heap.size + 1) 33 #[.int .i64 (fq : Int), .int .i64 fa, .int .i64 fw, .int .i64 lg, .slice oa k oc] ∧ Box (wr.setCell ⟨w.heap.size + 1, 4, none⟩ (.slice oa k oc)) (w.heap.size + 1 + 1) 33 #[.int .i64 0, .int .i64 0, .int .i64 0, .int .i64 0, .slice none 0 0] ∧ VOwn w.heap.size 74 2 (wr.setCell ⟨w.heap.size + 1, 4, none⟩ (.slice oa k oc)) (.slice oa k oc) k (intF B)) := ⟨(T.out.1.setCell (Nat.le_add_right _ 1) _), (T.out.2.1.other (box_ne T.out.2.1 T.out.2.2.1 (by decide)) _), by have h9 := (T.out.2.2.1.set 4 (.slice oa k oc)); exact h9, (T.out.2.2.2.1.other (Nat.succ_ne_self _) _), (T.out.2.2.2.2.set T.out.2.2.1 (by decide) 4 _)⟩
   clear T
   go_upto_region 11 with fail
   clear z0 z1 z2 z3 z4 zf0 zf1 zf2 zf3 zf4
   generalize (wr.setCell ⟨w.heap.size + 1, 4, none⟩ (.slice oa k oc)) = W7 at MA71 ⊢
   have y0 := MA71.out.2.2.1.cel 0
   have y1 := MA71.out.2.2.1.cel 1
   have y2 := MA71.out.2.2.1.cel 2
   have y3 := MA71.out.2.2.1.cel 3
   have y4 := MA71.out.2.2.1.cel 4
   have z0 := MA71.out.2.2.2.1.cel 0
   have z1 := MA71.out.2.2.2.1.cel 1
   have z2 := MA71.out.2.2.2.1.cel 2
   have z3 := MA71.out.2.2.2.1.cel 3
   have z4 := MA71.out.2.2.2.1.cel 4
   have zf0 := MA71.out.2.2.2.1.free 0
   have zf1 := MA71.out.2.2.2.1.free 1
   have zf2 := MA71.out.2.2.2.1.free 2
   have zf3 := MA71.out.2.2.2.1.free 3
   have zf4 := MA71.out.2.2.2.1.free 4
   have MA72 : Hid (Below w.heap.size w (((((W7.setCell ⟨w.heap.size + 1 + 1, 0, none⟩ (.int .i64 (fq : Int))).setCell ⟨w.heap.size + 1 + 1, 1, none⟩ (.int .i64 fa)).setCell ⟨w.heap.size + 1 + 1, 2, none⟩ (.int .i64 fw)).setCell ⟨w.heap.size + 1 + 1, 3, none⟩ (.int .i64 lg)).setCell ⟨w.heap.size + 1 + 1, 4, none⟩ (.slice oa k oc)) ∧ Box (((((W7.setCell ⟨w.heap.size + 1 + 1, 0, none⟩ (.int .i64 (fq : Int))).setCell ⟨w.heap.size + 1 + 1, 1, none⟩ (.int .i64 fa)).setCell ⟨w.heap.size + 1 + 1, 2, none⟩ (.int .i64 fw)).setCell ⟨w.heap.size + 1 + 1, 3, none⟩ (.int .i64 lg)).setCell ⟨w.heap.size + 1 + 1, 4, none⟩ (.slice oa k oc)) (w.heap.size) 40 #[.slice (some ⟨pb, po, none⟩) v.n pc, .slice ja v.m jc] ∧ Box (((((W7.setCell ⟨w.heap.size + 1 + 1, 0, none⟩ (.int .i64 (fq : Int))).setCell ⟨w.heap.size + 1 + 1, 1, none⟩ (.int .i64 fa)).setCell ⟨w.heap.size + 1 + 1, 2, none⟩ (.int .i64 fw)).setCell ⟨w.heap.size + 1 + 1, 3, none⟩ (.int .i64 lg)).setCell ⟨w.heap.size + 1 + 1, 4, none⟩ (.slice oa k oc)) (w.heap.size + 1) 33 #[.int .i64 (fq : Int), .int .i64 fa, .int .i64 fw, .int .i64 lg, .slice oa k oc] ∧ Box (((((W7.setCell ⟨w.heap.size + 1 + 1, 0, none⟩ (.int .i64 (fq : Int))).setCell ⟨w.heap.size + 1 + 1, 1, none⟩ (.int .i64 fa)).setCell ⟨w.heap.size + 1 + 1, 2, none⟩ (.int .i64 fw)).setCell ⟨w.heap.size + 1 + 1, 3, none⟩ (.int .i64 lg)).setCell ⟨w.heap.size + 1 + 1, 4, none⟩ (.slice oa k oc)) (w.heap.size + 1 + 1) 33 #[.int .i64 (fq : Int), .int .i64 fa, .int .i64 fw, .int .i64 lg, .slice oa k oc] ∧ VOwn w.heap.size 74 2 (((((W7.setCell ⟨w.heap.size + 1 + 1, 0, none⟩ (.int .i64 (fq : Int))).setCell ⟨w.heap.size + 1 + 1, 1, none⟩ (.int .i64 fa)).setCell ⟨w.heap.size + 1 + 1, 2, none⟩ (.int .i64 fw)).setCell ⟨w.heap.size + 1 + 1, 3, none⟩ (.int .i64 lg)).setCell ⟨w.heap.size + 1 + 1, 4, none⟩ (.slice oa k oc)) (.slice oa k oc) k (intF B)) := ⟨(((((MA71.out.1.setCell (Nat.le_add_right _ 2) _).setCell (Nat.le_add_right _ 2) _).setCell (Nat.le_add_right _ 2) _).setCell (Nat.le_add_right _ 2) _).setCell (Nat.le_add_right _ 2) _), (((((MA71.out.2.1.other (box_ne MA71.out.2.1 MA71.out.2.2.2.1 (by decide)) _).other (box_ne MA71.out.2.1 MA71.out.2.2.2.1 (by decide)) _).other (box_ne MA71.out.2.1 MA71.out.2.2.2.1 (by decide)) _).other (box_ne MA71.out.2.1 MA71.out.2.2.2.1 (by decide)) _).other (box_ne MA71.out.2.1 MA71.out.2.2.2.1 (by decide)) _), (((((MA71.out.2.2.1.other (Nat.succ_ne_self _).symm _).other (Nat.succ_ne_self _).symm _).other (Nat.succ_ne_self _).symm _).other (Nat.succ_ne_self _).symm _).other (Nat.succ_ne_self _).symm _), by have h9 := (((((MA71.out.2.2.2.1.set 0 (.int .i64 (fq : Int))).set 1 (.int .i64 fa)).set 2 (.int .i64 fw)).set 3 (.int .i64 lg)).set 4 (.slice oa k oc)); exact h9, (((((MA71.out.2.2.2.2.set MA71.out.2.2.2.1 (by decide) 0 _).set (MA71.out.2.2.2.1.set 0 (.int .i64 (fq : Int))) (by decide) 1 _).set ((MA71.out.2.2.2.1.set 0 (.int .i64 (fq : Int))).set 1 (.int .i64 fa)) (by decide) 2 _).set (((MA71.out.2.2.2.1.set 0 (.int .i64 (fq : Int))).set 1 (.int .i64 fa)).set 2 (.int .i64 fw)) (by decide) 3 _).set ((((MA71.out.2.2.2.1.set 0 (.int .i64 (fq : Int))).set 1 (.int .i64 fa)).set 2 (.int .i64 fw)).set 3 (.int .i64 lg)) (by decide) 4 _)⟩
   clear MA71
   go_wp2_with fail
   clear y0 y1 y2 y3 y4 z0 z1 z2 z3 z4 zf0 zf1 zf2 zf3 zf4
   generalize (((((W7.setCell ⟨w.heap.size + 1 + 1, 0, none⟩ (.int .i64 (fq : Int))).setCell ⟨w.heap.size + 1 + 1, 1, none⟩ (.int .i64 fa)).setCell ⟨w.heap.size + 1 + 1, 2, none⟩ (.int .i64 fw)).setCell ⟨w.heap.size + 1 + 1, 3, none⟩ (.int .i64 lg)).setCell ⟨w.heap.size + 1 + 1, 4, none⟩ (.slice oa k oc)) = W9 at MA72 ⊢
   have z0 := MA72.out.2.2.2.1.cel 0
   have z1 := MA72.out.2.2.2.1.cel 1
   have z2 := MA72.out.2.2.2.1.cel 2
   have z3 := MA72.out.2.2.2.1.cel 3
   have z4 := MA72.out.2.2.2.1.cel 4
   exact bodyPost_ret (v := .agg #[.int .i64 (fq : Int), .int .i64 fa, .int .i64 fw, .int .i64 lg, .slice oa k oc]) (by simp [results, Tryz.results108, go_sem, z0, z1, z2, z3, z4]) rfl (⟨k, oa, oc, rfl, ⟨Nat.le_refl _, HK.out, fun h => absurd h (Nat.lt_irrefl _)⟩, MA72.out.2.2.2.2, MA72.out.1⟩)
set_option maxRecDepth 100000 in
set_option maxHeartbeats 16000000 in
theorem count110 {v : Nv} (ok : v.Ok) (pa : Option Addr) (pc : Nat) (ja : Option Addr) (jc : Nat) (fq : Nat) (fa fw lg : Int) (nb : Nat) (B : Nat → Nat → Int) (ba : Option Addr) (bk : Nat) (w : World) (hP : PsAt 0 w pa v.n v.P) (hsp : spotB v (fq : Int) fa fw = true) (hlg : 1 ≤ lg ∧ lg ≤ 100000) (hnb : nb ≤ 201) (hst : ∀ i, i < nb → stepB v (B i 0) (B i 1) = true) (hB : NsAt 2 0 w ba nb B) :
  Calls Tryz.prog 110 #[.agg #[.slice pa v.n pc, .slice ja v.m jc], .agg #[.int .i64 (fq : Int), .int .i64 fa, .int .i64 fw, .int .i64 lg, .slice ba nb bk]] w fun e w' => ∃ z : Nat, e = .returned (.int .i64 (z : Int)) ∧ (z ≤ nb ∧ (∀ q, q < z → hvF v (fq : Int) fa fw B q < lg) ∧ (z < nb → lg ≤ hvF v (fq : Int) fa fw B z)) ∧ Below w.heap.size w w' := by
 have H : Hid (v.Ok ∧ PsAt 0 w pa v.n v.P ∧ NsAt 2 0 w ba nb B ∧ (∀ i, i < nb → stepB v (B i 0) (B i 1) = true) ∧ spotB v (fq : Int) fa fw = true) := ⟨ok, hP, hB, hst, hsp⟩
 have S0 : Hid (Below w.heap.size w ((w.alloc (.cells #[.slice pa v.n pc, .slice ja v.m jc] 40)).alloc (.cells #[.int .i64 (fq : Int), .int .i64 fa, .int .i64 fw, .int .i64 lg, .slice ba nb bk] 33)) ∧ Box ((w.alloc (.cells #[.slice pa v.n pc, .slice ja v.m jc] 40)).alloc (.cells #[.int .i64 (fq : Int), .int .i64 fa, .int .i64 fw, .int .i64 lg, .slice ba nb bk] 33)) (w.heap.size) 40 #[.slice pa v.n pc, .slice ja v.m jc] ∧ Box ((w.alloc (.cells #[.slice pa v.n pc, .slice ja v.m jc] 40)).alloc (.cells #[.int .i64 (fq : Int), .int .i64 fa, .int .i64 fw, .int .i64 lg, .slice ba nb bk] 33)) (w.heap.size + 1) 33 #[.int .i64 (fq : Int), .int .i64 fa, .int .i64 fw, .int .i64 lg, .slice ba nb bk]) := ⟨bel2 _ _ _, ((Box.new w 40 #[.slice pa v.n pc, .slice ja v.m jc]).alloc (.cells #[.int .i64 (fq : Int), .int .i64 fa, .int .i64 fw, .int .i64 lg, .slice ba nb bk] 33)), by have := (Box.new (w.alloc (.cells #[.slice pa v.n pc, .slice ja v.m jc] 40)) 33 #[.int .i64 (fq : Int), .int .i64 fa, .int .i64 fw, .int .i64 lg, .slice ba nb bk]); simpa using this⟩
 clear ok hP hB hst hsp
 go_enter Tryz.func110, Tryz.ntmps110
 go_upto_region 1 with fail
 generalize ((w.alloc (.cells #[.slice pa v.n pc, .slice ja v.m jc] 40)).alloc (.cells #[.int .i64 (fq : Int), .int .i64 fa, .int .i64 fw, .int .i64 lg, .slice ba nb bk] 33)) = V0 at S0 ⊢
 have x0 := S0.out.2.1.cel 0
 have x1 := S0.out.2.1.cel 1
 have y0 := S0.out.2.2.cel 0
 have y1 := S0.out.2.2.cel 1
 have y2 := S0.out.2.2.cel 2
 have y3 := S0.out.2.2.cel 3
 have y4 := S0.out.2.2.cel 4
 go_wp2_with fail
 clear x0 x1 y0 y1 y2 y3 y4
 refine (trim108 H.out.1 pa pc ja jc fq fa fw lg nb B ba bk V0 (H.out.2.1.mono nr S0.out.1 nr) H.out.2.2.2.2 hlg hnb H.out.2.2.2.1 (H.out.2.2.1.mono nr S0.out.1 nr)).mono ?_
 rintro e w1 ⟨z, a, c, rfl, hz, _, hb⟩
 have HZ : Hid ((z ≤ nb ∧ (∀ q, q < z → hvF v (fq : Int) fa fw B q < lg) ∧ (z < nb → lg ≤ hvF v (fq : Int) fa fw B z)) ∧ Below w.heap.size w (w1.alloc (.cells #[.int .i64 (fq : Int), .int .i64 fa, .int .i64 fw, .int .i64 lg, .slice a z c] 33))) := ⟨hz, by have h9 := S0.out.1.trans (hb.mono S0.out.1.size); exact h9.alloc h9.size _⟩
 have HB : Hid (Box (w1.alloc (.cells #[.int .i64 (fq : Int), .int .i64 fa, .int .i64 fw, .int .i64 lg, .slice a z c] 33)) w1.heap.size 33 #[.int .i64 (fq : Int), .int .i64 fa, .int .i64 fw, .int .i64 lg, .slice a z c]) := Box.new _ _ _
 clear hz hb S0
 go_upto_region 2 with fail
 generalize w1.alloc (.cells #[.int .i64 (fq : Int), .int .i64 fa, .int .i64 fw, .int .i64 lg, .slice a z c] 33) = V2 at HZ HB ⊢
 generalize w1.heap.size = xb at HB ⊢
 have x4 := HB.out.cel 4
 go_wp2_with fail
 go_ret
 exact ⟨z, rfl, HZ.out.1, HZ.out.2⟩
end Go.Proofs.YtjhmaofjmalglaaGreat
