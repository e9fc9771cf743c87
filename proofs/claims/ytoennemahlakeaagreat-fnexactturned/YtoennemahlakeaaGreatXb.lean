import Derived.Test.YtoennemahlakeaaGreatWh
import Derived.Test.YtoennemahlakeaaGreatTu
import Derived.Deep.AppendLies
namespace Go.Proofs.YtoennemahlakeaaGreat
open Go.RowKit Go.Lib

/-- what is left ahead of a step -/
def lqF (v : Nv) (fp fa fw lg : Int) (B : Nat → Nat → Int) (k : Nat) : Int := if k = 0 then lg else lg - hvF v fp fa fw B (k - 1)
theorem lq_end {v : Nv} {fp fa fw lg : Int} {nb : Nat} {B : Nat → Nat → Int} (ok : v.Ok) (h : Trn v fp fa fw lg nb B) : heF v fp fa fw B nb - lqF v fp fa fw lg B nb = hvF v fp fa fw B nb - lg := by
  unfold lqF
  by_cases c : nb = 0
  · rw [if_pos c, c]
    rfl
  · rw [if_neg c]
    have := (h.he ok (Nat.le_refl nb)).2.2.2 (by omega)
    omega
theorem lq_step {v : Nv} {fp fa fw lg : Int} {nb : Nat} {B : Nat → Nat → Int} (ok : v.Ok) (h : Trn v fp fa fw lg nb B) {k : Nat} (hk : k < nb) : lqF v fp fa fw lg B k - heF v fp fa fw B k = lqF v fp fa fw lg B (k + 1) ∧ 0 ≤ lqF v fp fa fw lg B k ∧ lqF v fp fa fw lg B k ≤ 100000 ∧ 0 ≤ heF v fp fa fw B k ∧ heF v fp fa fw B k ≤ 10000000 := by
  have h1 := h.he ok (Nat.le_of_lt hk)
  have h2 := h.lg0
  have h3 := h.lg1
  have e : lqF v fp fa fw lg B (k + 1) = lg - hvF v fp fa fw B k := by
    unfold lqF
    rw [if_neg (by omega), Nat.add_sub_cancel]
  rw [e]
  unfold lqF
  by_cases c : k = 0
  · rw [if_pos c]
    refine ⟨?_, by omega, by omega, h1.1, h1.2.1⟩
    subst c
    rfl
  · rw [if_neg c]
    have h4 := h1.2.2.2 (by omega)
    have h5 := h.lt (k - 1) (by omega)
    have h6 := (hv_bnd ok (B := B) h.spot (k - 1) (fun i hi => h.step i (by omega))).1
    exact ⟨by omega, by omega, by omega, h1.1, h1.2.1⟩
set_option maxRecDepth 100000 in
set_option maxHeartbeats 16000000 in
theorem tail42 {v : Nv} (ok : v.Ok) (pa : Option Addr) (pc : Nat) (ja : Option Addr) (jc : Nat) (fp fa fw lg : Int) (nb : Nat) (B : Nat → Nat → Int) (ba : Option Addr) (bk : Nat) (w : World) (hP : PsAt 0 w pa v.n v.P) (ht : Trn v fp fa fw lg nb B) (hB : NsAt 2 0 w ba nb B) :
    Calls Tryz.prog 40 #[.agg #[.slice pa v.n pc, .slice ja v.m jc], .agg #[.int .i64 fp, .int .i64 fa, .int .i64 fw, .int .i64 lg, .slice ba nb bk]] w fun e w' => e = .returned (.agg #[.int .i64 (ahP fp B nb), .int .i64 (tlA v fp fa fw lg nb B), .int .i64 (ahW fw B nb)]) ∧ Below w.heap.size w w' := by
  have H : Hid (v.Ok ∧ Trn v fp fa fw lg nb B ∧ PsAt 0 w pa v.n v.P ∧ NsAt 2 0 w ba nb B) := ⟨ok, ht, hP, hB⟩
  obtain ⟨fq, rfl, hfq, hfw, hfa⟩ : ∃ q : Nat, fp = (q : Int) ∧ q < v.n ∧ (fw = 1 ∨ fw = -1) ∧ (0 ≤ fa ∧ fa ≤ (v.P q).ln) := spot_nat ht.spot
  have hnb := ht.nb1
  obtain ⟨pb, po, rfl, _, hpb, hpc⟩ := hP (by omega)
  have HPC : Hid (∀ q, q < v.n → pb < w.heap.size ∧ w.cell? ⟨pb, po + q * 4 + 1, none⟩ = some (.int .i64 (v.P q).ln)) := fun q hq => ⟨hpb, (hpc q hq).2.1⟩
  have hvn := ok.n1
  have S0 : Hid (Below w.heap.size w (((w.alloc (.cells #[.slice (some ⟨pb, po, none⟩) v.n pc, .slice ja v.m jc] 38)).alloc (.cells #[.int .i64 (fq : Int), .int .i64 fa, .int .i64 fw, .int .i64 lg, .slice ba nb bk] 43)).alloc (.cells #[.int .i64 0, .int .i64 0, .int .i64 0] 40)) ∧ Box (((w.alloc (.cells #[.slice (some ⟨pb, po, none⟩) v.n pc, .slice ja v.m jc] 38)).alloc (.cells #[.int .i64 (fq : Int), .int .i64 fa, .int .i64 fw, .int .i64 lg, .slice ba nb bk] 43)).alloc (.cells #[.int .i64 0, .int .i64 0, .int .i64 0] 40)) (w.heap.size) 38 #[.slice (some ⟨pb, po, none⟩) v.n pc, .slice ja v.m jc] ∧ Box (((w.alloc (.cells #[.slice (some ⟨pb, po, none⟩) v.n pc, .slice ja v.m jc] 38)).alloc (.cells #[.int .i64 (fq : Int), .int .i64 fa, .int .i64 fw, .int .i64 lg, .slice ba nb bk] 43)).alloc (.cells #[.int .i64 0, .int .i64 0, .int .i64 0] 40)) (w.heap.size + 1) 43 #[.int .i64 (fq : Int), .int .i64 fa, .int .i64 fw, .int .i64 lg, .slice ba nb bk] ∧ Box (((w.alloc (.cells #[.slice (some ⟨pb, po, none⟩) v.n pc, .slice ja v.m jc] 38)).alloc (.cells #[.int .i64 (fq : Int), .int .i64 fa, .int .i64 fw, .int .i64 lg, .slice ba nb bk] 43)).alloc (.cells #[.int .i64 0, .int .i64 0, .int .i64 0] 40)) (w.heap.size + 1 + 1) 40 #[.int .i64 0, .int .i64 0, .int .i64 0]) := ⟨((Below.refl _ _).alloc (Nat.le_refl _) _ |>.alloc (by simp) _ |>.alloc (by simp; omega) _), ((Box.new _ _ _).alloc _).alloc _, by have := (Box.new (w.alloc (.cells #[.slice (some ⟨pb, po, none⟩) v.n pc, .slice ja v.m jc] 38)) 43 #[.int .i64 (fq : Int), .int .i64 fa, .int .i64 fw, .int .i64 lg, .slice ba nb bk]).alloc (.cells #[.int .i64 0, .int .i64 0, .int .i64 0] 40); simpa using this, by have := Box.new ((w.alloc (.cells #[.slice (some ⟨pb, po, none⟩) v.n pc, .slice ja v.m jc] 38)).alloc (.cells #[.int .i64 (fq : Int), .int .i64 fa, .int .i64 fw, .int .i64 lg, .slice ba nb bk] 43)) 40 #[.int .i64 0, .int .i64 0, .int .i64 0]; simpa using this⟩
  clear ok hP ht hB hpc hpb
  go_enter Tryz.func40, Tryz.ntmps40
  go_upto_region 1 with fail
  generalize (((w.alloc (.cells #[.slice (some ⟨pb, po, none⟩) v.n pc, .slice ja v.m jc] 38)).alloc (.cells #[.int .i64 (fq : Int), .int .i64 fa, .int .i64 fw, .int .i64 lg, .slice ba nb bk] 43)).alloc (.cells #[.int .i64 0, .int .i64 0, .int .i64 0] 40)) = V0 at S0 ⊢
  have a0 : V0.cell? ⟨w.heap.size, 0, none⟩ = some (.slice (some ⟨pb, po, none⟩) v.n pc) := S0.out.2.1.cell 0
  have a1 : V0.cell? ⟨w.heap.size, 1, none⟩ = some (.slice ja v.m jc) := S0.out.2.1.cell 1
  have b0 : V0.cell? ⟨w.heap.size + 1, 0, none⟩ = some (.int .i64 (fq : Int)) := S0.out.2.2.1.cell 0
  have b1 : V0.cell? ⟨w.heap.size + 1, 1, none⟩ = some (.int .i64 fa) := S0.out.2.2.1.cell 1
  have b2 : V0.cell? ⟨w.heap.size + 1, 2, none⟩ = some (.int .i64 fw) := S0.out.2.2.1.cell 2
  have b3 : V0.cell? ⟨w.heap.size + 1, 3, none⟩ = some (.int .i64 lg) := S0.out.2.2.1.cell 3
  have b4 : V0.cell? ⟨w.heap.size + 1, 4, none⟩ = some (.slice ba nb bk) := S0.out.2.2.1.cell 4
  have c0 : V0.cell? ⟨w.heap.size + 1 + 1, 0, none⟩ = some (.int .i64 0) := S0.out.2.2.2.cell 0
  have c1 : V0.cell? ⟨w.heap.size + 1 + 1, 1, none⟩ = some (.int .i64 0) := S0.out.2.2.2.cell 1
  have c2 : V0.cell? ⟨w.heap.size + 1 + 1, 2, none⟩ = some (.int .i64 0) := S0.out.2.2.2.cell 2
  go_wp2_with fail
  clear a0 a1 b0 b1 b2 b3 b4 c0 c1 c2
  refine (behind63 H.out.1 (some ⟨pb, po, none⟩) pc ja jc fq fa fw V0 hfq hfa (H.out.2.2.1.mono (Nat.le_refl _) S0.out.1 (Nat.le_refl _))).mono ?_
  rintro e w1 ⟨rfl, hb1⟩
  have S1 : Hid (Below w.heap.size w w1 ∧ Box w1 (w.heap.size) 38 #[.slice (some ⟨pb, po, none⟩) v.n pc, .slice ja v.m jc] ∧ Box w1 (w.heap.size + 1) 43 #[.int .i64 (fq : Int), .int .i64 fa, .int .i64 fw, .int .i64 lg, .slice ba nb bk] ∧ Box w1 (w.heap.size + 1 + 1) 40 #[.int .i64 0, .int .i64 0, .int .i64 0]) := ⟨S0.out.1.trans (hb1.mono S0.out.1.size), S0.out.2.1.mono hb1 (Nat.le_refl _), S0.out.2.2.1.mono hb1 (Nat.le_refl _), S0.out.2.2.2.mono hb1 (Nat.le_refl _)⟩
  clear hb1 S0
  have T0 : Hid (Below w.heap.size w (w1.alloc (.cells #[.int .i64 (fq : Int), .int .i64 fw] 79)) ∧ Box (w1.alloc (.cells #[.int .i64 (fq : Int), .int .i64 fw] 79)) (w.heap.size) 38 #[.slice (some ⟨pb, po, none⟩) v.n pc, .slice ja v.m jc] ∧ Box (w1.alloc (.cells #[.int .i64 (fq : Int), .int .i64 fw] 79)) (w.heap.size + 1) 43 #[.int .i64 (fq : Int), .int .i64 fa, .int .i64 fw, .int .i64 lg, .slice ba nb bk] ∧ Box (w1.alloc (.cells #[.int .i64 (fq : Int), .int .i64 fw] 79)) (w.heap.size + 1 + 1) 40 #[.int .i64 0, .int .i64 0, .int .i64 0] ∧ Box (w1.alloc (.cells #[.int .i64 (fq : Int), .int .i64 fw] 79)) w1.heap.size 79 #[.int .i64 (ahP (fq : Int) B 0), .int .i64 (ahW fw B 0)]) := ⟨S1.out.1.alloc S1.out.1.size _, S1.out.2.1.alloc _, S1.out.2.2.1.alloc _, S1.out.2.2.2.alloc _, Box.new _ _ _⟩
  have HAQ0 : Hid (w.heap.size ≤ w1.heap.size) := S1.out.1.size
  have a0 : w1.cell? ⟨w.heap.size, 0, none⟩ = some (.slice (some ⟨pb, po, none⟩) v.n pc) := S1.out.2.1.cell 0
  have a1 : w1.cell? ⟨w.heap.size, 1, none⟩ = some (.slice ja v.m jc) := S1.out.2.1.cell 1
  have b0 : w1.cell? ⟨w.heap.size + 1, 0, none⟩ = some (.int .i64 (fq : Int)) := S1.out.2.2.1.cell 0
  have b1 : w1.cell? ⟨w.heap.size + 1, 1, none⟩ = some (.int .i64 fa) := S1.out.2.2.1.cell 1
  have b2 : w1.cell? ⟨w.heap.size + 1, 2, none⟩ = some (.int .i64 fw) := S1.out.2.2.1.cell 2
  have b3 : w1.cell? ⟨w.heap.size + 1, 3, none⟩ = some (.int .i64 lg) := S1.out.2.2.1.cell 3
  have b4 : w1.cell? ⟨w.heap.size + 1, 4, none⟩ = some (.slice ba nb bk) := S1.out.2.2.1.cell 4
  have c0 : w1.cell? ⟨w.heap.size + 1 + 1, 0, none⟩ = some (.int .i64 0) := S1.out.2.2.2.cell 0
  have c1 : w1.cell? ⟨w.heap.size + 1 + 1, 1, none⟩ = some (.int .i64 0) := S1.out.2.2.2.cell 1
  have c2 : w1.cell? ⟨w.heap.size + 1 + 1, 2, none⟩ = some (.int .i64 0) := S1.out.2.2.2.cell 2
  have t4 : (w1.alloc (.cells #[.int .i64 (fq : Int), .int .i64 fw] 79)).cell? ⟨w.heap.size + 1, 4, none⟩ = some (.slice ba nb bk) := T0.out.2.2.1.cell 4
  clear S1
  go_wp2_with fail
  clear a0 a1 b0 b1 b2 b3 b4 c0 c1 c2 t4
  generalize w1.alloc (.cells #[.int .i64 (fq : Int), .int .i64 fw] 79) = V4 at T0 ⊢
  generalize w1.heap.size = aq at T0 HAQ0 ⊢
  have HAQ : Hid (w.heap.size ≤ aq ∧ w.heap.size ≠ aq ∧ w.heap.size + 1 ≠ aq ∧ w.heap.size + 1 + 1 ≠ aq) := ⟨HAQ0.out, box_ne T0.out.2.1 T0.out.2.2.2.2 (by decide), box_ne T0.out.2.2.1 T0.out.2.2.2.2 (by decide), box_ne T0.out.2.2.2.1 T0.out.2.2.2.2 (by decide)⟩
  go_loopw [5, 6, 27] (fun l u c wr => ∃ (k : Nat) (x y : Int), k ≤ nb ∧ c = .int .i64 k ∧ l = .int .i64 x ∧ u = .int .i64 y ∧ Hid (x = lqF v (fq : Int) fa fw lg B k ∧ y = heF v (fq : Int) fa fw B k) ∧ Hid (Below w.heap.size w wr ∧ Box wr (w.heap.size) 38 #[.slice (some ⟨pb, po, none⟩) v.n pc, .slice ja v.m jc] ∧ Box wr (w.heap.size + 1) 43 #[.int .i64 (fq : Int), .int .i64 fa, .int .i64 fw, .int .i64 lg, .slice ba nb bk] ∧ Box wr (w.heap.size + 1 + 1) 40 #[.int .i64 0, .int .i64 0, .int .i64 0] ∧ Box wr (aq) 79 #[.int .i64 (ahP (fq : Int) B k), .int .i64 (ahW fw B k)])) (fun _ _ c _ => nb - (intOf c).toNat)
  case atStart => exact ⟨0, lg, _, Nat.zero_le _, rfl, rfl, rfl, ⟨rfl, rfl⟩, T0⟩
  case round =>
    clear T0 HAQ0
    obtain ⟨k, x, y, hk, rfl, rfl, rfl, HX, T⟩ := hrel
    by_cases hlt : k < nb
    · obtain ⟨bb, bo, hbe, _, hbl, hbc⟩ := H.out.2.2.2 (by omega)
      obtain ⟨sp, HSP, hspn, hsw⟩ := step_nat (H.out.2.1.step k hlt)
      obtain ⟨wy, HWY⟩ : ∃ q, Hid (B k 1 = q) := ⟨_, rfl⟩
      have HSP2 : Hid (B k 0 = (sp : Int)) := HSP
      have hk0 : (0 : Int) ≤ (k : Int) := by omega
      have hkn : (k : Int) < (nb : Int) := by omega
      have hsp0 : (0 : Int) ≤ (sp : Int) := by omega
      have hspi : (sp : Int) < (v.n : Int) := by omega
      have d0 : wr.cell? ⟨bb, bo + k * 2, none⟩ = some (.int .i64 (sp : Int)) := cell_keep T.out.1 hbl (by have := hbc k hlt 0 (by omega); rw [HSP] at this; exact this)
      have d1 : wr.cell? ⟨bb, bo + k * 2 + 1, none⟩ = some (.int .i64 wy) := cell_keep T.out.1 hbl (by have := hbc k hlt 1 (by omega); rw [HWY.out] at this; exact this)
      have hbs : ba = some ⟨bb, bo, none⟩ := hbe
      subst hbs
      have HLQ : Hid (x - y = lqF v (fq : Int) fa fw lg B (k + 1) ∧ (0 ≤ x ∧ x ≤ 100000 ∧ 0 ≤ y ∧ y ≤ 10000000)) := by
        have h9 := lq_step H.out.1 H.out.2.1 hlt
        rw [← HX.out.1, ← HX.out.2] at h9
        exact h9
      have hwx : IntKind.i64.wrap (x - y) = x - y := by have := HLQ.out.2; rw [IntKind.wrap_i64]; omega
      have HNY : Hid ((v.P sp).ln = heF v (fq : Int) fa fw B (k + 1)) := by show _ = _; rw [heF, HSP, Int.toNat_natCast]
      have T1 : Hid (Below w.heap.size w (wr.alloc (.cells #[.int .i64 (sp : Int), .int .i64 wy] 79)) ∧ Box (wr.alloc (.cells #[.int .i64 (sp : Int), .int .i64 wy] 79)) (w.heap.size) 38 #[.slice (some ⟨pb, po, none⟩) v.n pc, .slice ja v.m jc] ∧ Box (wr.alloc (.cells #[.int .i64 (sp : Int), .int .i64 wy] 79)) (w.heap.size + 1) 43 #[.int .i64 (fq : Int), .int .i64 fa, .int .i64 fw, .int .i64 lg, .slice (some ⟨bb, bo, none⟩) nb bk] ∧ Box (wr.alloc (.cells #[.int .i64 (sp : Int), .int .i64 wy] 79)) (w.heap.size + 1 + 1) 40 #[.int .i64 0, .int .i64 0, .int .i64 0] ∧ Box (wr.alloc (.cells #[.int .i64 (sp : Int), .int .i64 wy] 79)) (aq) 79 #[.int .i64 (ahP (fq : Int) B k), .int .i64 (ahW fw B k)] ∧ Box (wr.alloc (.cells #[.int .i64 (sp : Int), .int .i64 wy] 79)) wr.heap.size 79 #[.int .i64 (sp : Int), .int .i64 wy]) := ⟨T.out.1.alloc T.out.1.size _, T.out.2.1.alloc _, T.out.2.2.1.alloc _, T.out.2.2.2.1.alloc _, T.out.2.2.2.2.alloc _, Box.new _ _ _⟩
      have HAS : Hid (wr.heap.size ≠ aq) := by have := T.out.2.2.2.2.lt; show _ ≠ _; omega
      clear hbc hbl T HSP hsw
      go_upto_region 7 with fail
      clear d0 d1
      generalize wr.alloc (.cells #[.int .i64 (sp : Int), .int .i64 wy] 79) = V5 at T1 ⊢
      generalize wr.heap.size = sq at T1 HAS ⊢
      have s0 : V5.cell? ⟨sq, 0, none⟩ = some (.int .i64 (sp : Int)) := T1.out.2.2.2.2.2.cell 0
      have s1 : V5.cell? ⟨sq, 1, none⟩ = some (.int .i64 wy) := T1.out.2.2.2.2.2.cell 1
      have a0 : V5.cell? ⟨aq, 0, none⟩ = some (.int .i64 (ahP (fq : Int) B k)) := T1.out.2.2.2.2.1.cell 0
      have a1 : V5.cell? ⟨aq, 1, none⟩ = some (.int .i64 (ahW fw B k)) := T1.out.2.2.2.2.1.cell 1
      have f0 := T1.out.2.2.2.2.1.free 0
      have f1 := T1.out.2.2.2.2.1.free 1
      have T8 : Hid (Below w.heap.size w ((V5.setCell ⟨aq, 0, none⟩ (.int .i64 (sp : Int))).setCell ⟨aq, 1, none⟩ (.int .i64 wy)) ∧ Box ((V5.setCell ⟨aq, 0, none⟩ (.int .i64 (sp : Int))).setCell ⟨aq, 1, none⟩ (.int .i64 wy)) (w.heap.size) 38 #[.slice (some ⟨pb, po, none⟩) v.n pc, .slice ja v.m jc] ∧ Box ((V5.setCell ⟨aq, 0, none⟩ (.int .i64 (sp : Int))).setCell ⟨aq, 1, none⟩ (.int .i64 wy)) (w.heap.size + 1) 43 #[.int .i64 (fq : Int), .int .i64 fa, .int .i64 fw, .int .i64 lg, .slice (some ⟨bb, bo, none⟩) nb bk] ∧ Box ((V5.setCell ⟨aq, 0, none⟩ (.int .i64 (sp : Int))).setCell ⟨aq, 1, none⟩ (.int .i64 wy)) (w.heap.size + 1 + 1) 40 #[.int .i64 0, .int .i64 0, .int .i64 0] ∧ Box ((V5.setCell ⟨aq, 0, none⟩ (.int .i64 (sp : Int))).setCell ⟨aq, 1, none⟩ (.int .i64 wy)) (aq) 79 #[.int .i64 (ahP (fq : Int) B (k + 1)), .int .i64 (ahW fw B (k + 1))] ∧ Box ((V5.setCell ⟨aq, 0, none⟩ (.int .i64 (sp : Int))).setCell ⟨aq, 1, none⟩ (.int .i64 wy)) (sq) 79 #[.int .i64 (sp : Int), .int .i64 wy]) := by
        refine ⟨(T1.out.1.setCell HAQ.out.1 _).setCell HAQ.out.1 _, (T1.out.2.1.other HAQ.out.2.1 _).other HAQ.out.2.1 _, (T1.out.2.2.1.other HAQ.out.2.2.1 _).other HAQ.out.2.2.1 _, (T1.out.2.2.2.1.other HAQ.out.2.2.2 _).other HAQ.out.2.2.2 _, ?_, (T1.out.2.2.2.2.2.other HAS.out _).other HAS.out _⟩
        have h9 := (T1.out.2.2.2.2.1.set 0 (.int .i64 (sp : Int))).set 1 (.int .i64 wy)
        rw [show ahP (fq : Int) B (k + 1) = (sp : Int) from HSP2.out, show ahW fw B (k + 1) = wy from HWY.out]
        exact h9
      clear T1
      go_upto_region 9 with fail
      clear s0 s1 a0 a1 f0 f1
      generalize ((V5.setCell ⟨aq, 0, none⟩ (.int .i64 (sp : Int))).setCell ⟨aq, 1, none⟩ (.int .i64 wy)) = W6 at T8 ⊢
      have n0 : W6.cell? ⟨w.heap.size, 0, none⟩ = some (.slice (some ⟨pb, po, none⟩) v.n pc) := T8.out.2.1.cell 0
      have s0 : W6.cell? ⟨sq, 0, none⟩ = some (.int .i64 (sp : Int)) := T8.out.2.2.2.2.2.cell 0
      have c1 : W6.cell? ⟨pb, po + sp * 4 + 1, none⟩ = some (.int .i64 (v.P sp).ln) := cell_keep T8.out.1 (HPC.out sp hspn).1 (HPC.out sp hspn).2
      have T9 : Hid (Below w.heap.size w W6 ∧ Box W6 (w.heap.size) 38 #[.slice (some ⟨pb, po, none⟩) v.n pc, .slice ja v.m jc] ∧ Box W6 (w.heap.size + 1) 43 #[.int .i64 (fq : Int), .int .i64 fa, .int .i64 fw, .int .i64 lg, .slice (some ⟨bb, bo, none⟩) nb bk] ∧ Box W6 (w.heap.size + 1 + 1) 40 #[.int .i64 0, .int .i64 0, .int .i64 0] ∧ Box W6 (aq) 79 #[.int .i64 (ahP (fq : Int) B (k + 1)), .int .i64 (ahW fw B (k + 1))]) := ⟨T8.out.1, T8.out.2.1, T8.out.2.2.1, T8.out.2.2.2.1, T8.out.2.2.2.2.1⟩
      clear T8
      go_wp2_with fail
      clear n0 s0 c1
      go_roundw
      case rel => exact ⟨k + 1, x - y, _, by omega, by go_num, rfl, rfl, ⟨HLQ.out.1, HNY.out⟩, T9⟩
      case measure => simp [intOf]; omega
    · obtain rfl : nb = k := by omega
      obtain ⟨sp, HSP, hspn, hsw⟩ : ∃ q : Nat, Hid (ahP (fq : Int) B nb = (q : Int)) ∧ q < v.n ∧ (ahW fw B nb = 1 ∨ ahW fw B nb = -1) := H.out.2.1.sp nb (Nat.le_refl _)
      obtain ⟨wy, HWY⟩ : ∃ q, Hid (ahW fw B nb = q) := ⟨_, rfl⟩
      rw [HWY.out] at hsw
      have HAT : Hid (tlA v (fq : Int) fa fw lg nb B = farI (v.P sp).ln (y - x) wy) := by
        show _ = _
        rw [tlA, HSP.out, HWY.out, Int.toNat_natCast, ← lq_end H.out.1 H.out.2.1, ← HX.out.1, ← HX.out.2]
      have hbnd : 0 ≤ y - x ∧ y - x ≤ 10000000 := by
        have h1 := H.out.2.1.fr H.out.1 (Nat.le_refl nb)
        have h2 := H.out.2.1.he H.out.1 (Nat.le_refl nb)
        rw [show frF v (fq : Int) fa fw lg nb B nb = hvF v (fq : Int) fa fw B nb - lg from if_pos rfl, ← lq_end H.out.1 H.out.2.1, ← HX.out.1, ← HX.out.2] at h1
        rw [← HX.out.2] at h2
        omega
      have hy1 : 0 ≤ y ∧ y ≤ 10000000 := by
        have h2 := H.out.2.1.he H.out.1 (Nat.le_refl nb)
        rw [← HX.out.2] at h2
        exact ⟨h2.1, h2.2.1⟩
      have hln := H.out.1.ln sp hspn
      have hwx : IntKind.i64.wrap (y - x) = y - x := by rw [IntKind.wrap_i64]; omega
      obtain ⟨t, HT⟩ : ∃ t, Hid (y - x = t) := ⟨_, rfl⟩
      rw [HT.out] at hbnd HAT
      have hwt : IntKind.i64.wrap (y - x) = t := by rw [hwx, HT.out]
      clear hwx
      have hwt2 : IntKind.i64.wrap ((v.P sp).ln - t) = (v.P sp).ln - t := by rw [IntKind.wrap_i64]; omega
      have TA : Hid (Below w.heap.size w wr ∧ Box wr (w.heap.size) 38 #[.slice (some ⟨pb, po, none⟩) v.n pc, .slice ja v.m jc] ∧ Box wr (w.heap.size + 1) 43 #[.int .i64 (fq : Int), .int .i64 fa, .int .i64 fw, .int .i64 lg, .slice ba nb bk] ∧ Box wr (w.heap.size + 1 + 1) 40 #[.int .i64 0, .int .i64 0, .int .i64 0] ∧ Box wr (aq) 79 #[.int .i64 (sp : Int), .int .i64 wy]) := ⟨T.out.1, T.out.2.1, T.out.2.2.1, T.out.2.2.2.1, by have h9 := T.out.2.2.2.2; rw [HSP.out, HWY.out] at h9; exact h9⟩
      have TO : Hid (Below w.heap.size w (wr.alloc (.cells #[.int .i64 (sp : Int), .int .i64 t, .int .i64 wy] 40)) ∧ Box (wr.alloc (.cells #[.int .i64 (sp : Int), .int .i64 t, .int .i64 wy] 40)) (w.heap.size) 38 #[.slice (some ⟨pb, po, none⟩) v.n pc, .slice ja v.m jc] ∧ Box (wr.alloc (.cells #[.int .i64 (sp : Int), .int .i64 t, .int .i64 wy] 40)) (w.heap.size + 1) 43 #[.int .i64 (fq : Int), .int .i64 fa, .int .i64 fw, .int .i64 lg, .slice ba nb bk] ∧ Box (wr.alloc (.cells #[.int .i64 (sp : Int), .int .i64 t, .int .i64 wy] 40)) (w.heap.size + 1 + 1) 40 #[.int .i64 0, .int .i64 0, .int .i64 0] ∧ Box (wr.alloc (.cells #[.int .i64 (sp : Int), .int .i64 t, .int .i64 wy] 40)) (aq) 79 #[.int .i64 (sp : Int), .int .i64 wy] ∧ Box (wr.alloc (.cells #[.int .i64 (sp : Int), .int .i64 t, .int .i64 wy] 40)) wr.heap.size 40 #[.int .i64 (sp : Int), .int .i64 t, .int .i64 wy]) := ⟨TA.out.1.alloc TA.out.1.size _, TA.out.2.1.alloc _, TA.out.2.2.1.alloc _, TA.out.2.2.2.1.alloc _, TA.out.2.2.2.2.alloc _, Box.new _ _ _⟩
      have HON : Hid (w.heap.size + 1 + 1 ≠ wr.heap.size ∧ w.heap.size ≤ wr.heap.size) := ⟨by have := TA.out.2.2.2.1.lt; omega, TA.out.1.size⟩
      have a0 : wr.cell? ⟨aq, 0, none⟩ = some (.int .i64 (sp : Int)) := TA.out.2.2.2.2.cell 0
      have a1 : wr.cell? ⟨aq, 1, none⟩ = some (.int .i64 wy) := TA.out.2.2.2.2.cell 1
      clear T TA
      have HC1 : Hid (pb < w.heap.size ∧ w.cell? ⟨pb, po + sp * 4 + 1, none⟩ = some (.int .i64 (v.P sp).ln)) := HPC.out sp hspn
      go_upto_region 12 with fail
      clear a0 a1
      generalize wr.alloc (.cells #[.int .i64 (sp : Int), .int .i64 t, .int .i64 wy] 40) = V6 at TO ⊢
      generalize wr.heap.size = ob at TO HON ⊢
      have a1 : V6.cell? ⟨aq, 1, none⟩ = some (.int .i64 wy) := TO.out.2.2.2.2.1.cell 1
      rcases hsw with hw1 | hw1
      · have hw2 : (wy == -1) = false := by rw [hw1]; rfl
        have HAV : Hid (farI (v.P sp).ln t wy = t) := by show _ = _; rw [hw1]; exact if_pos rfl
        clear hw1
        go_upto_region 14 with fail
        clear a1
        have o0 : V6.cell? ⟨ob, 0, none⟩ = some (.int .i64 (sp : Int)) := TO.out.2.2.2.2.2.cell 0
        have o1 : V6.cell? ⟨ob, 1, none⟩ = some (.int .i64 t) := TO.out.2.2.2.2.2.cell 1
        have o2 : V6.cell? ⟨ob, 2, none⟩ = some (.int .i64 wy) := TO.out.2.2.2.2.2.cell 2
        have z0 : V6.cell? ⟨w.heap.size + 1 + 1, 0, none⟩ = some (.int .i64 0) := TO.out.2.2.2.1.cell 0
        have z1 : V6.cell? ⟨w.heap.size + 1 + 1, 1, none⟩ = some (.int .i64 0) := TO.out.2.2.2.1.cell 1
        have z2 : V6.cell? ⟨w.heap.size + 1 + 1, 2, none⟩ = some (.int .i64 0) := TO.out.2.2.2.1.cell 2
        have q0 := TO.out.2.2.2.1.free 0
        have q1 := TO.out.2.2.2.1.free 1
        have q2 := TO.out.2.2.2.1.free 2
        have MF : Hid (Below w.heap.size w (((V6.setCell ⟨w.heap.size + 1 + 1, 0, none⟩ (.int .i64 (sp : Int))).setCell ⟨w.heap.size + 1 + 1, 1, none⟩ (.int .i64 t)).setCell ⟨w.heap.size + 1 + 1, 2, none⟩ (.int .i64 wy)) ∧ Box (((V6.setCell ⟨w.heap.size + 1 + 1, 0, none⟩ (.int .i64 (sp : Int))).setCell ⟨w.heap.size + 1 + 1, 1, none⟩ (.int .i64 t)).setCell ⟨w.heap.size + 1 + 1, 2, none⟩ (.int .i64 wy)) (w.heap.size + 1 + 1) 40 #[.int .i64 (sp : Int), .int .i64 t, .int .i64 wy]) := ⟨((TO.out.1.setCell (Nat.le_add_right _ 2) _).setCell (Nat.le_add_right _ 2) _).setCell (Nat.le_add_right _ 2) _, by
          have h9 := ((TO.out.2.2.2.1.set 0 (.int .i64 (sp : Int))).set 1 (.int .i64 t)).set 2 (.int .i64 wy)
          exact h9⟩
        clear TO
        go_wp2_with fail
        clear o0 o1 o2 z0 z1 z2 q0 q1 q2
        generalize (((V6.setCell ⟨w.heap.size + 1 + 1, 0, none⟩ (.int .i64 (sp : Int))).setCell ⟨w.heap.size + 1 + 1, 1, none⟩ (.int .i64 t)).setCell ⟨w.heap.size + 1 + 1, 2, none⟩ (.int .i64 wy)) = W8 at MF ⊢
        have z0 : W8.cell? ⟨w.heap.size + 1 + 1, 0, none⟩ = some (.int .i64 (sp : Int)) := MF.out.2.cell 0
        have z1 : W8.cell? ⟨w.heap.size + 1 + 1, 1, none⟩ = some (.int .i64 t) := MF.out.2.cell 1
        have z2 : W8.cell? ⟨w.heap.size + 1 + 1, 2, none⟩ = some (.int .i64 wy) := MF.out.2.cell 2
        exact bodyPost_ret (v := .agg #[.int .i64 (sp : Int), .int .i64 t, .int .i64 wy]) (by simp [results, Tryz.results40, go_sem, z0, z1, z2]) rfl ⟨by rw [HSP.out, HWY.out, HAT.out, HAV.out], MF.out.1⟩
      · have HAV : Hid (farI (v.P sp).ln t wy = (v.P sp).ln - t) := by show _ = _; rw [hw1]; exact if_neg (by decide)
        have hw2 : (wy == -1) = true := by rw [hw1]; rfl
        clear hw1
        obtain ⟨z, HZ⟩ : ∃ z, Hid ((v.P sp).ln - t = z) := ⟨_, rfl⟩
        have hsp0 : (0 : Int) ≤ (sp : Int) := by omega
        have hspi : (sp : Int) < (v.n : Int) := by omega
        have MO : Hid (Below w.heap.size w V6.drew ∧ Box V6.drew (w.heap.size) 38 #[.slice (some ⟨pb, po, none⟩) v.n pc, .slice ja v.m jc] ∧ Box V6.drew (w.heap.size + 1) 43 #[.int .i64 (fq : Int), .int .i64 fa, .int .i64 fw, .int .i64 lg, .slice ba nb bk] ∧ Box V6.drew (w.heap.size + 1 + 1) 40 #[.int .i64 0, .int .i64 0, .int .i64 0] ∧ Box V6.drew (aq) 79 #[.int .i64 (sp : Int), .int .i64 wy] ∧ Box V6.drew (ob) 40 #[.int .i64 (sp : Int), .int .i64 t, .int .i64 wy]) := ⟨TO.out.1.drew, TO.out.2.1.drew, TO.out.2.2.1.drew, TO.out.2.2.2.1.drew, TO.out.2.2.2.2.1.drew, TO.out.2.2.2.2.2.drew⟩
        have n0 : V6.cell? ⟨w.heap.size, 0, none⟩ = some (.slice (some ⟨pb, po, none⟩) v.n pc) := TO.out.2.1.cell 0
        have n1 : V6.cell? ⟨w.heap.size, 1, none⟩ = some (.slice ja v.m jc) := TO.out.2.1.cell 1
        have a0 : V6.cell? ⟨aq, 0, none⟩ = some (.int .i64 (sp : Int)) := TO.out.2.2.2.2.1.cell 0
        have c1 : V6.cell? ⟨pb, po + sp * 4 + 1, none⟩ = some (.int .i64 (v.P sp).ln) := cell_keep TO.out.1 HC1.out.1 HC1.out.2
        have o1 : V6.cell? ⟨ob, 1, none⟩ = some (.int .i64 t) := TO.out.2.2.2.2.2.cell 1
        have f1 := TO.out.2.2.2.2.2.free 1
        have HOE : Hid (w.heap.size ≠ ob ∧ w.heap.size + 1 ≠ ob ∧ w.heap.size + 1 + 1 ≠ ob ∧ aq ≠ ob) := ⟨box_ne TO.out.2.1 TO.out.2.2.2.2.2 (by decide), box_ne TO.out.2.2.1 TO.out.2.2.2.2.2 (by decide), HON.out.1, box_ne TO.out.2.2.2.2.1 TO.out.2.2.2.2.2 (by decide)⟩
        have MP : Hid (Below w.heap.size w (V6.setCell ⟨ob, 1, none⟩ (.int .i64 z)).drew ∧ Box (V6.setCell ⟨ob, 1, none⟩ (.int .i64 z)).drew (w.heap.size) 38 #[.slice (some ⟨pb, po, none⟩) v.n pc, .slice ja v.m jc] ∧ Box (V6.setCell ⟨ob, 1, none⟩ (.int .i64 z)).drew (w.heap.size + 1) 43 #[.int .i64 (fq : Int), .int .i64 fa, .int .i64 fw, .int .i64 lg, .slice ba nb bk] ∧ Box (V6.setCell ⟨ob, 1, none⟩ (.int .i64 z)).drew (w.heap.size + 1 + 1) 40 #[.int .i64 0, .int .i64 0, .int .i64 0] ∧ Box (V6.setCell ⟨ob, 1, none⟩ (.int .i64 z)).drew (aq) 79 #[.int .i64 (sp : Int), .int .i64 wy] ∧ Box (V6.setCell ⟨ob, 1, none⟩ (.int .i64 z)).drew (ob) 40 #[.int .i64 (sp : Int), .int .i64 z, .int .i64 wy]) := ⟨(TO.out.1.setCell HON.out.2 _).drew, TO.out.2.1.other HOE.out.1 _, TO.out.2.2.1.other HOE.out.2.1 _, TO.out.2.2.2.1.other HOE.out.2.2.1 _, TO.out.2.2.2.2.1.other HOE.out.2.2.2 _, by
          have h9 := TO.out.2.2.2.2.2.set 1 (.int .i64 z)
          exact h9⟩
        have hwt3 : IntKind.i64.wrap ((v.P sp).ln - t) = z := hwt2.trans HZ.out
        clear hwt2
        clear TO
        go_upto_region 13 with fail
        go_wp2_with fail
        refine wp_region_held_drew (S := (fun wx : World => wx.cell? ⟨w.heap.size, 0, none⟩ = some (.slice (some ⟨pb, po, none⟩) v.n pc) ∧ wx.cell? ⟨w.heap.size, 1, none⟩ = some (.slice ja v.m jc) ∧ wx.cell? ⟨aq, 0, none⟩ = some (.int .i64 (sp : Int)) ∧ wx.cell? ⟨pb, po + sp * 4 + 1, none⟩ = some (.int .i64 (v.P sp).ln))) (by kernel_rfl) ?_ (fun hHeld => ?_)
        · exact ⟨n0, n1, a0, c1⟩
        refine tk 0 ?_
        refine tk 1 ?_
        refine tk 2 ?_
        refine tk 3 ?_
        refine tk 4 ?_
        refine tk 5 ?_
        refine tk 6 ?_
        refine tk 7 ?_
        refine rl 8 fun K hK => ?_
        go_simp
        refine hK.out _ _ ?_ (fun hHeld8 => ?_)
        · exact ⟨(MO.out.2.1.cell 0), (MO.out.2.1.cell 1), (MO.out.2.2.2.2.1.cell 0), (cell_keep MO.out.1 HC1.out.1 HC1.out.2)⟩
        clear hK K
        refine tk 9 ?_
        refine tk 10 ?_
        refine rl 11 fun K hK => ?_
        go_simp
        refine hK.out _ _ ?_ (fun hHeld11 => ?_)
        · exact ⟨MP.out.2.1.cell 0, MP.out.2.1.cell 1, MP.out.2.2.2.2.1.cell 0, cell_keep MP.out.1 HC1.out.1 HC1.out.2⟩
        clear hK K
        refine wpAnyH_done (by kernel_rfl) ?_ _
        generalize (V6.setCell ⟨ob, 1, none⟩ (.int .i64 z)).drew = W7 at MP ⊢
        clear n0 n1 a0 a1 c1 o1 f1 MO
        have o0 : W7.cell? ⟨ob, 0, none⟩ = some (.int .i64 (sp : Int)) := MP.out.2.2.2.2.2.cell 0
        have o1 : W7.cell? ⟨ob, 1, none⟩ = some (.int .i64 z) := MP.out.2.2.2.2.2.cell 1
        have o2 : W7.cell? ⟨ob, 2, none⟩ = some (.int .i64 wy) := MP.out.2.2.2.2.2.cell 2
        have z0 : W7.cell? ⟨w.heap.size + 1 + 1, 0, none⟩ = some (.int .i64 0) := MP.out.2.2.2.1.cell 0
        have z1 : W7.cell? ⟨w.heap.size + 1 + 1, 1, none⟩ = some (.int .i64 0) := MP.out.2.2.2.1.cell 1
        have z2 : W7.cell? ⟨w.heap.size + 1 + 1, 2, none⟩ = some (.int .i64 0) := MP.out.2.2.2.1.cell 2
        have q0 := MP.out.2.2.2.1.free 0
        have q1 := MP.out.2.2.2.1.free 1
        have q2 := MP.out.2.2.2.1.free 2
        have MF : Hid (Below w.heap.size w (((W7.setCell ⟨w.heap.size + 1 + 1, 0, none⟩ (.int .i64 (sp : Int))).setCell ⟨w.heap.size + 1 + 1, 1, none⟩ (.int .i64 z)).setCell ⟨w.heap.size + 1 + 1, 2, none⟩ (.int .i64 wy)) ∧ Box (((W7.setCell ⟨w.heap.size + 1 + 1, 0, none⟩ (.int .i64 (sp : Int))).setCell ⟨w.heap.size + 1 + 1, 1, none⟩ (.int .i64 z)).setCell ⟨w.heap.size + 1 + 1, 2, none⟩ (.int .i64 wy)) (w.heap.size + 1 + 1) 40 #[.int .i64 (sp : Int), .int .i64 z, .int .i64 wy]) := ⟨((MP.out.1.setCell (Nat.le_add_right _ 2) _).setCell (Nat.le_add_right _ 2) _).setCell (Nat.le_add_right _ 2) _, by
          have h9 := ((MP.out.2.2.2.1.set 0 (.int .i64 (sp : Int))).set 1 (.int .i64 z)).set 2 (.int .i64 wy)
          exact h9⟩
        clear MP
        go_wp2_with fail
        clear o0 o1 o2 z0 z1 z2 q0 q1 q2
        generalize (((W7.setCell ⟨w.heap.size + 1 + 1, 0, none⟩ (.int .i64 (sp : Int))).setCell ⟨w.heap.size + 1 + 1, 1, none⟩ (.int .i64 z)).setCell ⟨w.heap.size + 1 + 1, 2, none⟩ (.int .i64 wy)) = W8 at MF ⊢
        have z0 : W8.cell? ⟨w.heap.size + 1 + 1, 0, none⟩ = some (.int .i64 (sp : Int)) := MF.out.2.cell 0
        have z1 : W8.cell? ⟨w.heap.size + 1 + 1, 1, none⟩ = some (.int .i64 z) := MF.out.2.cell 1
        have z2 : W8.cell? ⟨w.heap.size + 1 + 1, 2, none⟩ = some (.int .i64 wy) := MF.out.2.cell 2
        exact bodyPost_ret (v := .agg #[.int .i64 (sp : Int), .int .i64 z, .int .i64 wy]) (by simp [results, Tryz.results40, go_sem, z0, z1, z2]) rfl ⟨by rw [HSP.out, HWY.out, HAT.out, HAV.out, HZ.out], MF.out.1⟩
def CpAt (w : World) (c : Nat) (xa : Option Addr) (m xc : Nat) (F : Nat → Nat → Value) : Prop := (m = 0 ∧ xa = none ∧ xc = 0) ∨ ∃ b off, xa = some ⟨b, off, none⟩ ∧ b < w.heap.size ∧ ∀ i, i < m → ∀ j, j < c → w.cell? ⟨b, off + i * c + j, none⟩ = some (F i j)
theorem CpAt.mono {w w' : World} {c : Nat} {xa : Option Addr} {m xc : Nat} {F : Nat → Nat → Value} (h : CpAt w c xa m xc F) (hb : Below w.heap.size w w') : CpAt w' c xa m xc F := by
  rcases h with h | ⟨b, off, h1, h2, h3⟩
  · exact .inl h
  · exact .inr ⟨b, off, h1, Nat.lt_of_lt_of_le h2 hb.size, fun i hi j hj => cell_keep hb h2 (h3 i hi j hj)⟩
theorem CpAt.of_own {B : Nat} {e : TypeId} {c : Nat} {w : World} {a : Option Addr} {n cap : Nat} {F : Nat → Nat → Value} (h : VOwn B e c w (.slice a n cap) n F) : CpAt w c a n cap F := by
  rcases h with ⟨h1, h2⟩ | ⟨g, cp, cur, h1, h2, h3, h4, h5, h6, h7⟩
  · simp only [Value.slice.injEq] at h1
    exact .inl ⟨h2, h1.1, h1.2.2⟩
  · simp only [Value.slice.injEq] at h1
    exact .inr ⟨g, 0, h1.1, h3.lt, fun i hi j hj => by rw [h3.cell, Nat.zero_add]; exact h7 i hi j hj⟩
theorem run_copy {P : Program} (w : World) (t ty e : TypeId) (i : TypeInfo) (z : Value) (c bytes : Nat) (ht : P.underlying t = some (.slice e)) (hi : P.info? e = some i) (hz : i.zero = some z) (hsize : i.size = c) (hby : i.bytes = bytes) (hzs : z.cells.size = c) (hsz : 0 < c)
    (xa : Option Addr) (m xc : Nat) (F : Nat → Nat → Value) (h1 : ∀ i j, (F i j).oneCell' = true) (hx : CpAt w c xa m xc F) (h63 : m ≤ maxLen) (hb : m * bytes ≤ 140737488355328) :
    ∃ v' w', (Builtin.append_ #[t, t] ty #[.slice none 0 0, .slice xa m xc]).run P w = .ok v' w' ∧ VOwn w.heap.size e c w' v' m F ∧ w.grownBy w' none := by
  rcases hx with ⟨rfl, rfl, rfl⟩ | ⟨b, off, rfl, hlt, hc⟩
  · exact ⟨_, w, run_append_owned_none w 0 t ty e i c ht hi (.slice none 0 0) 0 [] (World.ownsRow_nil _ _ _ _), VOwn.nil _ _ _ _ _, ⟨rfl, rfl, rfl, Nat.le_refl _, fun _ _ _ => rfl⟩⟩
  · obtain ⟨v', w', hr, ho, hg, _⟩ := run_append_own (P := P) w w.heap.size t ty e i z c bytes ht hi hz hsize hby hzs hsz (.slice none 0 0) 0 [] (World.ownsRow_nil _ _ _ _) ⟨b, off, none⟩ m xc (vcells c m F) (vcells_len _ _ _) (fun j u hj => by
        have hk : j < m * c := by
          by_cases e : j < m * c
          · exact e
          · rw [List.getElem?_eq_none (by rw [vcells_len]; omega)] at hj
            cases hj
        obtain ⟨k1, k2, k3⟩ := vcells_spot hk
        have hadd : (⟨b, off, none⟩ : Addr).add j = ⟨b, off + j, none⟩ := by unfold Addr.add; split <;> simp_all
        rw [← k3, vcells_at k1 k2] at hj
        rw [hadd, ← k3, ← Nat.add_assoc, hc _ k1 _ k2]
        exact hj) (fun u hu => by
        simp only [vcells, List.mem_flatMap, List.mem_map] at hu
        obtain ⟨i, _, j, _, rfl⟩ := hu
        exact h1 i j) (by omega) (by rw [Nat.zero_add]; exact hb) (Nat.le_refl _)
    refine ⟨v', w', hr, VOwn.of_row ?_, hg⟩
    simpa using ho
theorem step_copy {P : Program} (w : World) {ops : Array Oper} {o : Oper} {a : Act} {K : Act → World → Prop} {Q : Exit → Act → World → Prop} {E : Prop} (hgd : o.guard = none) (s x : Operand) (t : TypeId)
    (ho : o.op = .call { callee := .builtin .append, args := #[s, x], argTypes := #[t, t] })
    (e : TypeId) (i : TypeInfo) (z : Value) (c bytes : Nat) (ht : P.underlying t = some (.slice e)) (hi : P.info? e = some i) (hz : i.zero = some z)
    (hsize : i.size = c) (hby : i.bytes = bytes) (hzs : z.cells.size = c) (hsz : 0 < c) (hs : a.eval s = .slice none 0 0)
    (xa : Option Addr) (m xc : Nat) (F : Nat → Nat → Value) (hx : a.eval x = .slice xa m xc) (h1 : ∀ i j, (F i j).oneCell' = true) (hc : CpAt w c xa m xc F) (h63 : m ≤ maxLen) (hb : m * bytes ≤ 140737488355328)
    (h : ∀ va vc w', VOwn w.heap.size e c w' (.slice va m vc) m F → w.grownBy w' none → K (a.put o.dst (.slice va m vc)) w') :
    if Region.wanted o (yielded ops a.tmps) = true then Oper.wp P o a w K Q else E := by
  have hw : Region.wanted o (yielded ops a.tmps) = true := by simp [Region.wanted, hgd]
  rw [if_pos hw]
  obtain ⟨v', w', hr, h2, h3⟩ := run_copy (P := P) w t o.type e i z c bytes ht hi hz hsize hby hzs hsz xa m xc F h1 hc h63 hb
  obtain ⟨va, vc, rfl⟩ := h2.val
  unfold Oper.wp execOp
  simp only [ho, resolve, invoke, builtin, Sem.run_bind, Sem.run_pure, Result.andThen_ok, List.map_toArray, List.map_cons, List.map_nil, hs, hx, hr]
  exact h va vc w' h2 h3
theorem step_vapp {P : Program} (w : World) {ops : Array Oper} {o : Oper} {a : Act} {K : Act → World → Prop} {Q : Exit → Act → World → Prop} {E : Prop} (hgd : o.guard = none) (s x : Operand) (t : TypeId)
    (ho : o.op = .call { callee := .builtin .append, args := #[s, x], argTypes := #[t, t] })
    (B : Nat) (e : TypeId) (i : TypeInfo) (z : Value) (c bytes : Nat) (ht : P.underlying t = some (.slice e)) (hi : P.info? e = some i) (hz : i.zero = some z)
    (hsize : i.size = c) (hby : i.bytes = bytes) (hzs : z.cells.size = c) (hsz : 0 < c)
    (v : Value) (n : Nat) (F : Nat → Nat → Value) (hs : a.eval s = v) (hown : VOwn B e c w v n F) (h1 : ∀ i j, (F i j).oneCell' = true)
    (q cap : Nat) (vs : Array Value) (hx : a.eval x = .slice (some ⟨q, 0, none⟩) 1 cap) (hb : Box w q e vs) (hvs : vs.toList = (List.range c).map (F n))
    (h63 : n + 1 ≤ maxLen) (hbytes : (n + 1) * bytes ≤ 140737488355328) (hbase : B ≤ w.heap.size)
    (h : ∀ g gc w', VOwn B e c w' (.slice (some ⟨g, 0, none⟩) (n + 1) gc) (n + 1) F → w.grownBy w' v.ownBlock → K (a.put o.dst (.slice (some ⟨g, 0, none⟩) (n + 1) gc)) w') :
    if Region.wanted o (yielded ops a.tmps) = true then Oper.wp P o a w K Q else E := by
  refine step_append_lies w hgd s x t ho B e i z c bytes ht hi hz hsize hby hzs hsz v n (vcells c n F) hs hown.row ⟨q, 0, none⟩ 1 cap ((List.range c).map (F n)) hx (by simp) ?_ ?_ (by omega) h63 hbytes hbase w.heap.size rfl ?_
  · intro j u hj
    rw [← hvs] at hj
    have hadd : (⟨q, 0, none⟩ : Addr).add j = ⟨q, j, none⟩ := by unfold Addr.add; split <;> simp_all
    rw [hadd, hb.cell]
    simpa using hj
  · intro u hu
    obtain ⟨j, _, rfl⟩ := List.mem_map.1 hu
    exact h1 _ _
  · intro g gc w' ho' hg' _ _
    rw [← vcells_succ] at ho'
    exact h g gc w' (VOwn.of_row ho') hg'
theorem below_grownN {B : Nat} {a w w' : World} (h : Below B a w) (hg : w.grownBy w' none) (hB : B ≤ w.heap.size) : Below B a w' := h.grown hg hB (fun j hj => by cases hj)
theorem Box.grownN {w w' : World} {b : Nat} {T : TypeId} {vs : Array Value} (h : Box w b T vs) (hg : w.grownBy w' none) : Box w' b T vs := h.grown hg (by simp)
theorem VOwn.grownN {B : Nat} {e : TypeId} {c : Nat} {w w' : World} {v : Value} {n : Nat} {F : Nat → Nat → Value} (h : VOwn B e c w v n F) (hg : w.grownBy w' none) : VOwn B e c w' v n F := h.keep (Nat.le_refl _) fun g hgg => hg.block g (h.lt hgg).2 (by simp)
def tdF (v : Nv) (fp fa fw lg : Int) (nb : Nat) (B : Nat → Nat → Int) (c : Nat) : Int := if trainF v fp fa fw lg nb B = true then (if c = 0 then ahP fp B nb else if c = 1 then tlA v fp fa fw lg nb B else if c = 2 then -(ahW fw B nb) else lg) else 0
def tdN (v : Nv) (fp fa fw lg : Int) (nb : Nat) (B : Nat → Nat → Int) : Nat := if trainF v fp fa fw lg nb B = true then nb - noF v fp fa fw B else 0
/-- what Turned answers: its back lies in a list of its own -/
def TdR (w : World) (v : Nv) (fp fa fw lg : Int) (nb : Nat) (B : Nat → Nat → Int) (e : Ending) (w' : World) : Prop := ∃ a c, e = .returned (.agg #[.int .i64 (tdF v fp fa fw lg nb B 0), .int .i64 (tdF v fp fa fw lg nb B 1), .int .i64 (tdF v fp fa fw lg nb B 2), .int .i64 (tdF v fp fa fw lg nb B 3), .slice a (tdN v fp fa fw lg nb B) c]) ∧ VOwn w.heap.size 79 2 w' (.slice a (tdN v fp fa fw lg nb B) c) (tdN v fp fa fw lg nb B) (intF (bkF fp fw nb B)) ∧ Below w.heap.size w w'
theorem td_yes {w : World} {v : Nv} {fp fa fw lg : Int} {nb : Nat} {B : Nat → Nat → Int} {e : Ending} {w' : World} {a : Option Addr} {c : Nat} (h : trainF v fp fa fw lg nb B = true) (he : e = .returned (.agg #[.int .i64 (ahP fp B nb), .int .i64 (tlA v fp fa fw lg nb B), .int .i64 (-(ahW fw B nb)), .int .i64 lg, .slice a (nb - noF v fp fa fw B) c])) (ho : VOwn w.heap.size 79 2 w' (.slice a (nb - noF v fp fa fw B) c) (nb - noF v fp fa fw B) (intF (bkF fp fw nb B))) (hb : Below w.heap.size w w') : TdR w v fp fa fw lg nb B e w' := by
  have e0 : tdF v fp fa fw lg nb B 0 = ahP fp B nb := if_pos h
  have e1 : tdF v fp fa fw lg nb B 1 = tlA v fp fa fw lg nb B := if_pos h
  have e2 : tdF v fp fa fw lg nb B 2 = -(ahW fw B nb) := if_pos h
  have e3 : tdF v fp fa fw lg nb B 3 = lg := if_pos h
  have e4 : tdN v fp fa fw lg nb B = nb - noF v fp fa fw B := if_pos h
  exact ⟨a, c, by rw [e0, e1, e2, e3, e4]; exact he, by rw [e4]; exact ho, hb⟩
theorem td_no {w : World} {v : Nv} {fp fa fw lg : Int} {nb : Nat} {B : Nat → Nat → Int} {e : Ending} {w' : World} (h : trainF v fp fa fw lg nb B = false) (he : e = .returned (.agg #[.int .i64 0, .int .i64 0, .int .i64 0, .int .i64 0, .slice none 0 0])) (hb : Below w.heap.size w w') : TdR w v fp fa fw lg nb B e w' := by
  have hh : ¬ trainF v fp fa fw lg nb B = true := by rw [h]; decide
  have e0 : tdF v fp fa fw lg nb B 0 = 0 := if_neg hh
  have e1 : tdF v fp fa fw lg nb B 1 = 0 := if_neg hh
  have e2 : tdF v fp fa fw lg nb B 2 = 0 := if_neg hh
  have e3 : tdF v fp fa fw lg nb B 3 = 0 := if_neg hh
  have e4 : tdN v fp fa fw lg nb B = 0 := if_neg hh
  exact ⟨none, 0, by rw [e0, e1, e2, e3, e4]; exact he, by rw [e4]; exact VOwn.nil _ _ _ _ _, hb⟩
theorem tr_ok {v : Nv} {fp fa fw lg : Int} {nb : Nat} {B : Nat → Nat → Int} (h : trainF v fp fa fw lg nb B = true) : v.Ok ∧ Trn v fp fa fw lg nb B := by
  have h0 := h
  rw [trainF, Bool.and_eq_true, decide_eq_true_eq] at h0
  exact ⟨nvOk h0.1, trn_of h0.2⟩
theorem infoStepZ : (Tryz.prog.info? 79).map (fun i => (i.zero, i.size, i.bytes)) = some (some (.agg #[.int .i64 0, .int .i64 0]), 2, 16) := by kernel_rfl
set_option maxRecDepth 100000 in
set_option maxHeartbeats 8000000 in
theorem train43 (y0 y1 y2 y3 : Int) (ya : Option Addr) (yn yc M : Nat) (F : Nat → Nat → Int) (w : World) (hn : yn ≤ 1048576) (ho : VOwn M 79 2 w (.slice ya yn yc) yn (intF F)) :
    Calls Tryz.prog 43 #[.agg #[.int .i64 y0, .int .i64 y1, .int .i64 y2, .int .i64 y3, .slice ya yn yc]] w fun e w' => ∃ za zc, e = .returned (.agg #[.int .i64 y0, .int .i64 y1, .int .i64 y2, .int .i64 y3, .slice za yn zc]) ∧ VOwn w.heap.size 79 2 w' (.slice za yn zc) yn (intF F) ∧ Below w.heap.size w w' := by
  obtain ⟨i0, hi0, hz0, hs0, hb0⟩ := info_parts infoStepZ
  have H : Hid (CpAt w 2 ya yn yc (intF F)) := CpAt.of_own ho
  clear ho
  have S0 : Hid (Below w.heap.size w ((w.alloc (.cells #[.int .i64 y0, .int .i64 y1, .int .i64 y2, .int .i64 y3, .slice ya yn yc] 63)).alloc (.cells #[.int .i64 0, .int .i64 0, .int .i64 0, .int .i64 0, .slice none 0 0] 43)) ∧ Box ((w.alloc (.cells #[.int .i64 y0, .int .i64 y1, .int .i64 y2, .int .i64 y3, .slice ya yn yc] 63)).alloc (.cells #[.int .i64 0, .int .i64 0, .int .i64 0, .int .i64 0, .slice none 0 0] 43)) (w.heap.size) 63 #[.int .i64 y0, .int .i64 y1, .int .i64 y2, .int .i64 y3, .slice ya yn yc] ∧ Box ((w.alloc (.cells #[.int .i64 y0, .int .i64 y1, .int .i64 y2, .int .i64 y3, .slice ya yn yc] 63)).alloc (.cells #[.int .i64 0, .int .i64 0, .int .i64 0, .int .i64 0, .slice none 0 0] 43)) (w.heap.size + 1) 43 #[.int .i64 0, .int .i64 0, .int .i64 0, .int .i64 0, .slice none 0 0]) := ⟨bel2 _ _ _, (Box.new _ _ _).alloc _, by have := Box.new (w.alloc (.cells #[.int .i64 y0, .int .i64 y1, .int .i64 y2, .int .i64 y3, .slice ya yn yc] 63)) 43 #[.int .i64 0, .int .i64 0, .int .i64 0, .int .i64 0, .slice none 0 0]; simpa using this⟩
  go_enter Tryz.func43, Tryz.ntmps43
  go_upto_region 1 with fail
  generalize ((w.alloc (.cells #[.int .i64 y0, .int .i64 y1, .int .i64 y2, .int .i64 y3, .slice ya yn yc] 63)).alloc (.cells #[.int .i64 0, .int .i64 0, .int .i64 0, .int .i64 0, .slice none 0 0] 43)) = V0 at S0 ⊢
  have MD : Hid (Below w.heap.size w V0.drew ∧ Box V0.drew (w.heap.size) 63 #[.int .i64 y0, .int .i64 y1, .int .i64 y2, .int .i64 y3, .slice ya yn yc] ∧ Box V0.drew (w.heap.size + 1) 43 #[.int .i64 0, .int .i64 0, .int .i64 0, .int .i64 0, .slice none 0 0]) := ⟨S0.out.1.drew, S0.out.2.1.drew, S0.out.2.2.drew⟩
  have a0 : V0.cell? ⟨w.heap.size, 0, none⟩ = some (.int .i64 y0) := S0.out.2.1.cell 0
  have a1 : V0.cell? ⟨w.heap.size, 1, none⟩ = some (.int .i64 y1) := S0.out.2.1.cell 1
  have a2 : V0.cell? ⟨w.heap.size, 2, none⟩ = some (.int .i64 y2) := S0.out.2.1.cell 2
  have a3 : V0.cell? ⟨w.heap.size, 3, none⟩ = some (.int .i64 y3) := S0.out.2.1.cell 3
  have a4 : V0.cell? ⟨w.heap.size, 4, none⟩ = some (.slice ya yn yc) := S0.out.2.1.cell 4
  clear S0
  go_wp2_with fail
  refine wp_region_held_drew (S := (fun wx : World => wx.cell? ⟨w.heap.size, 0, none⟩ = some (.int .i64 y0) ∧ wx.cell? ⟨w.heap.size, 1, none⟩ = some (.int .i64 y1) ∧ wx.cell? ⟨w.heap.size, 2, none⟩ = some (.int .i64 y2) ∧ wx.cell? ⟨w.heap.size, 3, none⟩ = some (.int .i64 y3) ∧ wx.cell? ⟨w.heap.size, 4, none⟩ = some (.slice ya yn yc))) (by kernel_rfl) ?_ (fun hHeld => ?_)
  · exact ⟨a0, a1, a2, a3, a4⟩
  generalize V0.drew = VD at MD hHeld ⊢
  clear a0 a1 a2 a3 a4
  refine tk 0 ?_
  refine tk 1 ?_
  refine tk 2 ?_
  refine tk 3 ?_
  refine tk 4 ?_
  refine tk 5 ?_
  refine rl 6 fun K hK => ?_
  refine step_copy VD rfl _ _ 41 rfl 79 i0 _ 2 16 Tryz.underlying41 hi0 hz0 hs0 hb0 rfl (by decide) rfl ya yn yc (intF F) rfl (fun _ _ => rfl) (H.out.mono MD.out.1) (by simp only [maxLen]; omega) (by omega) ?_
  intro za zc w2 ho2 hg2
  have M2 : Hid ((Below w.heap.size w w2 ∧ Box w2 (w.heap.size) 63 #[.int .i64 y0, .int .i64 y1, .int .i64 y2, .int .i64 y3, .slice ya yn yc] ∧ Box w2 (w.heap.size + 1) 43 #[.int .i64 0, .int .i64 0, .int .i64 0, .int .i64 0, .slice none 0 0]) ∧ VOwn w.heap.size 79 2 w2 (.slice za yn zc) yn (intF F)) := ⟨⟨below_grownN MD.out.1 hg2 MD.out.1.size, MD.out.2.1.grownN hg2, MD.out.2.2.grownN hg2⟩, ho2.keep MD.out.1.size (fun _ _ => rfl)⟩
  clear ho2 hg2 MD hHeld
  simp only [Act.put, List.setIfInBounds_toArray, List.set_cons_zero, List.set_cons_succ]
  refine hK.out _ _ ?_ (fun hHeld => ?_)
  · exact ⟨M2.out.1.2.1.cell 0, M2.out.1.2.1.cell 1, M2.out.1.2.1.cell 2, M2.out.1.2.1.cell 3, M2.out.1.2.1.cell 4⟩
  clear hK K
  refine tk 7 ?_
  have z0 : w2.cell? ⟨w.heap.size + 1, 0, none⟩ = some (.int .i64 0) := M2.out.1.2.2.cell 0
  have z1 : w2.cell? ⟨w.heap.size + 1, 1, none⟩ = some (.int .i64 0) := M2.out.1.2.2.cell 1
  have z2 : w2.cell? ⟨w.heap.size + 1, 2, none⟩ = some (.int .i64 0) := M2.out.1.2.2.cell 2
  have z3 : w2.cell? ⟨w.heap.size + 1, 3, none⟩ = some (.int .i64 0) := M2.out.1.2.2.cell 3
  have z4 : w2.cell? ⟨w.heap.size + 1, 4, none⟩ = some (.slice none 0 0) := M2.out.1.2.2.cell 4
  have q0 := M2.out.1.2.2.free 0
  have q1 := M2.out.1.2.2.free 1
  have q2 := M2.out.1.2.2.free 2
  have q3 := M2.out.1.2.2.free 3
  have q4 := M2.out.1.2.2.free 4
  have e1 : w.heap.size ≠ w.heap.size + 1 := by omega
  have M3 : Hid ((Below w.heap.size w (((((w2.setCell ⟨w.heap.size + 1, 0, none⟩ (.int .i64 y0)).setCell ⟨w.heap.size + 1, 1, none⟩ (.int .i64 y1)).setCell ⟨w.heap.size + 1, 2, none⟩ (.int .i64 y2)).setCell ⟨w.heap.size + 1, 3, none⟩ (.int .i64 y3)).setCell ⟨w.heap.size + 1, 4, none⟩ (.slice za yn zc)) ∧ Box (((((w2.setCell ⟨w.heap.size + 1, 0, none⟩ (.int .i64 y0)).setCell ⟨w.heap.size + 1, 1, none⟩ (.int .i64 y1)).setCell ⟨w.heap.size + 1, 2, none⟩ (.int .i64 y2)).setCell ⟨w.heap.size + 1, 3, none⟩ (.int .i64 y3)).setCell ⟨w.heap.size + 1, 4, none⟩ (.slice za yn zc)) w.heap.size 63 #[.int .i64 y0, .int .i64 y1, .int .i64 y2, .int .i64 y3, .slice ya yn yc] ∧ Box (((((w2.setCell ⟨w.heap.size + 1, 0, none⟩ (.int .i64 y0)).setCell ⟨w.heap.size + 1, 1, none⟩ (.int .i64 y1)).setCell ⟨w.heap.size + 1, 2, none⟩ (.int .i64 y2)).setCell ⟨w.heap.size + 1, 3, none⟩ (.int .i64 y3)).setCell ⟨w.heap.size + 1, 4, none⟩ (.slice za yn zc)) (w.heap.size + 1) 43 #[.int .i64 y0, .int .i64 y1, .int .i64 y2, .int .i64 y3, .slice za yn zc]) ∧ VOwn w.heap.size 79 2 (((((w2.setCell ⟨w.heap.size + 1, 0, none⟩ (.int .i64 y0)).setCell ⟨w.heap.size + 1, 1, none⟩ (.int .i64 y1)).setCell ⟨w.heap.size + 1, 2, none⟩ (.int .i64 y2)).setCell ⟨w.heap.size + 1, 3, none⟩ (.int .i64 y3)).setCell ⟨w.heap.size + 1, 4, none⟩ (.slice za yn zc)) (.slice za yn zc) yn (intF F)) := ⟨⟨(((((M2.out.1.1.setCell (Nat.le_add_right _ 1) _).setCell (Nat.le_add_right _ 1) _).setCell (Nat.le_add_right _ 1) _).setCell (Nat.le_add_right _ 1) _).setCell (Nat.le_add_right _ 1) _), (((((M2.out.1.2.1.other e1 _).other e1 _).other e1 _).other e1 _).other e1 _), by
    have h9 := (((((M2.out.1.2.2.set 0 (.int .i64 y0)).set 1 (.int .i64 y1)).set 2 (.int .i64 y2)).set 3 (.int .i64 y3)).set 4 (.slice za yn zc))
    exact h9⟩, (((((M2.out.2.set M2.out.1.2.2 (by decide) 0 _).set (M2.out.1.2.2.set 0 (.int .i64 y0)) (by decide) 1 _).set ((M2.out.1.2.2.set 0 (.int .i64 y0)).set 1 (.int .i64 y1)) (by decide) 2 _).set (((M2.out.1.2.2.set 0 (.int .i64 y0)).set 1 (.int .i64 y1)).set 2 (.int .i64 y2)) (by decide) 3 _).set ((((M2.out.1.2.2.set 0 (.int .i64 y0)).set 1 (.int .i64 y1)).set 2 (.int .i64 y2)).set 3 (.int .i64 y3)) (by decide) 4 _)⟩
  clear M2
  refine rl 8 fun K hK => ?_
  go_simp
  refine hK.out _ _ ?_ (fun hHeld => ?_)
  · exact ⟨M3.out.1.2.1.cell 0, M3.out.1.2.1.cell 1, M3.out.1.2.1.cell 2, M3.out.1.2.1.cell 3, M3.out.1.2.1.cell 4⟩
  clear hK K hHeld z0 z1 z2 z3 z4 q0 q1 q2 q3 q4
  refine wpAnyH_done (by kernel_rfl) ?_ _
  generalize (((((w2.setCell ⟨w.heap.size + 1, 0, none⟩ (.int .i64 y0)).setCell ⟨w.heap.size + 1, 1, none⟩ (.int .i64 y1)).setCell ⟨w.heap.size + 1, 2, none⟩ (.int .i64 y2)).setCell ⟨w.heap.size + 1, 3, none⟩ (.int .i64 y3)).setCell ⟨w.heap.size + 1, 4, none⟩ (.slice za yn zc)) = W9 at M3 ⊢
  have z0 : W9.cell? ⟨w.heap.size + 1, 0, none⟩ = some (.int .i64 y0) := M3.out.1.2.2.cell 0
  have z1 : W9.cell? ⟨w.heap.size + 1, 1, none⟩ = some (.int .i64 y1) := M3.out.1.2.2.cell 1
  have z2 : W9.cell? ⟨w.heap.size + 1, 2, none⟩ = some (.int .i64 y2) := M3.out.1.2.2.cell 2
  have z3 : W9.cell? ⟨w.heap.size + 1, 3, none⟩ = some (.int .i64 y3) := M3.out.1.2.2.cell 3
  have z4 : W9.cell? ⟨w.heap.size + 1, 4, none⟩ = some (.slice za yn zc) := M3.out.1.2.2.cell 4
  go_wp2_with fail
  exact bodyPost_ret (v := .agg #[.int .i64 y0, .int .i64 y1, .int .i64 y2, .int .i64 y3, .slice za yn zc]) (by simp [results, Tryz.results43, go_sem, z0, z1, z2, z3, z4]) rfl ⟨za, zc, rfl, M3.out.2, M3.out.1.1⟩
set_option maxRecDepth 100000 in
set_option maxHeartbeats 8000000 in
theorem implTurned19 {v : Nv} (pa : Option Addr) (pc : Nat) (ja : Option Addr) (jc : Nat) (fp fa fw lg : Int) (nb : Nat) (B : Nat → Nat → Int) (bb bo bk : Nat) (w : World) (hn : v.n ≤ 1048576) (hm : v.m ≤ 1048576) (hnb : nb ≤ 1048576) (hpc : v.n ≤ pc) (hpm : pc ≤ maxLen) (hjc : v.m ≤ jc) (hjm : jc ≤ maxLen) (hP : PsAt 0 w pa v.n v.P) (hJ : JsAt 0 w ja v.m v.J) (hps : ∀ i, i < v.n → (v.P i).nm.size ≤ maxLen) (hjs : ∀ i, i < v.m → (v.J i).ne ≤ 1048576 ∧ (v.J i).nm.size ≤ maxLen) (hB : NsAt 2 0 w (some ⟨bb, bo, none⟩) nb B) :
    Calls Tryz.prog 19 #[.agg #[.slice pa v.n pc, .slice ja v.m jc], .agg #[.int .i64 fp, .int .i64 fa, .int .i64 fw, .int .i64 lg, .slice (some ⟨bb, bo, none⟩) nb bk]] w fun e w' => TdR w v fp fa fw lg nb B e w' := by
  have H : Hid (PsAt 0 w pa v.n v.P ∧ JsAt 0 w ja v.m v.J ∧ (∀ i, i < v.n → (v.P i).nm.size ≤ maxLen) ∧ (∀ i, i < v.m → (v.J i).ne ≤ 1048576 ∧ (v.J i).nm.size ≤ maxLen) ∧ NsAt 2 0 w (some ⟨bb, bo, none⟩) nb B) := ⟨hP, hJ, hps, hjs, hB⟩
  have S0 : Hid (Below w.heap.size w (((w.alloc (.cells #[.slice pa v.n pc, .slice ja v.m jc] 38)).alloc (.cells #[.int .i64 fp, .int .i64 fa, .int .i64 fw, .int .i64 lg, .slice (some ⟨bb, bo, none⟩) nb bk] 43)).alloc (.cells #[.int .i64 0, .int .i64 0, .int .i64 0, .int .i64 0, .slice none 0 0] 43)) ∧ Box (((w.alloc (.cells #[.slice pa v.n pc, .slice ja v.m jc] 38)).alloc (.cells #[.int .i64 fp, .int .i64 fa, .int .i64 fw, .int .i64 lg, .slice (some ⟨bb, bo, none⟩) nb bk] 43)).alloc (.cells #[.int .i64 0, .int .i64 0, .int .i64 0, .int .i64 0, .slice none 0 0] 43)) (w.heap.size) 38 #[.slice pa v.n pc, .slice ja v.m jc] ∧ Box (((w.alloc (.cells #[.slice pa v.n pc, .slice ja v.m jc] 38)).alloc (.cells #[.int .i64 fp, .int .i64 fa, .int .i64 fw, .int .i64 lg, .slice (some ⟨bb, bo, none⟩) nb bk] 43)).alloc (.cells #[.int .i64 0, .int .i64 0, .int .i64 0, .int .i64 0, .slice none 0 0] 43)) (w.heap.size + 1) 43 #[.int .i64 fp, .int .i64 fa, .int .i64 fw, .int .i64 lg, .slice (some ⟨bb, bo, none⟩) nb bk] ∧ Box (((w.alloc (.cells #[.slice pa v.n pc, .slice ja v.m jc] 38)).alloc (.cells #[.int .i64 fp, .int .i64 fa, .int .i64 fw, .int .i64 lg, .slice (some ⟨bb, bo, none⟩) nb bk] 43)).alloc (.cells #[.int .i64 0, .int .i64 0, .int .i64 0, .int .i64 0, .slice none 0 0] 43)) (w.heap.size + 1 + 1) 43 #[.int .i64 0, .int .i64 0, .int .i64 0, .int .i64 0, .slice none 0 0]) := ⟨((Below.refl _ _).alloc (Nat.le_refl _) _ |>.alloc (by simp) _ |>.alloc (by simp; omega) _), ((Box.new _ _ _).alloc _).alloc _, by have := (Box.new (w.alloc (.cells #[.slice pa v.n pc, .slice ja v.m jc] 38)) 43 #[.int .i64 fp, .int .i64 fa, .int .i64 fw, .int .i64 lg, .slice (some ⟨bb, bo, none⟩) nb bk]).alloc (.cells #[.int .i64 0, .int .i64 0, .int .i64 0, .int .i64 0, .slice none 0 0] 43); simpa using this, by have := Box.new ((w.alloc (.cells #[.slice pa v.n pc, .slice ja v.m jc] 38)).alloc (.cells #[.int .i64 fp, .int .i64 fa, .int .i64 fw, .int .i64 lg, .slice (some ⟨bb, bo, none⟩) nb bk] 43)) 43 #[.int .i64 0, .int .i64 0, .int .i64 0, .int .i64 0, .slice none 0 0]; simpa using this⟩
  clear hP hJ hps hjs hB
  obtain ⟨u, HU⟩ : ∃ u, Hid (trainF v fp fa fw lg nb B = u) := ⟨_, rfl⟩
  go_enter Tryz.func19, Tryz.ntmps19
  go_upto_region 1 with fail
  generalize (((w.alloc (.cells #[.slice pa v.n pc, .slice ja v.m jc] 38)).alloc (.cells #[.int .i64 fp, .int .i64 fa, .int .i64 fw, .int .i64 lg, .slice (some ⟨bb, bo, none⟩) nb bk] 43)).alloc (.cells #[.int .i64 0, .int .i64 0, .int .i64 0, .int .i64 0, .slice none 0 0] 43)) = V0 at S0 ⊢
  have a0 : V0.cell? ⟨w.heap.size, 0, none⟩ = some (.slice pa v.n pc) := S0.out.2.1.cell 0
  have a1 : V0.cell? ⟨w.heap.size, 1, none⟩ = some (.slice ja v.m jc) := S0.out.2.1.cell 1
  have b0 : V0.cell? ⟨w.heap.size + 1, 0, none⟩ = some (.int .i64 fp) := S0.out.2.2.1.cell 0
  have b1 : V0.cell? ⟨w.heap.size + 1, 1, none⟩ = some (.int .i64 fa) := S0.out.2.2.1.cell 1
  have b2 : V0.cell? ⟨w.heap.size + 1, 2, none⟩ = some (.int .i64 fw) := S0.out.2.2.1.cell 2
  have b3 : V0.cell? ⟨w.heap.size + 1, 3, none⟩ = some (.int .i64 lg) := S0.out.2.2.1.cell 3
  have b4 : V0.cell? ⟨w.heap.size + 1, 4, none⟩ = some (.slice (some ⟨bb, bo, none⟩) nb bk) := S0.out.2.2.1.cell 4
  have c0 : V0.cell? ⟨w.heap.size + 1 + 1, 0, none⟩ = some (.int .i64 0) := S0.out.2.2.2.cell 0
  have c1 : V0.cell? ⟨w.heap.size + 1 + 1, 1, none⟩ = some (.int .i64 0) := S0.out.2.2.2.cell 1
  have c2 : V0.cell? ⟨w.heap.size + 1 + 1, 2, none⟩ = some (.int .i64 0) := S0.out.2.2.2.cell 2
  have c3 : V0.cell? ⟨w.heap.size + 1 + 1, 3, none⟩ = some (.int .i64 0) := S0.out.2.2.2.cell 3
  have c4 : V0.cell? ⟨w.heap.size + 1 + 1, 4, none⟩ = some (.slice none 0 0) := S0.out.2.2.2.cell 4
  go_wp2_with fail
  clear a0 a1 b0 b1 b2 b3 b4 c0 c1 c2 c3 c4
  refine (trainOn40 pa pc ja jc fp fa fw lg nb B (some ⟨bb, bo, none⟩) bk V0 hn hm hnb hpc hpm hjc hjm (H.out.1.mono (Nat.le_refl _) S0.out.1 (Nat.le_refl _)) (H.out.2.1.mono (Nat.le_refl _) S0.out.1 (Nat.le_refl _)) H.out.2.2.1 H.out.2.2.2.1 (H.out.2.2.2.2.mono (Nat.le_refl _) S0.out.1 (Nat.le_refl _))).mono ?_
  rw [HU.out]
  rintro e w1 ⟨kp, y0, y1, y2, y3, ya, yn, yc, rfl, hb1, hon⟩
  have M1 : Hid (Below w.heap.size w w1 ∧ Box w1 (w.heap.size) 38 #[.slice pa v.n pc, .slice ja v.m jc] ∧ Box w1 (w.heap.size + 1) 43 #[.int .i64 fp, .int .i64 fa, .int .i64 fw, .int .i64 lg, .slice (some ⟨bb, bo, none⟩) nb bk] ∧ Box w1 (w.heap.size + 1 + 1) 43 #[.int .i64 0, .int .i64 0, .int .i64 0, .int .i64 0, .slice none 0 0]) := ⟨S0.out.1.trans (hb1.mono S0.out.1.size), S0.out.2.1.mono hb1 (Nat.le_refl _), S0.out.2.2.1.mono hb1 (Nat.le_refl _), S0.out.2.2.2.mono hb1 (Nat.le_refl _)⟩
  have HON : Hid (u = true → (y0 = fp ∧ y1 = fa ∧ y2 = fw ∧ y3 = lg ∧ ya = some ⟨bb, bo, none⟩ ∧ yn = nb ∧ yc = bk) ∧ ∃ bt sb, kp = some ⟨bt, 0, none⟩ ∧ TkAt w1 bt sb v pa pc ja jc) := hon
  clear hb1 S0 hon
  have M2 : Hid (Below w.heap.size w (w1.alloc (.cells #[.int .i64 y0, .int .i64 y1, .int .i64 y2, .int .i64 y3, .slice ya yn yc] 63)) ∧ Box (w1.alloc (.cells #[.int .i64 y0, .int .i64 y1, .int .i64 y2, .int .i64 y3, .slice ya yn yc] 63)) (w.heap.size) 38 #[.slice pa v.n pc, .slice ja v.m jc] ∧ Box (w1.alloc (.cells #[.int .i64 y0, .int .i64 y1, .int .i64 y2, .int .i64 y3, .slice ya yn yc] 63)) (w.heap.size + 1) 43 #[.int .i64 fp, .int .i64 fa, .int .i64 fw, .int .i64 lg, .slice (some ⟨bb, bo, none⟩) nb bk] ∧ Box (w1.alloc (.cells #[.int .i64 y0, .int .i64 y1, .int .i64 y2, .int .i64 y3, .slice ya yn yc] 63)) (w.heap.size + 1 + 1) 43 #[.int .i64 0, .int .i64 0, .int .i64 0, .int .i64 0, .slice none 0 0] ∧ Box (w1.alloc (.cells #[.int .i64 y0, .int .i64 y1, .int .i64 y2, .int .i64 y3, .slice ya yn yc] 63)) w1.heap.size 63 #[.int .i64 y0, .int .i64 y1, .int .i64 y2, .int .i64 y3, .slice ya yn yc]) := ⟨M1.out.1.alloc M1.out.1.size _, M1.out.2.1.alloc _, M1.out.2.2.1.alloc _, M1.out.2.2.2.alloc _, Box.new _ _ _⟩
  clear M1
  go_upto_region 2 with fail
  have HW : Hid (Below w1.heap.size w1 (w1.alloc (.cells #[.int .i64 y0, .int .i64 y1, .int .i64 y2, .int .i64 y3, .slice ya yn yc] 63))) := bel1 _ _
  generalize w1.alloc (.cells #[.int .i64 y0, .int .i64 y1, .int .i64 y2, .int .i64 y3, .slice ya yn yc] 63) = V2 at M2 HW ⊢
  generalize w1.heap.size = kb at M2 ⊢
  cases u with
  | false =>
    have z0 : V2.cell? ⟨w.heap.size + 1 + 1, 0, none⟩ = some (.int .i64 0) := M2.out.2.2.2.1.cell 0
    have z1 : V2.cell? ⟨w.heap.size + 1 + 1, 1, none⟩ = some (.int .i64 0) := M2.out.2.2.2.1.cell 1
    have z2 : V2.cell? ⟨w.heap.size + 1 + 1, 2, none⟩ = some (.int .i64 0) := M2.out.2.2.2.1.cell 2
    have z3 : V2.cell? ⟨w.heap.size + 1 + 1, 3, none⟩ = some (.int .i64 0) := M2.out.2.2.2.1.cell 3
    have z4 : V2.cell? ⟨w.heap.size + 1 + 1, 4, none⟩ = some (.slice none 0 0) := M2.out.2.2.2.1.cell 4
    have q0 := M2.out.2.2.2.1.free 0
    have q1 := M2.out.2.2.2.1.free 1
    have q2 := M2.out.2.2.2.1.free 2
    have q3 := M2.out.2.2.2.1.free 3
    have q4 := M2.out.2.2.2.1.free 4
    have MF : Hid (Below w.heap.size w (((((V2.setCell ⟨w.heap.size + 1 + 1, 0, none⟩ (.int .i64 0)).setCell ⟨w.heap.size + 1 + 1, 1, none⟩ (.int .i64 0)).setCell ⟨w.heap.size + 1 + 1, 2, none⟩ (.int .i64 0)).setCell ⟨w.heap.size + 1 + 1, 3, none⟩ (.int .i64 0)).setCell ⟨w.heap.size + 1 + 1, 4, none⟩ (.slice none 0 0)) ∧ Box (((((V2.setCell ⟨w.heap.size + 1 + 1, 0, none⟩ (.int .i64 0)).setCell ⟨w.heap.size + 1 + 1, 1, none⟩ (.int .i64 0)).setCell ⟨w.heap.size + 1 + 1, 2, none⟩ (.int .i64 0)).setCell ⟨w.heap.size + 1 + 1, 3, none⟩ (.int .i64 0)).setCell ⟨w.heap.size + 1 + 1, 4, none⟩ (.slice none 0 0)) (w.heap.size + 1 + 1) 43 #[.int .i64 0, .int .i64 0, .int .i64 0, .int .i64 0, .slice none 0 0]) := ⟨(((((M2.out.1.setCell (Nat.le_add_right _ 2) _).setCell (Nat.le_add_right _ 2) _).setCell (Nat.le_add_right _ 2) _).setCell (Nat.le_add_right _ 2) _).setCell (Nat.le_add_right _ 2) _), by
      have h9 := (((((M2.out.2.2.2.1.set 0 (.int .i64 0)).set 1 (.int .i64 0)).set 2 (.int .i64 0)).set 3 (.int .i64 0)).set 4 (.slice none 0 0))
      exact h9⟩
    clear M2
    go_wp2_with fail
    clear z0 z1 z2 z3 z4 q0 q1 q2 q3 q4
    generalize (((((V2.setCell ⟨w.heap.size + 1 + 1, 0, none⟩ (.int .i64 0)).setCell ⟨w.heap.size + 1 + 1, 1, none⟩ (.int .i64 0)).setCell ⟨w.heap.size + 1 + 1, 2, none⟩ (.int .i64 0)).setCell ⟨w.heap.size + 1 + 1, 3, none⟩ (.int .i64 0)).setCell ⟨w.heap.size + 1 + 1, 4, none⟩ (.slice none 0 0)) = W8 at MF ⊢
    have z0 : W8.cell? ⟨w.heap.size + 1 + 1, 0, none⟩ = some (.int .i64 0) := MF.out.2.cell 0
    have z1 : W8.cell? ⟨w.heap.size + 1 + 1, 1, none⟩ = some (.int .i64 0) := MF.out.2.cell 1
    have z2 : W8.cell? ⟨w.heap.size + 1 + 1, 2, none⟩ = some (.int .i64 0) := MF.out.2.cell 2
    have z3 : W8.cell? ⟨w.heap.size + 1 + 1, 3, none⟩ = some (.int .i64 0) := MF.out.2.cell 3
    have z4 : W8.cell? ⟨w.heap.size + 1 + 1, 4, none⟩ = some (.slice none 0 0) := MF.out.2.cell 4
    exact bodyPost_ret (v := .agg #[.int .i64 0, .int .i64 0, .int .i64 0, .int .i64 0, .slice none 0 0]) (by simp [results, Tryz.results19, go_sem, z0, z1, z2, z3, z4]) rfl (td_no HU.out rfl MF.out.1)
  | true =>
    have HK : Hid (v.Ok ∧ Trn v fp fa fw lg nb B) := tr_ok HU.out
    obtain ⟨⟨e0, e1, e2, e3, rfl, e5, e6⟩, bt, sb, rfl, hTK⟩ := HON.out rfl
    have e0 := e0.symm
    have e1 := e1.symm
    have e2 := e2.symm
    have e3 := e3.symm
    have e5 := e5.symm
    have e6 := e6.symm
    subst e0 e1 e2 e3 e5 e6
    have HTV : Hid (TkAt V2 bt sb v pa pc ja jc) := hTK.mono HW.out (Nat.le_refl _)
    clear hTK HON
    have hnb2 := HK.out.2.nb1
    have k0 : V2.cell? ⟨kb, 0, none⟩ = some (.int .i64 fp) := M2.out.2.2.2.2.cell 0
    have k1 : V2.cell? ⟨kb, 1, none⟩ = some (.int .i64 fa) := M2.out.2.2.2.2.cell 1
    have k2 : V2.cell? ⟨kb, 2, none⟩ = some (.int .i64 fw) := M2.out.2.2.2.2.cell 2
    have k3 : V2.cell? ⟨kb, 3, none⟩ = some (.int .i64 lg) := M2.out.2.2.2.2.cell 3
    have k4 : V2.cell? ⟨kb, 4, none⟩ = some (.slice (some ⟨bb, bo, none⟩) nb bk) := M2.out.2.2.2.2.cell 4
    go_wp2_with fail
    clear k0 k1 k2 k3 k4
    refine (turn43 HK.out.1 fp fa fw lg nb B bb bo bk V2 HTV.out HK.out.2 (H.out.2.2.2.2.mono (Nat.le_refl _) M2.out.1 (Nat.le_refl _))).mono ?_
    rintro e w3 ⟨ca, cc, rfl, ho3, hb3⟩
    have M3 : Hid ((Below w.heap.size w w3 ∧ Box w3 (w.heap.size) 38 #[.slice pa v.n pc, .slice ja v.m jc] ∧ Box w3 (w.heap.size + 1) 43 #[.int .i64 fp, .int .i64 fa, .int .i64 fw, .int .i64 lg, .slice (some ⟨bb, bo, none⟩) nb bk] ∧ Box w3 (w.heap.size + 1 + 1) 43 #[.int .i64 0, .int .i64 0, .int .i64 0, .int .i64 0, .slice none 0 0]) ∧ VOwn V2.heap.size 79 2 w3 (.slice ca (nb - noF v fp fa fw B) cc) (nb - noF v fp fa fw B) (intF (bkF fp fw nb B))) := ⟨⟨M2.out.1.trans (hb3.mono M2.out.1.size), M2.out.2.1.mono hb3 (Nat.le_refl _), M2.out.2.2.1.mono hb3 (Nat.le_refl _), M2.out.2.2.2.1.mono hb3 (Nat.le_refl _)⟩, ho3⟩
    clear hb3 M2 ho3
    go_wp2_with fail
    refine (train43 _ _ _ _ ca _ cc _ (bkF fp fw nb B) w3 (by omega) M3.out.2).mono ?_
    rintro e w4 ⟨za, zc, rfl, ho4, hb4⟩
    have M4 : Hid ((Below w.heap.size w w4 ∧ Box w4 (w.heap.size) 38 #[.slice pa v.n pc, .slice ja v.m jc] ∧ Box w4 (w.heap.size + 1) 43 #[.int .i64 fp, .int .i64 fa, .int .i64 fw, .int .i64 lg, .slice (some ⟨bb, bo, none⟩) nb bk] ∧ Box w4 (w.heap.size + 1 + 1) 43 #[.int .i64 0, .int .i64 0, .int .i64 0, .int .i64 0, .slice none 0 0]) ∧ VOwn w.heap.size 79 2 w4 (.slice za (nb - noF v fp fa fw B) zc) (nb - noF v fp fa fw B) (intF (bkF fp fw nb B))) := ⟨⟨M3.out.1.1.trans (hb4.mono M3.out.1.1.size), M3.out.1.2.1.mono hb4 (Nat.le_refl _), M3.out.1.2.2.1.mono hb4 (Nat.le_refl _), M3.out.1.2.2.2.mono hb4 (Nat.le_refl _)⟩, ho4.keep M3.out.1.1.size (fun _ _ => rfl)⟩
    clear hb4 M3 ho4
    have z0 : w4.cell? ⟨w.heap.size + 1 + 1, 0, none⟩ = some (.int .i64 0) := M4.out.1.2.2.2.cell 0
    have z1 : w4.cell? ⟨w.heap.size + 1 + 1, 1, none⟩ = some (.int .i64 0) := M4.out.1.2.2.2.cell 1
    have z2 : w4.cell? ⟨w.heap.size + 1 + 1, 2, none⟩ = some (.int .i64 0) := M4.out.1.2.2.2.cell 2
    have z3 : w4.cell? ⟨w.heap.size + 1 + 1, 3, none⟩ = some (.int .i64 0) := M4.out.1.2.2.2.cell 3
    have z4 : w4.cell? ⟨w.heap.size + 1 + 1, 4, none⟩ = some (.slice none 0 0) := M4.out.1.2.2.2.cell 4
    have q0 := M4.out.1.2.2.2.free 0
    have q1 := M4.out.1.2.2.2.free 1
    have q2 := M4.out.1.2.2.2.free 2
    have q3 := M4.out.1.2.2.2.free 3
    have q4 := M4.out.1.2.2.2.free 4
    have MF : Hid ((Below w.heap.size w (((((w4.setCell ⟨w.heap.size + 1 + 1, 0, none⟩ (.int .i64 (ahP fp B nb))).setCell ⟨w.heap.size + 1 + 1, 1, none⟩ (.int .i64 (tlA v fp fa fw lg nb B))).setCell ⟨w.heap.size + 1 + 1, 2, none⟩ (.int .i64 (-(ahW fw B nb)))).setCell ⟨w.heap.size + 1 + 1, 3, none⟩ (.int .i64 lg)).setCell ⟨w.heap.size + 1 + 1, 4, none⟩ (.slice za (nb - noF v fp fa fw B) zc)) ∧ Box (((((w4.setCell ⟨w.heap.size + 1 + 1, 0, none⟩ (.int .i64 (ahP fp B nb))).setCell ⟨w.heap.size + 1 + 1, 1, none⟩ (.int .i64 (tlA v fp fa fw lg nb B))).setCell ⟨w.heap.size + 1 + 1, 2, none⟩ (.int .i64 (-(ahW fw B nb)))).setCell ⟨w.heap.size + 1 + 1, 3, none⟩ (.int .i64 lg)).setCell ⟨w.heap.size + 1 + 1, 4, none⟩ (.slice za (nb - noF v fp fa fw B) zc)) (w.heap.size + 1 + 1) 43 #[.int .i64 (ahP fp B nb), .int .i64 (tlA v fp fa fw lg nb B), .int .i64 (-(ahW fw B nb)), .int .i64 lg, .slice za (nb - noF v fp fa fw B) zc]) ∧ VOwn w.heap.size 79 2 (((((w4.setCell ⟨w.heap.size + 1 + 1, 0, none⟩ (.int .i64 (ahP fp B nb))).setCell ⟨w.heap.size + 1 + 1, 1, none⟩ (.int .i64 (tlA v fp fa fw lg nb B))).setCell ⟨w.heap.size + 1 + 1, 2, none⟩ (.int .i64 (-(ahW fw B nb)))).setCell ⟨w.heap.size + 1 + 1, 3, none⟩ (.int .i64 lg)).setCell ⟨w.heap.size + 1 + 1, 4, none⟩ (.slice za (nb - noF v fp fa fw B) zc)) (.slice za (nb - noF v fp fa fw B) zc) (nb - noF v fp fa fw B) (intF (bkF fp fw nb B))) := ⟨⟨(((((M4.out.1.1.setCell (Nat.le_add_right _ 2) _).setCell (Nat.le_add_right _ 2) _).setCell (Nat.le_add_right _ 2) _).setCell (Nat.le_add_right _ 2) _).setCell (Nat.le_add_right _ 2) _), by
      have h9 := (((((M4.out.1.2.2.2.set 0 (.int .i64 (ahP fp B nb))).set 1 (.int .i64 (tlA v fp fa fw lg nb B))).set 2 (.int .i64 (-(ahW fw B nb)))).set 3 (.int .i64 lg)).set 4 (.slice za (nb - noF v fp fa fw B) zc))
      exact h9⟩, (((((M4.out.2.set M4.out.1.2.2.2 (by decide) 0 _).set (M4.out.1.2.2.2.set 0 (.int .i64 (ahP fp B nb))) (by decide) 1 _).set ((M4.out.1.2.2.2.set 0 (.int .i64 (ahP fp B nb))).set 1 (.int .i64 (tlA v fp fa fw lg nb B))) (by decide) 2 _).set (((M4.out.1.2.2.2.set 0 (.int .i64 (ahP fp B nb))).set 1 (.int .i64 (tlA v fp fa fw lg nb B))).set 2 (.int .i64 (-(ahW fw B nb)))) (by decide) 3 _).set ((((M4.out.1.2.2.2.set 0 (.int .i64 (ahP fp B nb))).set 1 (.int .i64 (tlA v fp fa fw lg nb B))).set 2 (.int .i64 (-(ahW fw B nb)))).set 3 (.int .i64 lg)) (by decide) 4 _)⟩
    clear M4
    go_wp2_with fail
    clear z0 z1 z2 z3 z4 q0 q1 q2 q3 q4
    generalize (((((w4.setCell ⟨w.heap.size + 1 + 1, 0, none⟩ (.int .i64 (ahP fp B nb))).setCell ⟨w.heap.size + 1 + 1, 1, none⟩ (.int .i64 (tlA v fp fa fw lg nb B))).setCell ⟨w.heap.size + 1 + 1, 2, none⟩ (.int .i64 (-(ahW fw B nb)))).setCell ⟨w.heap.size + 1 + 1, 3, none⟩ (.int .i64 lg)).setCell ⟨w.heap.size + 1 + 1, 4, none⟩ (.slice za (nb - noF v fp fa fw B) zc)) = W8 at MF ⊢
    have z0 : W8.cell? ⟨w.heap.size + 1 + 1, 0, none⟩ = some (.int .i64 (ahP fp B nb)) := MF.out.1.2.cell 0
    have z1 : W8.cell? ⟨w.heap.size + 1 + 1, 1, none⟩ = some (.int .i64 (tlA v fp fa fw lg nb B)) := MF.out.1.2.cell 1
    have z2 : W8.cell? ⟨w.heap.size + 1 + 1, 2, none⟩ = some (.int .i64 (-(ahW fw B nb))) := MF.out.1.2.cell 2
    have z3 : W8.cell? ⟨w.heap.size + 1 + 1, 3, none⟩ = some (.int .i64 lg) := MF.out.1.2.cell 3
    have z4 : W8.cell? ⟨w.heap.size + 1 + 1, 4, none⟩ = some (.slice za (nb - noF v fp fa fw B) zc) := MF.out.1.2.cell 4
    exact bodyPost_ret (v := .agg #[.int .i64 (ahP fp B nb), .int .i64 (tlA v fp fa fw lg nb B), .int .i64 (-(ahW fw B nb)), .int .i64 lg, .slice za (nb - noF v fp fa fw B) zc]) (by simp [results, Tryz.results19, go_sem, z0, z1, z2, z3, z4]) rfl (td_yes HU.out rfl MF.out.2 MF.out.1.1)

end Go.Proofs.YtoennemahlakeaaGreat
