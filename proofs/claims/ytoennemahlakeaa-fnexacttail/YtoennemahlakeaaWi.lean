import Derived.Test.YtoennemahlakeaaWh
namespace Go.Proofs.Ytoennemahlakeaa
open Go.RowKit Go.Lib

/-- what is left ahead of a step -/
def lqF (v : Nv) (fp fa fw lg : Int) (B : Nat → Nat → Int) (k : Nat) : Int := if k = 0 then lg else lg - hvF v fp fa fw B (k - 1)
theorem lq_end {v : Nv} {fp fa fw lg : Int} {nb : Nat} {B : Nat → Nat → Int} (ok : v.Ok) (h : Trn v fp fa fw lg nb B) : heF v fp fa fw B nb - lqF v fp fa fw lg B nb = hvF v fp fa fw B nb - lg := by
  unfold lqF
  by_cases c : nb = 0
  · rw [if_pos c, c]
    rfl
  · rw [if_neg c]
    have := (h.he ok (Nat.le_refl nb)).2.2.2 (by omega)
    omega
theorem lq_step {v : Nv} {fp fa fw lg : Int} {nb : Nat} {B : Nat → Nat → Int} (ok : v.Ok) (h : Trn v fp fa fw lg nb B) {k : Nat} (hk : k < nb) : lqF v fp fa fw lg B k - heF v fp fa fw B k = lqF v fp fa fw lg B (k + 1) ∧ 0 ≤ lqF v fp fa fw lg B k ∧ lqF v fp fa fw lg B k ≤ 100000 ∧ 0 ≤ heF v fp fa fw B k ∧ heF v fp fa fw B k ≤ 10000000 := by
  have h1 := h.he ok (Nat.le_of_lt hk)
  have h2 := h.lg0
  have h3 := h.lg1
  have e : lqF v fp fa fw lg B (k + 1) = lg - hvF v fp fa fw B k := by
    unfold lqF
    rw [if_neg (by omega), Nat.add_sub_cancel]
  rw [e]
  unfold lqF
  by_cases c : k = 0
  · rw [if_pos c]
    refine ⟨?_, by omega, by omega, h1.1, h1.2.1⟩
    subst c
    rfl
  · rw [if_neg c]
    have h4 := h1.2.2.2 (by omega)
    have h5 := h.lt (k - 1) (by omega)
    have h6 := (hv_bnd ok (B := B) h.spot (k - 1) (fun i hi => h.step i (by omega))).1
    exact ⟨by omega, by omega, by omega, h1.1, h1.2.1⟩
set_option maxRecDepth 100000 in
set_option maxHeartbeats 16000000 in
theorem tail42 {v : Nv} (ok : v.Ok) (pa : Option Addr) (pc : Nat) (ja : Option Addr) (jc : Nat) (fp fa fw lg : Int) (nb : Nat) (B : Nat → Nat → Int) (ba : Option Addr) (bk : Nat) (w : World) (hP : PsAt 0 w pa v.n v.P) (ht : Trn v fp fa fw lg nb B) (hB : NsAt 2 0 w ba nb B) :
    Calls Try.prog 42 #[.agg #[.slice pa v.n pc, .slice ja v.m jc], .agg #[.int .i64 fp, .int .i64 fa, .int .i64 fw, .int .i64 lg, .slice ba nb bk]] w fun e w' => e = .returned (.agg #[.int .i64 (ahP fp B nb), .int .i64 (tlA v fp fa fw lg nb B), .int .i64 (ahW fw B nb)]) ∧ Below w.heap.size w w' := by
  have H : Hid (v.Ok ∧ Trn v fp fa fw lg nb B ∧ PsAt 0 w pa v.n v.P ∧ NsAt 2 0 w ba nb B) := ⟨ok, ht, hP, hB⟩
  obtain ⟨fq, rfl, hfq, hfw, hfa⟩ : ∃ q : Nat, fp = (q : Int) ∧ q < v.n ∧ (fw = 1 ∨ fw = -1) ∧ (0 ≤ fa ∧ fa ≤ (v.P q).ln) := spot_nat ht.spot
  have hnb := ht.nb1
  obtain ⟨pb, po, rfl, _, hpb, hpc⟩ := hP (by omega)
  have HPC : Hid (∀ q, q < v.n → pb < w.heap.size ∧ w.cell? ⟨pb, po + q * 4 + 1, none⟩ = some (.int .i64 (v.P q).ln)) := fun q hq => ⟨hpb, (hpc q hq).2.1⟩
  have hvn := ok.n1
  have S0 : Hid (Below w.heap.size w (((w.alloc (.cells #[.slice (some ⟨pb, po, none⟩) v.n pc, .slice ja v.m jc] 32)).alloc (.cells #[.int .i64 (fq : Int), .int .i64 fa, .int .i64 fw, .int .i64 lg, .slice ba nb bk] 48)).alloc (.cells #[.int .i64 0, .int .i64 0, .int .i64 0] 45)) ∧ Box (((w.alloc (.cells #[.slice (some ⟨pb, po, none⟩) v.n pc, .slice ja v.m jc] 32)).alloc (.cells #[.int .i64 (fq : Int), .int .i64 fa, .int .i64 fw, .int .i64 lg, .slice ba nb bk] 48)).alloc (.cells #[.int .i64 0, .int .i64 0, .int .i64 0] 45)) (w.heap.size) 32 #[.slice (some ⟨pb, po, none⟩) v.n pc, .slice ja v.m jc] ∧ Box (((w.alloc (.cells #[.slice (some ⟨pb, po, none⟩) v.n pc, .slice ja v.m jc] 32)).alloc (.cells #[.int .i64 (fq : Int), .int .i64 fa, .int .i64 fw, .int .i64 lg, .slice ba nb bk] 48)).alloc (.cells #[.int .i64 0, .int .i64 0, .int .i64 0] 45)) (w.heap.size + 1) 48 #[.int .i64 (fq : Int), .int .i64 fa, .int .i64 fw, .int .i64 lg, .slice ba nb bk] ∧ Box (((w.alloc (.cells #[.slice (some ⟨pb, po, none⟩) v.n pc, .slice ja v.m jc] 32)).alloc (.cells #[.int .i64 (fq : Int), .int .i64 fa, .int .i64 fw, .int .i64 lg, .slice ba nb bk] 48)).alloc (.cells #[.int .i64 0, .int .i64 0, .int .i64 0] 45)) (w.heap.size + 1 + 1) 45 #[.int .i64 0, .int .i64 0, .int .i64 0]) := ⟨((Below.refl _ _).alloc (Nat.le_refl _) _ |>.alloc (by simp) _ |>.alloc (by simp; omega) _), ((Box.new _ _ _).alloc _).alloc _, by have := (Box.new (w.alloc (.cells #[.slice (some ⟨pb, po, none⟩) v.n pc, .slice ja v.m jc] 32)) 48 #[.int .i64 (fq : Int), .int .i64 fa, .int .i64 fw, .int .i64 lg, .slice ba nb bk]).alloc (.cells #[.int .i64 0, .int .i64 0, .int .i64 0] 45); simpa using this, by have := Box.new ((w.alloc (.cells #[.slice (some ⟨pb, po, none⟩) v.n pc, .slice ja v.m jc] 32)).alloc (.cells #[.int .i64 (fq : Int), .int .i64 fa, .int .i64 fw, .int .i64 lg, .slice ba nb bk] 48)) 45 #[.int .i64 0, .int .i64 0, .int .i64 0]; simpa using this⟩
  clear ok hP ht hB hpc hpb
  go_enter Try.func42, Try.ntmps42
  go_upto_region 1 with fail
  generalize (((w.alloc (.cells #[.slice (some ⟨pb, po, none⟩) v.n pc, .slice ja v.m jc] 32)).alloc (.cells #[.int .i64 (fq : Int), .int .i64 fa, .int .i64 fw, .int .i64 lg, .slice ba nb bk] 48)).alloc (.cells #[.int .i64 0, .int .i64 0, .int .i64 0] 45)) = V0 at S0 ⊢
  have a0 : V0.cell? ⟨w.heap.size, 0, none⟩ = some (.slice (some ⟨pb, po, none⟩) v.n pc) := S0.out.2.1.cell 0
  have a1 : V0.cell? ⟨w.heap.size, 1, none⟩ = some (.slice ja v.m jc) := S0.out.2.1.cell 1
  have b0 : V0.cell? ⟨w.heap.size + 1, 0, none⟩ = some (.int .i64 (fq : Int)) := S0.out.2.2.1.cell 0
  have b1 : V0.cell? ⟨w.heap.size + 1, 1, none⟩ = some (.int .i64 fa) := S0.out.2.2.1.cell 1
  have b2 : V0.cell? ⟨w.heap.size + 1, 2, none⟩ = some (.int .i64 fw) := S0.out.2.2.1.cell 2
  have b3 : V0.cell? ⟨w.heap.size + 1, 3, none⟩ = some (.int .i64 lg) := S0.out.2.2.1.cell 3
  have b4 : V0.cell? ⟨w.heap.size + 1, 4, none⟩ = some (.slice ba nb bk) := S0.out.2.2.1.cell 4
  have c0 : V0.cell? ⟨w.heap.size + 1 + 1, 0, none⟩ = some (.int .i64 0) := S0.out.2.2.2.cell 0
  have c1 : V0.cell? ⟨w.heap.size + 1 + 1, 1, none⟩ = some (.int .i64 0) := S0.out.2.2.2.cell 1
  have c2 : V0.cell? ⟨w.heap.size + 1 + 1, 2, none⟩ = some (.int .i64 0) := S0.out.2.2.2.cell 2
  go_wp2_with fail
  clear a0 a1 b0 b1 b2 b3 b4 c0 c1 c2
  refine (behind63 H.out.1 (some ⟨pb, po, none⟩) pc ja jc fq fa fw V0 hfq hfa (H.out.2.2.1.mono (Nat.le_refl _) S0.out.1 (Nat.le_refl _))).mono ?_
  rintro e w1 ⟨rfl, hb1⟩
  have S1 : Hid (Below w.heap.size w w1 ∧ Box w1 (w.heap.size) 32 #[.slice (some ⟨pb, po, none⟩) v.n pc, .slice ja v.m jc] ∧ Box w1 (w.heap.size + 1) 48 #[.int .i64 (fq : Int), .int .i64 fa, .int .i64 fw, .int .i64 lg, .slice ba nb bk] ∧ Box w1 (w.heap.size + 1 + 1) 45 #[.int .i64 0, .int .i64 0, .int .i64 0]) := ⟨S0.out.1.trans (hb1.mono S0.out.1.size), S0.out.2.1.mono hb1 (Nat.le_refl _), S0.out.2.2.1.mono hb1 (Nat.le_refl _), S0.out.2.2.2.mono hb1 (Nat.le_refl _)⟩
  clear hb1 S0
  have T0 : Hid (Below w.heap.size w (w1.alloc (.cells #[.int .i64 (fq : Int), .int .i64 fw] 114)) ∧ Box (w1.alloc (.cells #[.int .i64 (fq : Int), .int .i64 fw] 114)) (w.heap.size) 32 #[.slice (some ⟨pb, po, none⟩) v.n pc, .slice ja v.m jc] ∧ Box (w1.alloc (.cells #[.int .i64 (fq : Int), .int .i64 fw] 114)) (w.heap.size + 1) 48 #[.int .i64 (fq : Int), .int .i64 fa, .int .i64 fw, .int .i64 lg, .slice ba nb bk] ∧ Box (w1.alloc (.cells #[.int .i64 (fq : Int), .int .i64 fw] 114)) (w.heap.size + 1 + 1) 45 #[.int .i64 0, .int .i64 0, .int .i64 0] ∧ Box (w1.alloc (.cells #[.int .i64 (fq : Int), .int .i64 fw] 114)) w1.heap.size 114 #[.int .i64 (ahP (fq : Int) B 0), .int .i64 (ahW fw B 0)]) := ⟨S1.out.1.alloc S1.out.1.size _, S1.out.2.1.alloc _, S1.out.2.2.1.alloc _, S1.out.2.2.2.alloc _, Box.new _ _ _⟩
  have HAQ0 : Hid (w.heap.size ≤ w1.heap.size) := S1.out.1.size
  have a0 : w1.cell? ⟨w.heap.size, 0, none⟩ = some (.slice (some ⟨pb, po, none⟩) v.n pc) := S1.out.2.1.cell 0
  have a1 : w1.cell? ⟨w.heap.size, 1, none⟩ = some (.slice ja v.m jc) := S1.out.2.1.cell 1
  have b0 : w1.cell? ⟨w.heap.size + 1, 0, none⟩ = some (.int .i64 (fq : Int)) := S1.out.2.2.1.cell 0
  have b1 : w1.cell? ⟨w.heap.size + 1, 1, none⟩ = some (.int .i64 fa) := S1.out.2.2.1.cell 1
  have b2 : w1.cell? ⟨w.heap.size + 1, 2, none⟩ = some (.int .i64 fw) := S1.out.2.2.1.cell 2
  have b3 : w1.cell? ⟨w.heap.size + 1, 3, none⟩ = some (.int .i64 lg) := S1.out.2.2.1.cell 3
  have b4 : w1.cell? ⟨w.heap.size + 1, 4, none⟩ = some (.slice ba nb bk) := S1.out.2.2.1.cell 4
  have c0 : w1.cell? ⟨w.heap.size + 1 + 1, 0, none⟩ = some (.int .i64 0) := S1.out.2.2.2.cell 0
  have c1 : w1.cell? ⟨w.heap.size + 1 + 1, 1, none⟩ = some (.int .i64 0) := S1.out.2.2.2.cell 1
  have c2 : w1.cell? ⟨w.heap.size + 1 + 1, 2, none⟩ = some (.int .i64 0) := S1.out.2.2.2.cell 2
  have t4 : (w1.alloc (.cells #[.int .i64 (fq : Int), .int .i64 fw] 114)).cell? ⟨w.heap.size + 1, 4, none⟩ = some (.slice ba nb bk) := T0.out.2.2.1.cell 4
  clear S1
  go_wp2_with fail
  clear a0 a1 b0 b1 b2 b3 b4 c0 c1 c2 t4
  generalize w1.alloc (.cells #[.int .i64 (fq : Int), .int .i64 fw] 114) = V4 at T0 ⊢
  generalize w1.heap.size = aq at T0 HAQ0 ⊢
  have HAQ : Hid (w.heap.size ≤ aq ∧ w.heap.size ≠ aq ∧ w.heap.size + 1 ≠ aq ∧ w.heap.size + 1 + 1 ≠ aq) := ⟨HAQ0.out, box_ne T0.out.2.1 T0.out.2.2.2.2 (by decide), box_ne T0.out.2.2.1 T0.out.2.2.2.2 (by decide), box_ne T0.out.2.2.2.1 T0.out.2.2.2.2 (by decide)⟩
  go_loopw [5, 6, 27] (fun l u c wr => ∃ (k : Nat) (x y : Int), k ≤ nb ∧ c = .int .i64 k ∧ l = .int .i64 x ∧ u = .int .i64 y ∧ Hid (x = lqF v (fq : Int) fa fw lg B k ∧ y = heF v (fq : Int) fa fw B k) ∧ Hid (Below w.heap.size w wr ∧ Box wr (w.heap.size) 32 #[.slice (some ⟨pb, po, none⟩) v.n pc, .slice ja v.m jc] ∧ Box wr (w.heap.size + 1) 48 #[.int .i64 (fq : Int), .int .i64 fa, .int .i64 fw, .int .i64 lg, .slice ba nb bk] ∧ Box wr (w.heap.size + 1 + 1) 45 #[.int .i64 0, .int .i64 0, .int .i64 0] ∧ Box wr (aq) 114 #[.int .i64 (ahP (fq : Int) B k), .int .i64 (ahW fw B k)])) (fun _ _ c _ => nb - (intOf c).toNat)
  case atStart => exact ⟨0, lg, _, Nat.zero_le _, rfl, rfl, rfl, ⟨rfl, rfl⟩, T0⟩
  case round =>
    clear T0 HAQ0
    obtain ⟨k, x, y, hk, rfl, rfl, rfl, HX, T⟩ := hrel
    by_cases hlt : k < nb
    · obtain ⟨bb, bo, hbe, _, hbl, hbc⟩ := H.out.2.2.2 (by omega)
      obtain ⟨sp, HSP, hspn, hsw⟩ := step_nat (H.out.2.1.step k hlt)
      obtain ⟨wy, HWY⟩ : ∃ q, Hid (B k 1 = q) := ⟨_, rfl⟩
      have HSP2 : Hid (B k 0 = (sp : Int)) := HSP
      have hk0 : (0 : Int) ≤ (k : Int) := by omega
      have hkn : (k : Int) < (nb : Int) := by omega
      have hsp0 : (0 : Int) ≤ (sp : Int) := by omega
      have hspi : (sp : Int) < (v.n : Int) := by omega
      have d0 : wr.cell? ⟨bb, bo + k * 2, none⟩ = some (.int .i64 (sp : Int)) := cell_keep T.out.1 hbl (by have := hbc k hlt 0 (by omega); rw [HSP] at this; exact this)
      have d1 : wr.cell? ⟨bb, bo + k * 2 + 1, none⟩ = some (.int .i64 wy) := cell_keep T.out.1 hbl (by have := hbc k hlt 1 (by omega); rw [HWY.out] at this; exact this)
      have hbs : ba = some ⟨bb, bo, none⟩ := hbe
      subst hbs
      have HLQ : Hid (x - y = lqF v (fq : Int) fa fw lg B (k + 1) ∧ (0 ≤ x ∧ x ≤ 100000 ∧ 0 ≤ y ∧ y ≤ 10000000)) := by
        have h9 := lq_step H.out.1 H.out.2.1 hlt
        rw [← HX.out.1, ← HX.out.2] at h9
        exact h9
      have hwx : IntKind.i64.wrap (x - y) = x - y := by have := HLQ.out.2; rw [IntKind.wrap_i64]; omega
      have HNY : Hid ((v.P sp).ln = heF v (fq : Int) fa fw B (k + 1)) := by show _ = _; rw [heF, HSP, Int.toNat_natCast]
      have T1 : Hid (Below w.heap.size w (wr.alloc (.cells #[.int .i64 (sp : Int), .int .i64 wy] 114)) ∧ Box (wr.alloc (.cells #[.int .i64 (sp : Int), .int .i64 wy] 114)) (w.heap.size) 32 #[.slice (some ⟨pb, po, none⟩) v.n pc, .slice ja v.m jc] ∧ Box (wr.alloc (.cells #[.int .i64 (sp : Int), .int .i64 wy] 114)) (w.heap.size + 1) 48 #[.int .i64 (fq : Int), .int .i64 fa, .int .i64 fw, .int .i64 lg, .slice (some ⟨bb, bo, none⟩) nb bk] ∧ Box (wr.alloc (.cells #[.int .i64 (sp : Int), .int .i64 wy] 114)) (w.heap.size + 1 + 1) 45 #[.int .i64 0, .int .i64 0, .int .i64 0] ∧ Box (wr.alloc (.cells #[.int .i64 (sp : Int), .int .i64 wy] 114)) (aq) 114 #[.int .i64 (ahP (fq : Int) B k), .int .i64 (ahW fw B k)] ∧ Box (wr.alloc (.cells #[.int .i64 (sp : Int), .int .i64 wy] 114)) wr.heap.size 114 #[.int .i64 (sp : Int), .int .i64 wy]) := ⟨T.out.1.alloc T.out.1.size _, T.out.2.1.alloc _, T.out.2.2.1.alloc _, T.out.2.2.2.1.alloc _, T.out.2.2.2.2.alloc _, Box.new _ _ _⟩
      have HAS : Hid (wr.heap.size ≠ aq) := by have := T.out.2.2.2.2.lt; show _ ≠ _; omega
      clear hbc hbl T HSP hsw
      go_upto_region 7 with fail
      clear d0 d1
      generalize wr.alloc (.cells #[.int .i64 (sp : Int), .int .i64 wy] 114) = V5 at T1 ⊢
      generalize wr.heap.size = sq at T1 HAS ⊢
      have s0 : V5.cell? ⟨sq, 0, none⟩ = some (.int .i64 (sp : Int)) := T1.out.2.2.2.2.2.cell 0
      have s1 : V5.cell? ⟨sq, 1, none⟩ = some (.int .i64 wy) := T1.out.2.2.2.2.2.cell 1
      have a0 : V5.cell? ⟨aq, 0, none⟩ = some (.int .i64 (ahP (fq : Int) B k)) := T1.out.2.2.2.2.1.cell 0
      have a1 : V5.cell? ⟨aq, 1, none⟩ = some (.int .i64 (ahW fw B k)) := T1.out.2.2.2.2.1.cell 1
      have f0 := T1.out.2.2.2.2.1.free 0
      have f1 := T1.out.2.2.2.2.1.free 1
      have T8 : Hid (Below w.heap.size w ((V5.setCell ⟨aq, 0, none⟩ (.int .i64 (sp : Int))).setCell ⟨aq, 1, none⟩ (.int .i64 wy)) ∧ Box ((V5.setCell ⟨aq, 0, none⟩ (.int .i64 (sp : Int))).setCell ⟨aq, 1, none⟩ (.int .i64 wy)) (w.heap.size) 32 #[.slice (some ⟨pb, po, none⟩) v.n pc, .slice ja v.m jc] ∧ Box ((V5.setCell ⟨aq, 0, none⟩ (.int .i64 (sp : Int))).setCell ⟨aq, 1, none⟩ (.int .i64 wy)) (w.heap.size + 1) 48 #[.int .i64 (fq : Int), .int .i64 fa, .int .i64 fw, .int .i64 lg, .slice (some ⟨bb, bo, none⟩) nb bk] ∧ Box ((V5.setCell ⟨aq, 0, none⟩ (.int .i64 (sp : Int))).setCell ⟨aq, 1, none⟩ (.int .i64 wy)) (w.heap.size + 1 + 1) 45 #[.int .i64 0, .int .i64 0, .int .i64 0] ∧ Box ((V5.setCell ⟨aq, 0, none⟩ (.int .i64 (sp : Int))).setCell ⟨aq, 1, none⟩ (.int .i64 wy)) (aq) 114 #[.int .i64 (ahP (fq : Int) B (k + 1)), .int .i64 (ahW fw B (k + 1))] ∧ Box ((V5.setCell ⟨aq, 0, none⟩ (.int .i64 (sp : Int))).setCell ⟨aq, 1, none⟩ (.int .i64 wy)) (sq) 114 #[.int .i64 (sp : Int), .int .i64 wy]) := by
        refine ⟨(T1.out.1.setCell HAQ.out.1 _).setCell HAQ.out.1 _, (T1.out.2.1.other HAQ.out.2.1 _).other HAQ.out.2.1 _, (T1.out.2.2.1.other HAQ.out.2.2.1 _).other HAQ.out.2.2.1 _, (T1.out.2.2.2.1.other HAQ.out.2.2.2 _).other HAQ.out.2.2.2 _, ?_, (T1.out.2.2.2.2.2.other HAS.out _).other HAS.out _⟩
        have h9 := (T1.out.2.2.2.2.1.set 0 (.int .i64 (sp : Int))).set 1 (.int .i64 wy)
        rw [show ahP (fq : Int) B (k + 1) = (sp : Int) from HSP2.out, show ahW fw B (k + 1) = wy from HWY.out]
        exact h9
      clear T1
      go_upto_region 9 with fail
      clear s0 s1 a0 a1 f0 f1
      generalize ((V5.setCell ⟨aq, 0, none⟩ (.int .i64 (sp : Int))).setCell ⟨aq, 1, none⟩ (.int .i64 wy)) = W6 at T8 ⊢
      have n0 : W6.cell? ⟨w.heap.size, 0, none⟩ = some (.slice (some ⟨pb, po, none⟩) v.n pc) := T8.out.2.1.cell 0
      have s0 : W6.cell? ⟨sq, 0, none⟩ = some (.int .i64 (sp : Int)) := T8.out.2.2.2.2.2.cell 0
      have c1 : W6.cell? ⟨pb, po + sp * 4 + 1, none⟩ = some (.int .i64 (v.P sp).ln) := cell_keep T8.out.1 (HPC.out sp hspn).1 (HPC.out sp hspn).2
      have T9 : Hid (Below w.heap.size w W6 ∧ Box W6 (w.heap.size) 32 #[.slice (some ⟨pb, po, none⟩) v.n pc, .slice ja v.m jc] ∧ Box W6 (w.heap.size + 1) 48 #[.int .i64 (fq : Int), .int .i64 fa, .int .i64 fw, .int .i64 lg, .slice (some ⟨bb, bo, none⟩) nb bk] ∧ Box W6 (w.heap.size + 1 + 1) 45 #[.int .i64 0, .int .i64 0, .int .i64 0] ∧ Box W6 (aq) 114 #[.int .i64 (ahP (fq : Int) B (k + 1)), .int .i64 (ahW fw B (k + 1))]) := ⟨T8.out.1, T8.out.2.1, T8.out.2.2.1, T8.out.2.2.2.1, T8.out.2.2.2.2.1⟩
      clear T8
      go_wp2_with fail
      clear n0 s0 c1
      go_roundw
      case rel => exact ⟨k + 1, x - y, _, by omega, by go_num, rfl, rfl, ⟨HLQ.out.1, HNY.out⟩, T9⟩
      case measure => simp [intOf]; omega
    · obtain rfl : nb = k := by omega
      obtain ⟨sp, HSP, hspn, hsw⟩ : ∃ q : Nat, Hid (ahP (fq : Int) B nb = (q : Int)) ∧ q < v.n ∧ (ahW fw B nb = 1 ∨ ahW fw B nb = -1) := H.out.2.1.sp nb (Nat.le_refl _)
      obtain ⟨wy, HWY⟩ : ∃ q, Hid (ahW fw B nb = q) := ⟨_, rfl⟩
      rw [HWY.out] at hsw
      have HAT : Hid (tlA v (fq : Int) fa fw lg nb B = farI (v.P sp).ln (y - x) wy) := by
        show _ = _
        rw [tlA, HSP.out, HWY.out, Int.toNat_natCast, ← lq_end H.out.1 H.out.2.1, ← HX.out.1, ← HX.out.2]
      have hbnd : 0 ≤ y - x ∧ y - x ≤ 10000000 := by
        have h1 := H.out.2.1.fr H.out.1 (Nat.le_refl nb)
        have h2 := H.out.2.1.he H.out.1 (Nat.le_refl nb)
        rw [show frF v (fq : Int) fa fw lg nb B nb = hvF v (fq : Int) fa fw B nb - lg from if_pos rfl, ← lq_end H.out.1 H.out.2.1, ← HX.out.1, ← HX.out.2] at h1
        rw [← HX.out.2] at h2
        omega
      have hy1 : 0 ≤ y ∧ y ≤ 10000000 := by
        have h2 := H.out.2.1.he H.out.1 (Nat.le_refl nb)
        rw [← HX.out.2] at h2
        exact ⟨h2.1, h2.2.1⟩
      have hln := H.out.1.ln sp hspn
      have hwx : IntKind.i64.wrap (y - x) = y - x := by rw [IntKind.wrap_i64]; omega
      obtain ⟨t, HT⟩ : ∃ t, Hid (y - x = t) := ⟨_, rfl⟩
      rw [HT.out] at hbnd HAT
      have hwt : IntKind.i64.wrap (y - x) = t := by rw [hwx, HT.out]
      clear hwx
      have hwt2 : IntKind.i64.wrap ((v.P sp).ln - t) = (v.P sp).ln - t := by rw [IntKind.wrap_i64]; omega
      have TA : Hid (Below w.heap.size w wr ∧ Box wr (w.heap.size) 32 #[.slice (some ⟨pb, po, none⟩) v.n pc, .slice ja v.m jc] ∧ Box wr (w.heap.size + 1) 48 #[.int .i64 (fq : Int), .int .i64 fa, .int .i64 fw, .int .i64 lg, .slice ba nb bk] ∧ Box wr (w.heap.size + 1 + 1) 45 #[.int .i64 0, .int .i64 0, .int .i64 0] ∧ Box wr (aq) 114 #[.int .i64 (sp : Int), .int .i64 wy]) := ⟨T.out.1, T.out.2.1, T.out.2.2.1, T.out.2.2.2.1, by have h9 := T.out.2.2.2.2; rw [HSP.out, HWY.out] at h9; exact h9⟩
      have TO : Hid (Below w.heap.size w (wr.alloc (.cells #[.int .i64 (sp : Int), .int .i64 t, .int .i64 wy] 45)) ∧ Box (wr.alloc (.cells #[.int .i64 (sp : Int), .int .i64 t, .int .i64 wy] 45)) (w.heap.size) 32 #[.slice (some ⟨pb, po, none⟩) v.n pc, .slice ja v.m jc] ∧ Box (wr.alloc (.cells #[.int .i64 (sp : Int), .int .i64 t, .int .i64 wy] 45)) (w.heap.size + 1) 48 #[.int .i64 (fq : Int), .int .i64 fa, .int .i64 fw, .int .i64 lg, .slice ba nb bk] ∧ Box (wr.alloc (.cells #[.int .i64 (sp : Int), .int .i64 t, .int .i64 wy] 45)) (w.heap.size + 1 + 1) 45 #[.int .i64 0, .int .i64 0, .int .i64 0] ∧ Box (wr.alloc (.cells #[.int .i64 (sp : Int), .int .i64 t, .int .i64 wy] 45)) (aq) 114 #[.int .i64 (sp : Int), .int .i64 wy] ∧ Box (wr.alloc (.cells #[.int .i64 (sp : Int), .int .i64 t, .int .i64 wy] 45)) wr.heap.size 45 #[.int .i64 (sp : Int), .int .i64 t, .int .i64 wy]) := ⟨TA.out.1.alloc TA.out.1.size _, TA.out.2.1.alloc _, TA.out.2.2.1.alloc _, TA.out.2.2.2.1.alloc _, TA.out.2.2.2.2.alloc _, Box.new _ _ _⟩
      have HON : Hid (w.heap.size + 1 + 1 ≠ wr.heap.size ∧ w.heap.size ≤ wr.heap.size) := ⟨by have := TA.out.2.2.2.1.lt; omega, TA.out.1.size⟩
      have a0 : wr.cell? ⟨aq, 0, none⟩ = some (.int .i64 (sp : Int)) := TA.out.2.2.2.2.cell 0
      have a1 : wr.cell? ⟨aq, 1, none⟩ = some (.int .i64 wy) := TA.out.2.2.2.2.cell 1
      clear T TA
      have HC1 : Hid (pb < w.heap.size ∧ w.cell? ⟨pb, po + sp * 4 + 1, none⟩ = some (.int .i64 (v.P sp).ln)) := HPC.out sp hspn
      go_upto_region 12 with fail
      clear a0 a1
      generalize wr.alloc (.cells #[.int .i64 (sp : Int), .int .i64 t, .int .i64 wy] 45) = V6 at TO ⊢
      generalize wr.heap.size = ob at TO HON ⊢
      have a1 : V6.cell? ⟨aq, 1, none⟩ = some (.int .i64 wy) := TO.out.2.2.2.2.1.cell 1
      rcases hsw with hw1 | hw1
      · have hw2 : (wy == -1) = false := by rw [hw1]; rfl
        have HAV : Hid (farI (v.P sp).ln t wy = t) := by show _ = _; rw [hw1]; exact if_pos rfl
        clear hw1
        go_upto_region 14 with fail
        clear a1
        have o0 : V6.cell? ⟨ob, 0, none⟩ = some (.int .i64 (sp : Int)) := TO.out.2.2.2.2.2.cell 0
        have o1 : V6.cell? ⟨ob, 1, none⟩ = some (.int .i64 t) := TO.out.2.2.2.2.2.cell 1
        have o2 : V6.cell? ⟨ob, 2, none⟩ = some (.int .i64 wy) := TO.out.2.2.2.2.2.cell 2
        have z0 : V6.cell? ⟨w.heap.size + 1 + 1, 0, none⟩ = some (.int .i64 0) := TO.out.2.2.2.1.cell 0
        have z1 : V6.cell? ⟨w.heap.size + 1 + 1, 1, none⟩ = some (.int .i64 0) := TO.out.2.2.2.1.cell 1
        have z2 : V6.cell? ⟨w.heap.size + 1 + 1, 2, none⟩ = some (.int .i64 0) := TO.out.2.2.2.1.cell 2
        have q0 := TO.out.2.2.2.1.free 0
        have q1 := TO.out.2.2.2.1.free 1
        have q2 := TO.out.2.2.2.1.free 2
        have MF : Hid (Below w.heap.size w (((V6.setCell ⟨w.heap.size + 1 + 1, 0, none⟩ (.int .i64 (sp : Int))).setCell ⟨w.heap.size + 1 + 1, 1, none⟩ (.int .i64 t)).setCell ⟨w.heap.size + 1 + 1, 2, none⟩ (.int .i64 wy)) ∧ Box (((V6.setCell ⟨w.heap.size + 1 + 1, 0, none⟩ (.int .i64 (sp : Int))).setCell ⟨w.heap.size + 1 + 1, 1, none⟩ (.int .i64 t)).setCell ⟨w.heap.size + 1 + 1, 2, none⟩ (.int .i64 wy)) (w.heap.size + 1 + 1) 45 #[.int .i64 (sp : Int), .int .i64 t, .int .i64 wy]) := ⟨((TO.out.1.setCell (Nat.le_add_right _ 2) _).setCell (Nat.le_add_right _ 2) _).setCell (Nat.le_add_right _ 2) _, by
          have h9 := ((TO.out.2.2.2.1.set 0 (.int .i64 (sp : Int))).set 1 (.int .i64 t)).set 2 (.int .i64 wy)
          exact h9⟩
        clear TO
        go_wp2_with fail
        clear o0 o1 o2 z0 z1 z2 q0 q1 q2
        generalize (((V6.setCell ⟨w.heap.size + 1 + 1, 0, none⟩ (.int .i64 (sp : Int))).setCell ⟨w.heap.size + 1 + 1, 1, none⟩ (.int .i64 t)).setCell ⟨w.heap.size + 1 + 1, 2, none⟩ (.int .i64 wy)) = W8 at MF ⊢
        have z0 : W8.cell? ⟨w.heap.size + 1 + 1, 0, none⟩ = some (.int .i64 (sp : Int)) := MF.out.2.cell 0
        have z1 : W8.cell? ⟨w.heap.size + 1 + 1, 1, none⟩ = some (.int .i64 t) := MF.out.2.cell 1
        have z2 : W8.cell? ⟨w.heap.size + 1 + 1, 2, none⟩ = some (.int .i64 wy) := MF.out.2.cell 2
        exact bodyPost_ret (v := .agg #[.int .i64 (sp : Int), .int .i64 t, .int .i64 wy]) (by simp [results, Try.results42, go_sem, z0, z1, z2]) rfl ⟨by rw [HSP.out, HWY.out, HAT.out, HAV.out], MF.out.1⟩
      · have HAV : Hid (farI (v.P sp).ln t wy = (v.P sp).ln - t) := by show _ = _; rw [hw1]; exact if_neg (by decide)
        have hw2 : (wy == -1) = true := by rw [hw1]; rfl
        clear hw1
        obtain ⟨z, HZ⟩ : ∃ z, Hid ((v.P sp).ln - t = z) := ⟨_, rfl⟩
        have hsp0 : (0 : Int) ≤ (sp : Int) := by omega
        have hspi : (sp : Int) < (v.n : Int) := by omega
        have MO : Hid (Below w.heap.size w V6.drew ∧ Box V6.drew (w.heap.size) 32 #[.slice (some ⟨pb, po, none⟩) v.n pc, .slice ja v.m jc] ∧ Box V6.drew (w.heap.size + 1) 48 #[.int .i64 (fq : Int), .int .i64 fa, .int .i64 fw, .int .i64 lg, .slice ba nb bk] ∧ Box V6.drew (w.heap.size + 1 + 1) 45 #[.int .i64 0, .int .i64 0, .int .i64 0] ∧ Box V6.drew (aq) 114 #[.int .i64 (sp : Int), .int .i64 wy] ∧ Box V6.drew (ob) 45 #[.int .i64 (sp : Int), .int .i64 t, .int .i64 wy]) := ⟨TO.out.1.drew, TO.out.2.1.drew, TO.out.2.2.1.drew, TO.out.2.2.2.1.drew, TO.out.2.2.2.2.1.drew, TO.out.2.2.2.2.2.drew⟩
        have n0 : V6.cell? ⟨w.heap.size, 0, none⟩ = some (.slice (some ⟨pb, po, none⟩) v.n pc) := TO.out.2.1.cell 0
        have n1 : V6.cell? ⟨w.heap.size, 1, none⟩ = some (.slice ja v.m jc) := TO.out.2.1.cell 1
        have a0 : V6.cell? ⟨aq, 0, none⟩ = some (.int .i64 (sp : Int)) := TO.out.2.2.2.2.1.cell 0
        have c1 : V6.cell? ⟨pb, po + sp * 4 + 1, none⟩ = some (.int .i64 (v.P sp).ln) := cell_keep TO.out.1 HC1.out.1 HC1.out.2
        have o1 : V6.cell? ⟨ob, 1, none⟩ = some (.int .i64 t) := TO.out.2.2.2.2.2.cell 1
        have f1 := TO.out.2.2.2.2.2.free 1
        have HOE : Hid (w.heap.size ≠ ob ∧ w.heap.size + 1 ≠ ob ∧ w.heap.size + 1 + 1 ≠ ob ∧ aq ≠ ob) := ⟨box_ne TO.out.2.1 TO.out.2.2.2.2.2 (by decide), box_ne TO.out.2.2.1 TO.out.2.2.2.2.2 (by decide), HON.out.1, box_ne TO.out.2.2.2.2.1 TO.out.2.2.2.2.2 (by decide)⟩
        have MP : Hid (Below w.heap.size w (V6.setCell ⟨ob, 1, none⟩ (.int .i64 z)).drew ∧ Box (V6.setCell ⟨ob, 1, none⟩ (.int .i64 z)).drew (w.heap.size) 32 #[.slice (some ⟨pb, po, none⟩) v.n pc, .slice ja v.m jc] ∧ Box (V6.setCell ⟨ob, 1, none⟩ (.int .i64 z)).drew (w.heap.size + 1) 48 #[.int .i64 (fq : Int), .int .i64 fa, .int .i64 fw, .int .i64 lg, .slice ba nb bk] ∧ Box (V6.setCell ⟨ob, 1, none⟩ (.int .i64 z)).drew (w.heap.size + 1 + 1) 45 #[.int .i64 0, .int .i64 0, .int .i64 0] ∧ Box (V6.setCell ⟨ob, 1, none⟩ (.int .i64 z)).drew (aq) 114 #[.int .i64 (sp : Int), .int .i64 wy] ∧ Box (V6.setCell ⟨ob, 1, none⟩ (.int .i64 z)).drew (ob) 45 #[.int .i64 (sp : Int), .int .i64 z, .int .i64 wy]) := ⟨(TO.out.1.setCell HON.out.2 _).drew, TO.out.2.1.other HOE.out.1 _, TO.out.2.2.1.other HOE.out.2.1 _, TO.out.2.2.2.1.other HOE.out.2.2.1 _, TO.out.2.2.2.2.1.other HOE.out.2.2.2 _, by
          have h9 := TO.out.2.2.2.2.2.set 1 (.int .i64 z)
          exact h9⟩
        have hwt3 : IntKind.i64.wrap ((v.P sp).ln - t) = z := hwt2.trans HZ.out
        clear hwt2
        clear TO
        go_upto_region 13 with fail
        go_wp2_with fail
        refine wp_region_held_drew (S := (fun wx : World => wx.cell? ⟨w.heap.size, 0, none⟩ = some (.slice (some ⟨pb, po, none⟩) v.n pc) ∧ wx.cell? ⟨w.heap.size, 1, none⟩ = some (.slice ja v.m jc) ∧ wx.cell? ⟨aq, 0, none⟩ = some (.int .i64 (sp : Int)) ∧ wx.cell? ⟨pb, po + sp * 4 + 1, none⟩ = some (.int .i64 (v.P sp).ln))) (by kernel_rfl) ?_ (fun hHeld => ?_)
        · exact ⟨n0, n1, a0, c1⟩
        refine tk 0 ?_
        refine tk 1 ?_
        refine tk 2 ?_
        refine tk 3 ?_
        refine tk 4 ?_
        refine tk 5 ?_
        refine tk 6 ?_
        refine tk 7 ?_
        refine rl 8 fun K hK => ?_
        go_simp
        refine hK.out _ _ ?_ (fun hHeld8 => ?_)
        · exact ⟨(MO.out.2.1.cell 0), (MO.out.2.1.cell 1), (MO.out.2.2.2.2.1.cell 0), (cell_keep MO.out.1 HC1.out.1 HC1.out.2)⟩
        clear hK K
        refine tk 9 ?_
        refine tk 10 ?_
        refine rl 11 fun K hK => ?_
        go_simp
        refine hK.out _ _ ?_ (fun hHeld11 => ?_)
        · exact ⟨MP.out.2.1.cell 0, MP.out.2.1.cell 1, MP.out.2.2.2.2.1.cell 0, cell_keep MP.out.1 HC1.out.1 HC1.out.2⟩
        clear hK K
        refine wpAnyH_done (by kernel_rfl) ?_ _
        generalize (V6.setCell ⟨ob, 1, none⟩ (.int .i64 z)).drew = W7 at MP ⊢
        clear n0 n1 a0 a1 c1 o1 f1 MO
        have o0 : W7.cell? ⟨ob, 0, none⟩ = some (.int .i64 (sp : Int)) := MP.out.2.2.2.2.2.cell 0
        have o1 : W7.cell? ⟨ob, 1, none⟩ = some (.int .i64 z) := MP.out.2.2.2.2.2.cell 1
        have o2 : W7.cell? ⟨ob, 2, none⟩ = some (.int .i64 wy) := MP.out.2.2.2.2.2.cell 2
        have z0 : W7.cell? ⟨w.heap.size + 1 + 1, 0, none⟩ = some (.int .i64 0) := MP.out.2.2.2.1.cell 0
        have z1 : W7.cell? ⟨w.heap.size + 1 + 1, 1, none⟩ = some (.int .i64 0) := MP.out.2.2.2.1.cell 1
        have z2 : W7.cell? ⟨w.heap.size + 1 + 1, 2, none⟩ = some (.int .i64 0) := MP.out.2.2.2.1.cell 2
        have q0 := MP.out.2.2.2.1.free 0
        have q1 := MP.out.2.2.2.1.free 1
        have q2 := MP.out.2.2.2.1.free 2
        have MF : Hid (Below w.heap.size w (((W7.setCell ⟨w.heap.size + 1 + 1, 0, none⟩ (.int .i64 (sp : Int))).setCell ⟨w.heap.size + 1 + 1, 1, none⟩ (.int .i64 z)).setCell ⟨w.heap.size + 1 + 1, 2, none⟩ (.int .i64 wy)) ∧ Box (((W7.setCell ⟨w.heap.size + 1 + 1, 0, none⟩ (.int .i64 (sp : Int))).setCell ⟨w.heap.size + 1 + 1, 1, none⟩ (.int .i64 z)).setCell ⟨w.heap.size + 1 + 1, 2, none⟩ (.int .i64 wy)) (w.heap.size + 1 + 1) 45 #[.int .i64 (sp : Int), .int .i64 z, .int .i64 wy]) := ⟨((MP.out.1.setCell (Nat.le_add_right _ 2) _).setCell (Nat.le_add_right _ 2) _).setCell (Nat.le_add_right _ 2) _, by
          have h9 := ((MP.out.2.2.2.1.set 0 (.int .i64 (sp : Int))).set 1 (.int .i64 z)).set 2 (.int .i64 wy)
          exact h9⟩
        clear MP
        go_wp2_with fail
        clear o0 o1 o2 z0 z1 z2 q0 q1 q2
        generalize (((W7.setCell ⟨w.heap.size + 1 + 1, 0, none⟩ (.int .i64 (sp : Int))).setCell ⟨w.heap.size + 1 + 1, 1, none⟩ (.int .i64 z)).setCell ⟨w.heap.size + 1 + 1, 2, none⟩ (.int .i64 wy)) = W8 at MF ⊢
        have z0 : W8.cell? ⟨w.heap.size + 1 + 1, 0, none⟩ = some (.int .i64 (sp : Int)) := MF.out.2.cell 0
        have z1 : W8.cell? ⟨w.heap.size + 1 + 1, 1, none⟩ = some (.int .i64 z) := MF.out.2.cell 1
        have z2 : W8.cell? ⟨w.heap.size + 1 + 1, 2, none⟩ = some (.int .i64 wy) := MF.out.2.cell 2
        exact bodyPost_ret (v := .agg #[.int .i64 (sp : Int), .int .i64 z, .int .i64 wy]) (by simp [results, Try.results42, go_sem, z0, z1, z2]) rfl ⟨by rw [HSP.out, HWY.out, HAT.out, HAV.out, HZ.out], MF.out.1⟩

end Go.Proofs.Ytoennemahlakeaa
