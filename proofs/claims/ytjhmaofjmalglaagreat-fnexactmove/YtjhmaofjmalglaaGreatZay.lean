import Derived.Test.YtjhmaofjmalglaaGreatZax
namespace Go.Proofs.YtjhmaofjmalglaaGreat
open Go.RowKit Go.Lib
set_option maxRecDepth 100000 in
set_option maxHeartbeats 32000000 in
theorem trainOn40 {v : Nv} (pa : Option Addr) (pc : Nat) (ja : Option Addr) (jc : Nat) (fp fa fw lg : Int) (nb : Nat) (B : Nat → Nat → Int) (ba : Option Addr) (bk : Nat) (w : World) (hn : v.n ≤ 1048576) (hm : v.m ≤ 1048576) (hnb : nb ≤ 1048576) (hpc : v.n ≤ pc) (hpm : pc ≤ maxLen) (hjc : v.m ≤ jc) (hjm : jc ≤ maxLen) (hP : PsAt 0 w pa v.n v.P) (hJ : JsAt 0 w ja v.m v.J) (hps : ∀ i, i < v.n → (v.P i).nm.size ≤ maxLen) (hjs : ∀ i, i < v.m → (v.J i).ne ≤ 1048576 ∧ (v.J i).nm.size ≤ maxLen) (hB : NsAt 2 0 w ba nb B) :
  Calls Tryz.prog 102 #[.agg #[.slice pa v.n pc, .slice ja v.m jc], .agg #[.int .i64 fp, .int .i64 fa, .int .i64 fw, .int .i64 lg, .slice ba nb bk]] w fun e w' => OnR w pa pc ja jc v fp fa fw lg nb ba bk (trainF v fp fa fw lg nb B) e w' := by
 have H0 : Hid ((∀ i, i < v.n → (v.P i).nm.size ≤ maxLen) ∧ (∀ i, i < v.m → (v.J i).ne ≤ 1048576 ∧ (v.J i).nm.size ≤ maxLen) ∧ PsAt 0 w pa v.n v.P ∧ JsAt 0 w ja v.m v.J ∧ NsAt 2 0 w ba nb B) := ⟨hps, hjs, hP, hJ, hB⟩
 have S0 : Hid (Below w.heap.size w (((w.alloc (.cells #[.slice pa v.n pc, .slice ja v.m jc] 40)).alloc (.cells #[.int .i64 fp, .int .i64 fa, .int .i64 fw, .int .i64 lg, .slice ba nb bk] 33)).alloc (.cells #[.int .i64 0, .int .i64 0, .int .i64 0, .int .i64 0, .slice none 0 0] 90)) ∧ Box (((w.alloc (.cells #[.slice pa v.n pc, .slice ja v.m jc] 40)).alloc (.cells #[.int .i64 fp, .int .i64 fa, .int .i64 fw, .int .i64 lg, .slice ba nb bk] 33)).alloc (.cells #[.int .i64 0, .int .i64 0, .int .i64 0, .int .i64 0, .slice none 0 0] 90)) w.heap.size 40 #[.slice pa v.n pc, .slice ja v.m jc] ∧ Box (((w.alloc (.cells #[.slice pa v.n pc, .slice ja v.m jc] 40)).alloc (.cells #[.int .i64 fp, .int .i64 fa, .int .i64 fw, .int .i64 lg, .slice ba nb bk] 33)).alloc (.cells #[.int .i64 0, .int .i64 0, .int .i64 0, .int .i64 0, .slice none 0 0] 90)) (w.heap.size + 1) 33 #[.int .i64 fp, .int .i64 fa, .int .i64 fw, .int .i64 lg, .slice ba nb bk] ∧ Box (((w.alloc (.cells #[.slice pa v.n pc, .slice ja v.m jc] 40)).alloc (.cells #[.int .i64 fp, .int .i64 fa, .int .i64 fw, .int .i64 lg, .slice ba nb bk] 33)).alloc (.cells #[.int .i64 0, .int .i64 0, .int .i64 0, .int .i64 0, .slice none 0 0] 90)) (w.heap.size + 1 + 1) 90 #[.int .i64 0, .int .i64 0, .int .i64 0, .int .i64 0, .slice none 0 0]) := ⟨((Below.refl _ _).alloc nr _ |>.alloc (by simp) _ |>.alloc (by simp; omega) _), ((Box.new _ _ _).alloc _).alloc _, by have := (Box.new (w.alloc (.cells #[.slice pa v.n pc, .slice ja v.m jc] 40)) 33 #[.int .i64 fp, .int .i64 fa, .int .i64 fw, .int .i64 lg, .slice ba nb bk]).alloc (.cells #[.int .i64 0, .int .i64 0, .int .i64 0, .int .i64 0, .slice none 0 0] 90); simpa using this, by have := Box.new ((w.alloc (.cells #[.slice pa v.n pc, .slice ja v.m jc] 40)).alloc (.cells #[.int .i64 fp, .int .i64 fa, .int .i64 fw, .int .i64 lg, .slice ba nb bk] 33)) 90 #[.int .i64 0, .int .i64 0, .int .i64 0, .int .i64 0, .slice none 0 0]; simpa using this⟩
 clear hps hjs hP hJ hB
 obtain ⟨R, HR⟩ : ∃ R, Hid (trainF v fp fa fw lg nb B = R) := ⟨_, rfl⟩
 rw [HR.out]
 go_enter Tryz.func102, Tryz.ntmps102
 go_upto_region 1 with fail
 generalize (((w.alloc (.cells #[.slice pa v.n pc, .slice ja v.m jc] 40)).alloc (.cells #[.int .i64 fp, .int .i64 fa, .int .i64 fw, .int .i64 lg, .slice ba nb bk] 33)).alloc (.cells #[.int .i64 0, .int .i64 0, .int .i64 0, .int .i64 0, .slice none 0 0] 90)) = V0 at S0 ⊢
 have n0 := S0.out.2.1.cel 0
 have n1 := S0.out.2.1.cel 1
 go_wp2_with fail
 clear n0 n1
 refine (impl8 pa v.n pc v.P ja v.m jc v.J V0 hn hm hpc hpm hjc hjm (H0.out.2.2.1.mono nr S0.out.1 nr) (H0.out.2.2.2.1.mono nr S0.out.1 nr) H0.out.1 H0.out.2.1).mono ?_
 rintro e w1 ⟨rfl, hb1⟩
 have S1 : Hid (Below w.heap.size w w1 ∧ Box w1 w.heap.size 40 #[.slice pa v.n pc, .slice ja v.m jc] ∧ Box w1 (w.heap.size + 1) 33 #[.int .i64 fp, .int .i64 fa, .int .i64 fw, .int .i64 lg, .slice ba nb bk] ∧ Box w1 (w.heap.size + 1 + 1) 90 #[.int .i64 0, .int .i64 0, .int .i64 0, .int .i64 0, .slice none 0 0]) := ⟨S0.out.1.trans (hb1.mono S0.out.1.size), S0.out.2.1.mono hb1 nr, S0.out.2.2.1.mono hb1 nr, S0.out.2.2.2.mono hb1 nr⟩
 clear hb1 S0
 by_cases hz0 : (netF v.n v.P v.m v.J).1 = 0
 ·
  have ok : v.Ok := nvOk hz0
  have H : Hid (v.Ok ∧ PsAt 0 w pa v.n v.P ∧ JsAt 0 w ja v.m v.J ∧ NsAt 2 0 w ba nb B) := ⟨ok, H0.out.2.2⟩
  have hn1 := ok.n1
  have HTR : Hid (trnB v fp fa fw lg nb B = R) := by show _ = _; rw [← HR.out, trainF, decide_eq_true hz0, Bool.true_and]
  have hz1 := (netF_zero hz0).1
  rw [hz1]
  clear hz0 hz1 HR H0 ok
  have HR := HTR
  clear HTR
  have n0 := S1.out.2.1.cel 0
  have n1 := S1.out.2.1.cel 1
  have t0 := S1.out.2.2.1.cel 0
  have t1 := S1.out.2.2.1.cel 1
  have t2 := S1.out.2.2.1.cel 2
  have t3 := S1.out.2.2.1.cel 3
  have t4 := S1.out.2.2.1.cel 4
  go_wp2_with fail
  clear n0 n1 t0 t1 t2 t3 t4
  refine (isSpot66 H.out.1 pa pc ja jc fp fa fw w1 (H.out.2.1.mono nr S1.out.1 nr)).mono ?_
  rintro e w2 ⟨he, hb2⟩
  have S2 : Hid (Below w.heap.size w w2 ∧ Box w2 w.heap.size 40 #[.slice pa v.n pc, .slice ja v.m jc] ∧ Box w2 (w.heap.size + 1) 33 #[.int .i64 fp, .int .i64 fa, .int .i64 fw, .int .i64 lg, .slice ba nb bk] ∧ Box w2 (w.heap.size + 1 + 1) 90 #[.int .i64 0, .int .i64 0, .int .i64 0, .int .i64 0, .slice none 0 0]) := ⟨S1.out.1.trans (hb2.mono S1.out.1.size), S1.out.2.1.mono hb2 nr, S1.out.2.2.1.mono hb2 nr, S1.out.2.2.2.mono hb2 nr⟩
  clear hb2 S1
  obtain ⟨u, HU⟩ : ∃ u, Hid (spotB v fp fa fw = u) := ⟨_, rfl⟩
  rw [HU.out] at he
  subst he
  cases u with
  | false =>
   have HT : Hid (R = false) := HR.out.symm.trans (trn_spot (by rw [HU.out]; rfl))
   have z0 := S2.out.2.2.2.cel 0
   have z1 := S2.out.2.2.2.cel 1
   have z2 := S2.out.2.2.2.cel 2
   have z3 := S2.out.2.2.2.cel 3
   have z4 := S2.out.2.2.2.cel 4
   have q0 := S2.out.2.2.2.free 0
   have q1 := S2.out.2.2.2.free 1
   have q2 := S2.out.2.2.2.free 2
   have q3 := S2.out.2.2.2.free 3
   have q4 := S2.out.2.2.2.free 4
   have HX : Hid (Below w.heap.size w (((((w2.setCell ⟨w.heap.size + 1 + 1, 0, none⟩ (.int .i64 0)).setCell ⟨w.heap.size + 1 + 1, 1, none⟩ (.int .i64 0)).setCell ⟨w.heap.size + 1 + 1, 2, none⟩ (.int .i64 0)).setCell ⟨w.heap.size + 1 + 1, 3, none⟩ (.int .i64 0)).setCell ⟨w.heap.size + 1 + 1, 4, none⟩ (.slice none 0 0)) ∧ Box (((((w2.setCell ⟨w.heap.size + 1 + 1, 0, none⟩ (.int .i64 0)).setCell ⟨w.heap.size + 1 + 1, 1, none⟩ (.int .i64 0)).setCell ⟨w.heap.size + 1 + 1, 2, none⟩ (.int .i64 0)).setCell ⟨w.heap.size + 1 + 1, 3, none⟩ (.int .i64 0)).setCell ⟨w.heap.size + 1 + 1, 4, none⟩ (.slice none 0 0)) (w.heap.size + 1 + 1) 90 #[.int .i64 0, .int .i64 0, .int .i64 0, .int .i64 0, .slice none 0 0]) := ⟨(((((S2.out.1.setCell (Nat.le_add_right _ 2) _).setCell (Nat.le_add_right _ 2) _).setCell (Nat.le_add_right _ 2) _).setCell (Nat.le_add_right _ 2) _).setCell (Nat.le_add_right _ 2) _), by
    have h9 := (((((S2.out.2.2.2.set 0 (.int .i64 0)).set 1 (.int .i64 0)).set 2 (.int .i64 0)).set 3 (.int .i64 0)).set 4 (.slice none 0 0))
    exact h9⟩
   go_wp2_with fail
   generalize (((((w2.setCell ⟨w.heap.size + 1 + 1, 0, none⟩ (.int .i64 0)).setCell ⟨w.heap.size + 1 + 1, 1, none⟩ (.int .i64 0)).setCell ⟨w.heap.size + 1 + 1, 2, none⟩ (.int .i64 0)).setCell ⟨w.heap.size + 1 + 1, 3, none⟩ (.int .i64 0)).setCell ⟨w.heap.size + 1 + 1, 4, none⟩ (.slice none 0 0)) = W9 at HX ⊢
   clear z0 z1 z2 z3 z4 q0 q1 q2 q3 q4
   have z0 := HX.out.2.cel 0
   have z1 := HX.out.2.cel 1
   have z2 := HX.out.2.cel 2
   have z3 := HX.out.2.cel 3
   have z4 := HX.out.2.cel 4
   exact bodyPost_ret (v := .tuple #[.pointer none, .agg #[.int .i64 0, .int .i64 0, .int .i64 0, .int .i64 0, .slice none 0 0], .bool false]) (by simp [results, Tryz.results102, go_sem, z0, z1, z2, z3, z4]) rfl ⟨none, 0, 0, 0, 0, none, 0, 0, by rw [HT.out], HX.out.1, by rw [HT.out]; intro h; cases h⟩
  | true =>
   have t3 := S2.out.2.2.1.cel 3
   have t4 := S2.out.2.2.1.cel 4
   go_wp2_with fail
   refine (within43 lg 1 100000 w2).mono ?_
   rintro e w3 ⟨he, hw3⟩
   have hw3 := hw3.symm
   subst hw3
   obtain ⟨u2, HU2⟩ : ∃ u, Hid (inB lg 1 100000 = u) := ⟨_, rfl⟩
   rw [HU2.out] at he
   subst he
   cases u2 with
   | false =>
    have HT : Hid (R = false) := HR.out.symm.trans (trn_spot (by rw [HU.out, HU2.out]; rfl))
    have z0 := S2.out.2.2.2.cel 0
    have z1 := S2.out.2.2.2.cel 1
    have z2 := S2.out.2.2.2.cel 2
    have z3 := S2.out.2.2.2.cel 3
    have z4 := S2.out.2.2.2.cel 4
    have q0 := S2.out.2.2.2.free 0
    have q1 := S2.out.2.2.2.free 1
    have q2 := S2.out.2.2.2.free 2
    have q3 := S2.out.2.2.2.free 3
    have q4 := S2.out.2.2.2.free 4
    have HX : Hid (Below w.heap.size w (((((w2.setCell ⟨w.heap.size + 1 + 1, 0, none⟩ (.int .i64 0)).setCell ⟨w.heap.size + 1 + 1, 1, none⟩ (.int .i64 0)).setCell ⟨w.heap.size + 1 + 1, 2, none⟩ (.int .i64 0)).setCell ⟨w.heap.size + 1 + 1, 3, none⟩ (.int .i64 0)).setCell ⟨w.heap.size + 1 + 1, 4, none⟩ (.slice none 0 0)) ∧ Box (((((w2.setCell ⟨w.heap.size + 1 + 1, 0, none⟩ (.int .i64 0)).setCell ⟨w.heap.size + 1 + 1, 1, none⟩ (.int .i64 0)).setCell ⟨w.heap.size + 1 + 1, 2, none⟩ (.int .i64 0)).setCell ⟨w.heap.size + 1 + 1, 3, none⟩ (.int .i64 0)).setCell ⟨w.heap.size + 1 + 1, 4, none⟩ (.slice none 0 0)) (w.heap.size + 1 + 1) 90 #[.int .i64 0, .int .i64 0, .int .i64 0, .int .i64 0, .slice none 0 0]) := ⟨(((((S2.out.1.setCell (Nat.le_add_right _ 2) _).setCell (Nat.le_add_right _ 2) _).setCell (Nat.le_add_right _ 2) _).setCell (Nat.le_add_right _ 2) _).setCell (Nat.le_add_right _ 2) _), by
     have h9 := (((((S2.out.2.2.2.set 0 (.int .i64 0)).set 1 (.int .i64 0)).set 2 (.int .i64 0)).set 3 (.int .i64 0)).set 4 (.slice none 0 0))
     exact h9⟩
    go_wp2_with fail
    generalize (((((w2.setCell ⟨w.heap.size + 1 + 1, 0, none⟩ (.int .i64 0)).setCell ⟨w.heap.size + 1 + 1, 1, none⟩ (.int .i64 0)).setCell ⟨w.heap.size + 1 + 1, 2, none⟩ (.int .i64 0)).setCell ⟨w.heap.size + 1 + 1, 3, none⟩ (.int .i64 0)).setCell ⟨w.heap.size + 1 + 1, 4, none⟩ (.slice none 0 0)) = W9 at HX ⊢
    clear z0 z1 z2 z3 z4 q0 q1 q2 q3 q4
    have z0 := HX.out.2.cel 0
    have z1 := HX.out.2.cel 1
    have z2 := HX.out.2.cel 2
    have z3 := HX.out.2.cel 3
    have z4 := HX.out.2.cel 4
    exact bodyPost_ret (v := .tuple #[.pointer none, .agg #[.int .i64 0, .int .i64 0, .int .i64 0, .int .i64 0, .slice none 0 0], .bool false]) (by simp [results, Tryz.results102, go_sem, z0, z1, z2, z3, z4]) rfl ⟨none, 0, 0, 0, 0, none, 0, 0, by rw [HT.out], HX.out.1, by rw [HT.out]; intro h; cases h⟩
   | true =>
    have hlg : 1 ≤ lg ∧ lg ≤ 100000 := by have := HU2.out; simpa [inB] using this
    by_cases hlb : 200 < nb
    ·
     have hlb' : (200 : Int) < (nb : Int) := by omega
     have HT : Hid (R = false) := HR.out.symm.trans (trn_spot (by rw [HU.out, HU2.out, decide_eq_false (by omega)]; rfl))
     have z0 := S2.out.2.2.2.cel 0
     have z1 := S2.out.2.2.2.cel 1
     have z2 := S2.out.2.2.2.cel 2
     have z3 := S2.out.2.2.2.cel 3
     have z4 := S2.out.2.2.2.cel 4
     have q0 := S2.out.2.2.2.free 0
     have q1 := S2.out.2.2.2.free 1
     have q2 := S2.out.2.2.2.free 2
     have q3 := S2.out.2.2.2.free 3
     have q4 := S2.out.2.2.2.free 4
     have HX : Hid (Below w.heap.size w (((((w2.setCell ⟨w.heap.size + 1 + 1, 0, none⟩ (.int .i64 0)).setCell ⟨w.heap.size + 1 + 1, 1, none⟩ (.int .i64 0)).setCell ⟨w.heap.size + 1 + 1, 2, none⟩ (.int .i64 0)).setCell ⟨w.heap.size + 1 + 1, 3, none⟩ (.int .i64 0)).setCell ⟨w.heap.size + 1 + 1, 4, none⟩ (.slice none 0 0)) ∧ Box (((((w2.setCell ⟨w.heap.size + 1 + 1, 0, none⟩ (.int .i64 0)).setCell ⟨w.heap.size + 1 + 1, 1, none⟩ (.int .i64 0)).setCell ⟨w.heap.size + 1 + 1, 2, none⟩ (.int .i64 0)).setCell ⟨w.heap.size + 1 + 1, 3, none⟩ (.int .i64 0)).setCell ⟨w.heap.size + 1 + 1, 4, none⟩ (.slice none 0 0)) (w.heap.size + 1 + 1) 90 #[.int .i64 0, .int .i64 0, .int .i64 0, .int .i64 0, .slice none 0 0]) := ⟨(((((S2.out.1.setCell (Nat.le_add_right _ 2) _).setCell (Nat.le_add_right _ 2) _).setCell (Nat.le_add_right _ 2) _).setCell (Nat.le_add_right _ 2) _).setCell (Nat.le_add_right _ 2) _), by
      have h9 := (((((S2.out.2.2.2.set 0 (.int .i64 0)).set 1 (.int .i64 0)).set 2 (.int .i64 0)).set 3 (.int .i64 0)).set 4 (.slice none 0 0))
      exact h9⟩
     go_wp2_with fail
     generalize (((((w2.setCell ⟨w.heap.size + 1 + 1, 0, none⟩ (.int .i64 0)).setCell ⟨w.heap.size + 1 + 1, 1, none⟩ (.int .i64 0)).setCell ⟨w.heap.size + 1 + 1, 2, none⟩ (.int .i64 0)).setCell ⟨w.heap.size + 1 + 1, 3, none⟩ (.int .i64 0)).setCell ⟨w.heap.size + 1 + 1, 4, none⟩ (.slice none 0 0)) = W9 at HX ⊢
     clear z0 z1 z2 z3 z4 q0 q1 q2 q3 q4
     have z0 := HX.out.2.cel 0
     have z1 := HX.out.2.cel 1
     have z2 := HX.out.2.cel 2
     have z3 := HX.out.2.cel 3
     have z4 := HX.out.2.cel 4
     exact bodyPost_ret (v := .tuple #[.pointer none, .agg #[.int .i64 0, .int .i64 0, .int .i64 0, .int .i64 0, .slice none 0 0], .bool false]) (by simp [results, Tryz.results102, go_sem, z0, z1, z2, z3, z4]) rfl ⟨none, 0, 0, 0, 0, none, 0, 0, by rw [HT.out], HX.out.1, by rw [HT.out]; intro h; cases h⟩
    have hlb' : ¬ ((200 : Int) < (nb : Int)) := by omega
    have hnb2 : nb ≤ 200 := by omega
    have HOK : Hid (((spotB v fp fa fw && inB lg 1 100000) && decide (nb ≤ 200)) = true) := by show _ = _; rw [HU.out, HU2.out, decide_eq_true hnb2]; rfl
    go_wp2_with fail
    clear t3 t4
    go_loopw [36] (fun c wr => ∃ k : Nat, k ≤ nb ∧ c = .int .i64 k ∧ Hid (∀ q, q < k → stepB v (B q 0) (B q 1) = true) ∧ Hid (Below w.heap.size w wr ∧ Box wr w.heap.size 40 #[.slice pa v.n pc, .slice ja v.m jc] ∧ Box wr (w.heap.size + 1) 33 #[.int .i64 fp, .int .i64 fa, .int .i64 fw, .int .i64 lg, .slice ba nb bk] ∧ Box wr (w.heap.size + 1 + 1) 90 #[.int .i64 0, .int .i64 0, .int .i64 0, .int .i64 0, .slice none 0 0])) (fun c _ => nb - (intOf c).toNat)
    case atStart => exact ⟨0, Nat.zero_le _, rfl, fun q hq => absurd hq (Nat.not_lt_zero _), S2⟩
    case round =>
     clear S2
     obtain ⟨k, hk, rfl, HK, Tq⟩ := hrel
     by_cases hlt : k < nb
     ·
      obtain ⟨bb, bo, hbe, _, hbl, hbc⟩ := H.out.2.2.2 (by omega)
      have hk0 : (0 : Int) ≤ (k : Int) := by omega
      have hkn : (k : Int) < (nb : Int) := by omega
      have d0 : wr.cell? ⟨bb, bo + k * 2, none⟩ = some (.int .i64 (B k 0)) := cell_keep Tq.out.1 hbl (hbc k hlt 0 (by omega))
      have d1 : wr.cell? ⟨bb, bo + k * 2 + 1, none⟩ = some (.int .i64 (B k 1)) := cell_keep Tq.out.1 hbl (hbc k hlt 1 (by omega))
      have hbs : ba = some ⟨bb, bo, none⟩ := hbe
      subst hbs
      have T1 : Hid ((Below w.heap.size w (wr.alloc (.cells #[.int .i64 (B k 0), .int .i64 (B k 1)] 74)) ∧ Box (wr.alloc (.cells #[.int .i64 (B k 0), .int .i64 (B k 1)] 74)) w.heap.size 40 #[.slice pa v.n pc, .slice ja v.m jc] ∧ Box (wr.alloc (.cells #[.int .i64 (B k 0), .int .i64 (B k 1)] 74)) (w.heap.size + 1) 33 #[.int .i64 fp, .int .i64 fa, .int .i64 fw, .int .i64 lg, .slice (some ⟨bb, bo, none⟩) nb bk] ∧ Box (wr.alloc (.cells #[.int .i64 (B k 0), .int .i64 (B k 1)] 74)) (w.heap.size + 1 + 1) 90 #[.int .i64 0, .int .i64 0, .int .i64 0, .int .i64 0, .slice none 0 0]) ∧ Box (wr.alloc (.cells #[.int .i64 (B k 0), .int .i64 (B k 1)] 74)) wr.heap.size 74 #[.int .i64 (B k 0), .int .i64 (B k 1)]) := ⟨⟨Tq.out.1.alloc Tq.out.1.size _, Tq.out.2.1.alloc _, Tq.out.2.2.1.alloc _, Tq.out.2.2.2.alloc _⟩, Box.new _ _ _⟩
      clear hbc hbl Tq
      go_upto_region 6 with fail
      clear d0 d1
      generalize (wr.alloc (.cells #[.int .i64 (B k 0), .int .i64 (B k 1)] 74)) = V5 at T1 ⊢
      generalize wr.heap.size = sq at T1 ⊢
      have s0 := T1.out.2.cel 0
      have s1 := T1.out.2.cel 1
      have n0 := T1.out.1.2.1.cel 0
      have n1 := T1.out.1.2.1.cel 1
      go_wp2_with fail
      clear s0 s1 n0 n1
      refine (isStep67 hn1 pa pc ja jc (B k 0) (B k 1) V5).mono ?_
      rintro e w6 ⟨he, hb6⟩
      have T6 : Hid (Below w.heap.size w w6 ∧ Box w6 w.heap.size 40 #[.slice pa v.n pc, .slice ja v.m jc] ∧ Box w6 (w.heap.size + 1) 33 #[.int .i64 fp, .int .i64 fa, .int .i64 fw, .int .i64 lg, .slice (some ⟨bb, bo, none⟩) nb bk] ∧ Box w6 (w.heap.size + 1 + 1) 90 #[.int .i64 0, .int .i64 0, .int .i64 0, .int .i64 0, .slice none 0 0]) := ⟨T1.out.1.1.trans (hb6.mono T1.out.1.1.size), T1.out.1.2.1.mono hb6 nr, T1.out.1.2.2.1.mono hb6 nr, T1.out.1.2.2.2.mono hb6 nr⟩
      clear hb6 T1
      obtain ⟨u4, HU4⟩ : ∃ u, Hid (stepB v (B k 0) (B k 1) = u) := ⟨_, rfl⟩
      rw [HU4.out] at he
      subst he
      cases u4 with
      | false =>
       have HT : Hid (R = false) := HR.out.symm.trans (trn_step hlt HU4.out)
       have z0 := T6.out.2.2.2.cel 0
       have z1 := T6.out.2.2.2.cel 1
       have z2 := T6.out.2.2.2.cel 2
       have z3 := T6.out.2.2.2.cel 3
       have z4 := T6.out.2.2.2.cel 4
       have q0 := T6.out.2.2.2.free 0
       have q1 := T6.out.2.2.2.free 1
       have q2 := T6.out.2.2.2.free 2
       have q3 := T6.out.2.2.2.free 3
       have q4 := T6.out.2.2.2.free 4
       have HX : Hid (Below w.heap.size w (((((w6.setCell ⟨w.heap.size + 1 + 1, 0, none⟩ (.int .i64 0)).setCell ⟨w.heap.size + 1 + 1, 1, none⟩ (.int .i64 0)).setCell ⟨w.heap.size + 1 + 1, 2, none⟩ (.int .i64 0)).setCell ⟨w.heap.size + 1 + 1, 3, none⟩ (.int .i64 0)).setCell ⟨w.heap.size + 1 + 1, 4, none⟩ (.slice none 0 0)) ∧ Box (((((w6.setCell ⟨w.heap.size + 1 + 1, 0, none⟩ (.int .i64 0)).setCell ⟨w.heap.size + 1 + 1, 1, none⟩ (.int .i64 0)).setCell ⟨w.heap.size + 1 + 1, 2, none⟩ (.int .i64 0)).setCell ⟨w.heap.size + 1 + 1, 3, none⟩ (.int .i64 0)).setCell ⟨w.heap.size + 1 + 1, 4, none⟩ (.slice none 0 0)) (w.heap.size + 1 + 1) 90 #[.int .i64 0, .int .i64 0, .int .i64 0, .int .i64 0, .slice none 0 0]) := ⟨(((((T6.out.1.setCell (Nat.le_add_right _ 2) _).setCell (Nat.le_add_right _ 2) _).setCell (Nat.le_add_right _ 2) _).setCell (Nat.le_add_right _ 2) _).setCell (Nat.le_add_right _ 2) _), by
        have h9 := (((((T6.out.2.2.2.set 0 (.int .i64 0)).set 1 (.int .i64 0)).set 2 (.int .i64 0)).set 3 (.int .i64 0)).set 4 (.slice none 0 0))
        exact h9⟩
       go_wp2_with fail
       generalize (((((w6.setCell ⟨w.heap.size + 1 + 1, 0, none⟩ (.int .i64 0)).setCell ⟨w.heap.size + 1 + 1, 1, none⟩ (.int .i64 0)).setCell ⟨w.heap.size + 1 + 1, 2, none⟩ (.int .i64 0)).setCell ⟨w.heap.size + 1 + 1, 3, none⟩ (.int .i64 0)).setCell ⟨w.heap.size + 1 + 1, 4, none⟩ (.slice none 0 0)) = W9 at HX ⊢
       clear z0 z1 z2 z3 z4 q0 q1 q2 q3 q4
       have z0 := HX.out.2.cel 0
       have z1 := HX.out.2.cel 1
       have z2 := HX.out.2.cel 2
       have z3 := HX.out.2.cel 3
       have z4 := HX.out.2.cel 4
       exact bodyPost_ret (v := .tuple #[.pointer none, .agg #[.int .i64 0, .int .i64 0, .int .i64 0, .int .i64 0, .slice none 0 0], .bool false]) (by simp [results, Tryz.results102, go_sem, z0, z1, z2, z3, z4]) rfl ⟨none, 0, 0, 0, 0, none, 0, 0, by rw [HT.out], HX.out.1, by rw [HT.out]; intro h; cases h⟩
      | true =>
       have HK2 : Hid (∀ q, q < k + 1 → stepB v (B q 0) (B q 1) = true) := fun q hq => by
        by_cases c : q = k
        ·
         subst c
         exact HU4.out
        ·
         exact HK.out q (by omega)
       go_wp2_with fail
       go_roundw
       case rel => exact ⟨k + 1, by omega, by go_num, HK2, T6⟩
       case measure => simp [intOf]; omega
     ·
      have hge : ¬ ((k : Int) < (nb : Int)) := by omega
      have HST : Hid (∀ q, q < nb → stepB v (B q 0) (B q 1) = true) := fun q hq => HK.out q (by omega)
      clear HK
      obtain ⟨jn, HJ⟩ : ∃ u, Hid (joinedB v fp fw nb B = u) := ⟨_, rfl⟩
      have HEQ : Hid (R = (jn && needB v fp fa fw lg nb B)) := by show _ = _; rw [← HR.out, trn_eq HOK.out HST.out, HJ.out]
      clear HR
      have MD : Hid (Below w.heap.size w wr.drew ∧ Box wr.drew w.heap.size 40 #[.slice pa v.n pc, .slice ja v.m jc] ∧ Box wr.drew (w.heap.size + 1) 33 #[.int .i64 fp, .int .i64 fa, .int .i64 fw, .int .i64 lg, .slice ba nb bk] ∧ Box wr.drew (w.heap.size + 1 + 1) 90 #[.int .i64 0, .int .i64 0, .int .i64 0, .int .i64 0, .slice none 0 0]) := ⟨Tq.out.1.drew, Tq.out.2.1.drew, Tq.out.2.2.1.drew, Tq.out.2.2.2.drew⟩
      have n0 := Tq.out.2.1.cel 0
      have n1 := Tq.out.2.1.cel 1
      have t0 := Tq.out.2.2.1.cel 0
      have t1 := Tq.out.2.2.1.cel 1
      have t2 := Tq.out.2.2.1.cel 2
      have t3 := Tq.out.2.2.1.cel 3
      have t4 := Tq.out.2.2.1.cel 4
      have z0 := Tq.out.2.2.2.cel 0
      have z1 := Tq.out.2.2.2.cel 1
      have z2 := Tq.out.2.2.2.cel 2
      have z3 := Tq.out.2.2.2.cel 3
      have z4 := Tq.out.2.2.2.cel 4
      go_wp2_with fail
      refine wp_region_held_drew (S := (fun wx : World => wx.cell? ⟨w.heap.size, 0, none⟩ = some (.slice pa v.n pc) ∧ wx.cell? ⟨w.heap.size, 1, none⟩ = some (.slice ja v.m jc) ∧ wx.cell? ⟨w.heap.size + 1, 0, none⟩ = some (.int .i64 fp) ∧ wx.cell? ⟨w.heap.size + 1, 1, none⟩ = some (.int .i64 fa) ∧ wx.cell? ⟨w.heap.size + 1, 2, none⟩ = some (.int .i64 fw) ∧ wx.cell? ⟨w.heap.size + 1, 3, none⟩ = some (.int .i64 lg) ∧ wx.cell? ⟨w.heap.size + 1, 4, none⟩ = some (.slice ba nb bk))) (by kernel_rfl) ?_ (fun hHeld => ?_)
      ·
       exact ⟨n0, n1, t0, t1, t2, t3, t4⟩
      refine tk 0 ?_
      refine tk 2 ?_
      refine rl 1 fun K hK => ?_
      go_simp
      refine (trackOf68 H.out.1 (pc := pc) (jc := jc) _ (H.out.2.1.mono nr MD.out.1 nr) (H.out.2.2.1.mono nr MD.out.1 nr)).mono ?_
      rintro e w1 ⟨bt, sb, rfl, hTK, hbt, hsb, hb1⟩
      have M1 : Hid (Below w.heap.size w w1 ∧ Box w1 w.heap.size 40 #[.slice pa v.n pc, .slice ja v.m jc] ∧ Box w1 (w.heap.size + 1) 33 #[.int .i64 fp, .int .i64 fa, .int .i64 fw, .int .i64 lg, .slice ba nb bk] ∧ Box w1 (w.heap.size + 1 + 1) 90 #[.int .i64 0, .int .i64 0, .int .i64 0, .int .i64 0, .slice none 0 0]) := ⟨MD.out.1.trans (hb1.mono MD.out.1.size), MD.out.2.1.mono hb1 nr, MD.out.2.2.1.mono hb1 nr, MD.out.2.2.2.mono hb1 nr⟩
      have K1 : Hid (TkAt w1 bt sb v pa pc ja jc ∧ w.heap.size + 1 + 1 ≠ bt ∧ w.heap.size + 1 + 1 ≠ sb) := ⟨hTK, by have := MD.out.2.2.2.lt; omega, by have := MD.out.2.2.2.lt; omega⟩
      clear hb1 hTK hbt hsb
      go_wp2_with fail
      refine hK.out _ _ ?_ (fun hHeld1 => ?_)
      ·
       exact ⟨M1.out.2.1.cell 0, M1.out.2.1.cell 1, M1.out.2.2.1.cell 0, M1.out.2.2.1.cell 1, M1.out.2.2.1.cell 2, M1.out.2.2.1.cell 3, M1.out.2.2.1.cell 4⟩
      clear hK K
      refine rl 3 fun K hK => ?_
      go_simp
      refine (bodyOf46 fp fa fw lg ba nb bk w1).mono ?_
      rintro e w2 ⟨rfl, hb2⟩
      have M2 : Hid (Below w.heap.size w w2 ∧ Box w2 w.heap.size 40 #[.slice pa v.n pc, .slice ja v.m jc] ∧ Box w2 (w.heap.size + 1) 33 #[.int .i64 fp, .int .i64 fa, .int .i64 fw, .int .i64 lg, .slice ba nb bk] ∧ Box w2 (w.heap.size + 1 + 1) 90 #[.int .i64 0, .int .i64 0, .int .i64 0, .int .i64 0, .slice none 0 0]) := ⟨M1.out.1.trans (hb2.mono M1.out.1.size), M1.out.2.1.mono hb2 nr, M1.out.2.2.1.mono hb2 nr, M1.out.2.2.2.mono hb2 nr⟩
      have K2 : Hid (TkAt w2 bt sb v pa pc ja jc) := K1.out.1.mono hb2 nr
      clear hb2
      go_wp2_with fail
      refine hK.out _ _ ?_ (fun hHeld3 => ?_)
      ·
       exact ⟨M2.out.2.1.cell 0, M2.out.2.1.cell 1, M2.out.2.2.1.cell 0, M2.out.2.2.1.cell 1, M2.out.2.2.1.cell 2, M2.out.2.2.1.cell 3, M2.out.2.2.1.cell 4⟩
      clear hK K
      refine tk 4 ?_
      refine rl 5 fun K hK => ?_
      have e1 : w.heap.size ≠ w.heap.size + 1 + 1 := by omega
      have e2 : w.heap.size + 1 ≠ w.heap.size + 1 + 1 := by omega
      have M3 : Hid (Below w.heap.size w (((((w2.setCell ⟨w.heap.size + 1 + 1, 0, none⟩ (.int .i64 fp)).setCell ⟨w.heap.size + 1 + 1, 1, none⟩ (.int .i64 fa)).setCell ⟨w.heap.size + 1 + 1, 2, none⟩ (.int .i64 fw)).setCell ⟨w.heap.size + 1 + 1, 3, none⟩ (.int .i64 lg)).setCell ⟨w.heap.size + 1 + 1, 4, none⟩ (.slice ba nb bk)) ∧ Box (((((w2.setCell ⟨w.heap.size + 1 + 1, 0, none⟩ (.int .i64 fp)).setCell ⟨w.heap.size + 1 + 1, 1, none⟩ (.int .i64 fa)).setCell ⟨w.heap.size + 1 + 1, 2, none⟩ (.int .i64 fw)).setCell ⟨w.heap.size + 1 + 1, 3, none⟩ (.int .i64 lg)).setCell ⟨w.heap.size + 1 + 1, 4, none⟩ (.slice ba nb bk)) w.heap.size 40 #[.slice pa v.n pc, .slice ja v.m jc] ∧ Box (((((w2.setCell ⟨w.heap.size + 1 + 1, 0, none⟩ (.int .i64 fp)).setCell ⟨w.heap.size + 1 + 1, 1, none⟩ (.int .i64 fa)).setCell ⟨w.heap.size + 1 + 1, 2, none⟩ (.int .i64 fw)).setCell ⟨w.heap.size + 1 + 1, 3, none⟩ (.int .i64 lg)).setCell ⟨w.heap.size + 1 + 1, 4, none⟩ (.slice ba nb bk)) (w.heap.size + 1) 33 #[.int .i64 fp, .int .i64 fa, .int .i64 fw, .int .i64 lg, .slice ba nb bk] ∧ Box (((((w2.setCell ⟨w.heap.size + 1 + 1, 0, none⟩ (.int .i64 fp)).setCell ⟨w.heap.size + 1 + 1, 1, none⟩ (.int .i64 fa)).setCell ⟨w.heap.size + 1 + 1, 2, none⟩ (.int .i64 fw)).setCell ⟨w.heap.size + 1 + 1, 3, none⟩ (.int .i64 lg)).setCell ⟨w.heap.size + 1 + 1, 4, none⟩ (.slice ba nb bk)) (w.heap.size + 1 + 1) 90 #[.int .i64 fp, .int .i64 fa, .int .i64 fw, .int .i64 lg, .slice ba nb bk]) := ⟨(((((M2.out.1.setCell (Nat.le_add_right _ 2) _).setCell (Nat.le_add_right _ 2) _).setCell (Nat.le_add_right _ 2) _).setCell (Nat.le_add_right _ 2) _).setCell (Nat.le_add_right _ 2) _), (((((M2.out.2.1.other e1 _).other e1 _).other e1 _).other e1 _).other e1 _), (((((M2.out.2.2.1.other e2 _).other e2 _).other e2 _).other e2 _).other e2 _), by
       have h9 := (((((M2.out.2.2.2.set 0 (.int .i64 fp)).set 1 (.int .i64 fa)).set 2 (.int .i64 fw)).set 3 (.int .i64 lg)).set 4 (.slice ba nb bk))
       exact h9⟩
      have M3K : Hid (TkAt (((((w2.setCell ⟨w.heap.size + 1 + 1, 0, none⟩ (.int .i64 fp)).setCell ⟨w.heap.size + 1 + 1, 1, none⟩ (.int .i64 fa)).setCell ⟨w.heap.size + 1 + 1, 2, none⟩ (.int .i64 fw)).setCell ⟨w.heap.size + 1 + 1, 3, none⟩ (.int .i64 lg)).setCell ⟨w.heap.size + 1 + 1, 4, none⟩ (.slice ba nb bk)) bt sb v pa pc ja jc) := (((((K2.out.set K1.out.2.1 K1.out.2.2 (Nat.le_add_right _ 2) (M2.out.1) H.out.2.1 H.out.2.2.1).set K1.out.2.1 K1.out.2.2 (Nat.le_add_right _ 2) (M2.out.1.setCell (Nat.le_add_right _ 2) _) H.out.2.1 H.out.2.2.1).set K1.out.2.1 K1.out.2.2 (Nat.le_add_right _ 2) ((M2.out.1.setCell (Nat.le_add_right _ 2) _).setCell (Nat.le_add_right _ 2) _) H.out.2.1 H.out.2.2.1).set K1.out.2.1 K1.out.2.2 (Nat.le_add_right _ 2) (((M2.out.1.setCell (Nat.le_add_right _ 2) _).setCell (Nat.le_add_right _ 2) _).setCell (Nat.le_add_right _ 2) _) H.out.2.1 H.out.2.2.1).set K1.out.2.1 K1.out.2.2 (Nat.le_add_right _ 2) ((((M2.out.1.setCell (Nat.le_add_right _ 2) _).setCell (Nat.le_add_right _ 2) _).setCell (Nat.le_add_right _ 2) _).setCell (Nat.le_add_right _ 2) _) H.out.2.1 H.out.2.2.1)
      have z0 := M2.out.2.2.2.cel 0
      have z1 := M2.out.2.2.2.cel 1
      have z2 := M2.out.2.2.2.cel 2
      have z3 := M2.out.2.2.2.cel 3
      have z4 := M2.out.2.2.2.cel 4
      have q0 := M2.out.2.2.2.free 0
      have q1 := M2.out.2.2.2.free 1
      have q2 := M2.out.2.2.2.free 2
      have q3 := M2.out.2.2.2.free 3
      have q4 := M2.out.2.2.2.free 4
      clear e1 e2
      go_simp
      refine hK.out _ _ ?_ (fun hHeld5 => ?_)
      ·
       exact ⟨M3.out.2.1.cell 0, M3.out.2.1.cell 1, M3.out.2.2.1.cell 0, M3.out.2.2.1.cell 1, M3.out.2.2.1.cell 2, M3.out.2.2.1.cell 3, M3.out.2.2.1.cell 4⟩
      clear hK K
      refine wpAnyH_done (by kernel_rfl) ?_ _
      clear z0 z1 z2 z3 z4 q0 q1 q2 q3 q4 n0 n1 t0 t1 t2 t3 t4 MD M1 M2 K2 Tq
      generalize (((((w2.setCell ⟨w.heap.size + 1 + 1, 0, none⟩ (.int .i64 fp)).setCell ⟨w.heap.size + 1 + 1, 1, none⟩ (.int .i64 fa)).setCell ⟨w.heap.size + 1 + 1, 2, none⟩ (.int .i64 fw)).setCell ⟨w.heap.size + 1 + 1, 3, none⟩ (.int .i64 lg)).setCell ⟨w.heap.size + 1 + 1, 4, none⟩ (.slice ba nb bk)) = V3 at M3 M3K ⊢
      have D : Hid ((Below w.heap.size w V3.drew ∧ Box V3.drew w.heap.size 40 #[.slice pa v.n pc, .slice ja v.m jc] ∧ Box V3.drew (w.heap.size + 1) 33 #[.int .i64 fp, .int .i64 fa, .int .i64 fw, .int .i64 lg, .slice ba nb bk] ∧ Box V3.drew (w.heap.size + 1 + 1) 90 #[.int .i64 fp, .int .i64 fa, .int .i64 fw, .int .i64 lg, .slice ba nb bk]) ∧ TkAt V3.drew bt sb v pa pc ja jc) := ⟨⟨M3.out.1.drew, M3.out.2.1.drew, M3.out.2.2.1.drew, M3.out.2.2.2.drew⟩, M3K.out.mono (Below.refl V3.heap.size V3).drew nr⟩
      have D1 : Hid (Below w.heap.size w V3.drew ∧ Box V3.drew w.heap.size 40 #[.slice pa v.n pc, .slice ja v.m jc] ∧ Box V3.drew (w.heap.size + 1) 33 #[.int .i64 fp, .int .i64 fa, .int .i64 fw, .int .i64 lg, .slice ba nb bk] ∧ Box V3.drew (w.heap.size + 1 + 1) 90 #[.int .i64 fp, .int .i64 fa, .int .i64 fw, .int .i64 lg, .slice ba nb bk]) := D.out.1
      have n0 := M3.out.2.1.cel 0
      have n1 := M3.out.2.1.cel 1
      have t0 := M3.out.2.2.1.cel 0
      have t1 := M3.out.2.2.1.cel 1
      have t2 := M3.out.2.2.1.cel 2
      have t3 := M3.out.2.2.1.cel 3
      have t4 := M3.out.2.2.1.cel 4
      have z0 := M3.out.2.2.2.cel 0
      have z1 := M3.out.2.2.2.cel 1
      have z2 := M3.out.2.2.2.cel 2
      have z3 := M3.out.2.2.2.cel 3
      have z4 := M3.out.2.2.2.cel 4
      go_wp2_with fail
      refine wp_region_held_drew (S := (fun wx : World => wx.cell? ⟨w.heap.size, 0, none⟩ = some (.slice pa v.n pc) ∧ wx.cell? ⟨w.heap.size, 1, none⟩ = some (.slice ja v.m jc) ∧ wx.cell? ⟨w.heap.size + 1, 0, none⟩ = some (.int .i64 fp) ∧ wx.cell? ⟨w.heap.size + 1, 1, none⟩ = some (.int .i64 fa) ∧ wx.cell? ⟨w.heap.size + 1, 2, none⟩ = some (.int .i64 fw) ∧ wx.cell? ⟨w.heap.size + 1, 3, none⟩ = some (.int .i64 lg) ∧ wx.cell? ⟨w.heap.size + 1, 4, none⟩ = some (.slice ba nb bk) ∧ wx.cell? ⟨w.heap.size + 1 + 1, 0, none⟩ = some (.int .i64 fp) ∧ wx.cell? ⟨w.heap.size + 1 + 1, 1, none⟩ = some (.int .i64 fa) ∧ wx.cell? ⟨w.heap.size + 1 + 1, 2, none⟩ = some (.int .i64 fw) ∧ wx.cell? ⟨w.heap.size + 1 + 1, 3, none⟩ = some (.int .i64 lg) ∧ wx.cell? ⟨w.heap.size + 1 + 1, 4, none⟩ = some (.slice ba nb bk))) (by kernel_rfl) ?_ (fun hHeld => ?_)
      ·
       exact ⟨n0, n1, t0, t1, t2, t3, t4, z0, z1, z2, z3, z4⟩
      refine tk 0 ?_
      refine tk 1 ?_
      refine tk 2 ?_
      refine tk 3 ?_
      refine tk 4 ?_
      refine rl 5 fun K hK => ?_
      go_simp
      refine (joined47 H.out.1 fp fa fw lg nb B ba bk _ D.out.2 HU.out hnb2 (H.out.2.2.2.mono nr D.out.1.1 nr) HST.out).mono ?_
      rintro e w4 ⟨he, hb4⟩
      have M4 : Hid ((Below w.heap.size w w4 ∧ Box w4 w.heap.size 40 #[.slice pa v.n pc, .slice ja v.m jc] ∧ Box w4 (w.heap.size + 1) 33 #[.int .i64 fp, .int .i64 fa, .int .i64 fw, .int .i64 lg, .slice ba nb bk] ∧ Box w4 (w.heap.size + 1 + 1) 90 #[.int .i64 fp, .int .i64 fa, .int .i64 fw, .int .i64 lg, .slice ba nb bk]) ∧ TkAt w4 bt sb v pa pc ja jc) := ⟨⟨D1.out.1.trans (hb4.mono D1.out.1.size), D1.out.2.1.mono hb4 nr, D1.out.2.2.1.mono hb4 nr, D1.out.2.2.2.mono hb4 nr⟩, D.out.2.mono hb4 nr⟩
      clear hb4
      rw [HJ.out] at he
      subst he
      go_wp2_with fail
      refine hK.out _ _ ?_ (fun hHeld5 => ?_)
      ·
       exact ⟨M4.out.1.2.1.cell 0, M4.out.1.2.1.cell 1, M4.out.1.2.2.1.cell 0, M4.out.1.2.2.1.cell 1, M4.out.1.2.2.1.cell 2, M4.out.1.2.2.1.cell 3, M4.out.1.2.2.1.cell 4, M4.out.1.2.2.2.cell 0, M4.out.1.2.2.2.cell 1, M4.out.1.2.2.2.cell 2, M4.out.1.2.2.2.cell 3, M4.out.1.2.2.2.cell 4⟩
      clear hK K
      cases jn with
      | false =>
       refine tk 6 ?_
       refine tf 7 ?_
       refine tf 8 ?_
       refine tf 9 ?_
       refine tf 10 ?_
       refine tf 11 ?_
       refine tf 12 ?_
       refine tf 13 ?_
       refine tk 14 ?_
       refine tk 15 ?_
       refine rl 16 fun K hK => ?_
       have e1 : w.heap.size ≠ w.heap.size + 1 + 1 := by omega
       have e2 : w.heap.size + 1 ≠ w.heap.size + 1 + 1 := by omega
       have M6 : Hid (Below w.heap.size w (((((w4.setCell ⟨w.heap.size + 1 + 1, 0, none⟩ (.int .i64 fp)).setCell ⟨w.heap.size + 1 + 1, 1, none⟩ (.int .i64 fa)).setCell ⟨w.heap.size + 1 + 1, 2, none⟩ (.int .i64 fw)).setCell ⟨w.heap.size + 1 + 1, 3, none⟩ (.int .i64 lg)).setCell ⟨w.heap.size + 1 + 1, 4, none⟩ (.slice ba nb bk)) ∧ Box (((((w4.setCell ⟨w.heap.size + 1 + 1, 0, none⟩ (.int .i64 fp)).setCell ⟨w.heap.size + 1 + 1, 1, none⟩ (.int .i64 fa)).setCell ⟨w.heap.size + 1 + 1, 2, none⟩ (.int .i64 fw)).setCell ⟨w.heap.size + 1 + 1, 3, none⟩ (.int .i64 lg)).setCell ⟨w.heap.size + 1 + 1, 4, none⟩ (.slice ba nb bk)) w.heap.size 40 #[.slice pa v.n pc, .slice ja v.m jc] ∧ Box (((((w4.setCell ⟨w.heap.size + 1 + 1, 0, none⟩ (.int .i64 fp)).setCell ⟨w.heap.size + 1 + 1, 1, none⟩ (.int .i64 fa)).setCell ⟨w.heap.size + 1 + 1, 2, none⟩ (.int .i64 fw)).setCell ⟨w.heap.size + 1 + 1, 3, none⟩ (.int .i64 lg)).setCell ⟨w.heap.size + 1 + 1, 4, none⟩ (.slice ba nb bk)) (w.heap.size + 1) 33 #[.int .i64 fp, .int .i64 fa, .int .i64 fw, .int .i64 lg, .slice ba nb bk] ∧ Box (((((w4.setCell ⟨w.heap.size + 1 + 1, 0, none⟩ (.int .i64 fp)).setCell ⟨w.heap.size + 1 + 1, 1, none⟩ (.int .i64 fa)).setCell ⟨w.heap.size + 1 + 1, 2, none⟩ (.int .i64 fw)).setCell ⟨w.heap.size + 1 + 1, 3, none⟩ (.int .i64 lg)).setCell ⟨w.heap.size + 1 + 1, 4, none⟩ (.slice ba nb bk)) (w.heap.size + 1 + 1) 90 #[.int .i64 fp, .int .i64 fa, .int .i64 fw, .int .i64 lg, .slice ba nb bk]) := ⟨(((((M4.out.1.1.setCell (Nat.le_add_right _ 2) _).setCell (Nat.le_add_right _ 2) _).setCell (Nat.le_add_right _ 2) _).setCell (Nat.le_add_right _ 2) _).setCell (Nat.le_add_right _ 2) _), (((((M4.out.1.2.1.other e1 _).other e1 _).other e1 _).other e1 _).other e1 _), (((((M4.out.1.2.2.1.other e2 _).other e2 _).other e2 _).other e2 _).other e2 _), by
        have h9 := (((((M4.out.1.2.2.2.set 0 (.int .i64 fp)).set 1 (.int .i64 fa)).set 2 (.int .i64 fw)).set 3 (.int .i64 lg)).set 4 (.slice ba nb bk))
        exact h9⟩
       have M6K : Hid (TkAt (((((w4.setCell ⟨w.heap.size + 1 + 1, 0, none⟩ (.int .i64 fp)).setCell ⟨w.heap.size + 1 + 1, 1, none⟩ (.int .i64 fa)).setCell ⟨w.heap.size + 1 + 1, 2, none⟩ (.int .i64 fw)).setCell ⟨w.heap.size + 1 + 1, 3, none⟩ (.int .i64 lg)).setCell ⟨w.heap.size + 1 + 1, 4, none⟩ (.slice ba nb bk)) bt sb v pa pc ja jc) := (((((M4.out.2.set K1.out.2.1 K1.out.2.2 (Nat.le_add_right _ 2) (M4.out.1.1) H.out.2.1 H.out.2.2.1).set K1.out.2.1 K1.out.2.2 (Nat.le_add_right _ 2) (M4.out.1.1.setCell (Nat.le_add_right _ 2) _) H.out.2.1 H.out.2.2.1).set K1.out.2.1 K1.out.2.2 (Nat.le_add_right _ 2) ((M4.out.1.1.setCell (Nat.le_add_right _ 2) _).setCell (Nat.le_add_right _ 2) _) H.out.2.1 H.out.2.2.1).set K1.out.2.1 K1.out.2.2 (Nat.le_add_right _ 2) (((M4.out.1.1.setCell (Nat.le_add_right _ 2) _).setCell (Nat.le_add_right _ 2) _).setCell (Nat.le_add_right _ 2) _) H.out.2.1 H.out.2.2.1).set K1.out.2.1 K1.out.2.2 (Nat.le_add_right _ 2) ((((M4.out.1.1.setCell (Nat.le_add_right _ 2) _).setCell (Nat.le_add_right _ 2) _).setCell (Nat.le_add_right _ 2) _).setCell (Nat.le_add_right _ 2) _) H.out.2.1 H.out.2.2.1)
       have z0 := M4.out.1.2.2.2.cel 0
       have z1 := M4.out.1.2.2.2.cel 1
       have z2 := M4.out.1.2.2.2.cel 2
       have z3 := M4.out.1.2.2.2.cel 3
       have z4 := M4.out.1.2.2.2.cel 4
       have q0 := M4.out.1.2.2.2.free 0
       have q1 := M4.out.1.2.2.2.free 1
       have q2 := M4.out.1.2.2.2.free 2
       have q3 := M4.out.1.2.2.2.free 3
       have q4 := M4.out.1.2.2.2.free 4
       clear e1 e2
       go_simp
       refine hK.out _ _ ?_ (fun hHeld16 => ?_)
       ·
        exact ⟨M6.out.2.1.cell 0, M6.out.2.1.cell 1, M6.out.2.2.1.cell 0, M6.out.2.2.1.cell 1, M6.out.2.2.1.cell 2, M6.out.2.2.1.cell 3, M6.out.2.2.1.cell 4, M6.out.2.2.2.cell 0, M6.out.2.2.2.cell 1, M6.out.2.2.2.cell 2, M6.out.2.2.2.cell 3, M6.out.2.2.2.cell 4⟩
       clear hK K
       refine tk 17 ?_
       refine wpAnyH_done (by kernel_rfl) ?_ _
       have HT : Hid (R = false) := HEQ.out
       generalize (((((w4.setCell ⟨w.heap.size + 1 + 1, 0, none⟩ (.int .i64 fp)).setCell ⟨w.heap.size + 1 + 1, 1, none⟩ (.int .i64 fa)).setCell ⟨w.heap.size + 1 + 1, 2, none⟩ (.int .i64 fw)).setCell ⟨w.heap.size + 1 + 1, 3, none⟩ (.int .i64 lg)).setCell ⟨w.heap.size + 1 + 1, 4, none⟩ (.slice ba nb bk)) = W9 at M6 M6K ⊢
       go_wp2_with fail
       have z0 := M6.out.2.2.2.cel 0
       have z1 := M6.out.2.2.2.cel 1
       have z2 := M6.out.2.2.2.cel 2
       have z3 := M6.out.2.2.2.cel 3
       have z4 := M6.out.2.2.2.cel 4
       exact bodyPost_ret (v := .tuple #[.pointer (some ⟨bt, 0, none⟩), .agg #[.int .i64 fp, .int .i64 fa, .int .i64 fw, .int .i64 lg, .slice ba nb bk], .bool false]) (by simp [results, Tryz.results102, go_sem, z0, z1, z2, z3, z4]) rfl ⟨some ⟨bt, 0, none⟩, fp, fa, fw, lg, ba, nb, bk, by rw [HT.out], M6.out.1, fun _ => ⟨⟨rfl, rfl, rfl, rfl, rfl, rfl, rfl⟩, bt, sb, rfl, M6K.out⟩⟩
      | true =>
       refine tk 6 ?_
       refine tk 7 ?_
       refine tk 8 ?_
       refine tk 10 ?_
       refine tk 11 ?_
       refine tk 12 ?_
       refine rl 9 fun K hK => ?_
       go_simp
       refine (needs70 H.out.1 fp fa fw lg nb B ba bk w4 M4.out.2 HU.out hlg hnb2 (H.out.2.2.2.mono nr M4.out.1.1 nr) HST.out).mono ?_
       rintro e w5 ⟨z, rfl, hz, hb5⟩
       have HZ : Hid (decide (z = (nb : Int)) = needB v fp fa fw lg nb B) := hz
       have M5 : Hid ((Below w.heap.size w w5 ∧ Box w5 w.heap.size 40 #[.slice pa v.n pc, .slice ja v.m jc] ∧ Box w5 (w.heap.size + 1) 33 #[.int .i64 fp, .int .i64 fa, .int .i64 fw, .int .i64 lg, .slice ba nb bk] ∧ Box w5 (w.heap.size + 1 + 1) 90 #[.int .i64 fp, .int .i64 fa, .int .i64 fw, .int .i64 lg, .slice ba nb bk]) ∧ TkAt w5 bt sb v pa pc ja jc) := ⟨⟨M4.out.1.1.trans (hb5.mono M4.out.1.1.size), M4.out.1.2.1.mono hb5 nr, M4.out.1.2.2.1.mono hb5 nr, M4.out.1.2.2.2.mono hb5 nr⟩, M4.out.2.mono hb5 nr⟩
       clear hb5 hz
       go_wp2_with fail
       refine hK.out _ _ ?_ (fun hHeld9 => ?_)
       ·
        exact ⟨M5.out.1.2.1.cell 0, M5.out.1.2.1.cell 1, M5.out.1.2.2.1.cell 0, M5.out.1.2.2.1.cell 1, M5.out.1.2.2.1.cell 2, M5.out.1.2.2.1.cell 3, M5.out.1.2.2.1.cell 4, M5.out.1.2.2.2.cell 0, M5.out.1.2.2.2.cell 1, M5.out.1.2.2.2.cell 2, M5.out.1.2.2.2.cell 3, M5.out.1.2.2.2.cell 4⟩
       clear hK K
       obtain ⟨g, HG⟩ : ∃ g, Hid (needB v fp fa fw lg nb B = g) := ⟨_, rfl⟩
       cases g with
       | false =>
        have hzn : (z == (nb : Int)) = false := by
         have := HZ.out.trans HG.out
         simpa using this
        have HE2 : Hid (R = false) := HEQ.out.trans (by rw [HG.out]; rfl)
        refine tk 13 ?_
        refine tk 14 ?_
        refine tk 15 ?_
        refine rl 16 fun K hK => ?_
        have e1 : w.heap.size ≠ w.heap.size + 1 + 1 := by omega
        have e2 : w.heap.size + 1 ≠ w.heap.size + 1 + 1 := by omega
        have M6 : Hid (Below w.heap.size w (((((w5.setCell ⟨w.heap.size + 1 + 1, 0, none⟩ (.int .i64 fp)).setCell ⟨w.heap.size + 1 + 1, 1, none⟩ (.int .i64 fa)).setCell ⟨w.heap.size + 1 + 1, 2, none⟩ (.int .i64 fw)).setCell ⟨w.heap.size + 1 + 1, 3, none⟩ (.int .i64 lg)).setCell ⟨w.heap.size + 1 + 1, 4, none⟩ (.slice ba nb bk)) ∧ Box (((((w5.setCell ⟨w.heap.size + 1 + 1, 0, none⟩ (.int .i64 fp)).setCell ⟨w.heap.size + 1 + 1, 1, none⟩ (.int .i64 fa)).setCell ⟨w.heap.size + 1 + 1, 2, none⟩ (.int .i64 fw)).setCell ⟨w.heap.size + 1 + 1, 3, none⟩ (.int .i64 lg)).setCell ⟨w.heap.size + 1 + 1, 4, none⟩ (.slice ba nb bk)) w.heap.size 40 #[.slice pa v.n pc, .slice ja v.m jc] ∧ Box (((((w5.setCell ⟨w.heap.size + 1 + 1, 0, none⟩ (.int .i64 fp)).setCell ⟨w.heap.size + 1 + 1, 1, none⟩ (.int .i64 fa)).setCell ⟨w.heap.size + 1 + 1, 2, none⟩ (.int .i64 fw)).setCell ⟨w.heap.size + 1 + 1, 3, none⟩ (.int .i64 lg)).setCell ⟨w.heap.size + 1 + 1, 4, none⟩ (.slice ba nb bk)) (w.heap.size + 1) 33 #[.int .i64 fp, .int .i64 fa, .int .i64 fw, .int .i64 lg, .slice ba nb bk] ∧ Box (((((w5.setCell ⟨w.heap.size + 1 + 1, 0, none⟩ (.int .i64 fp)).setCell ⟨w.heap.size + 1 + 1, 1, none⟩ (.int .i64 fa)).setCell ⟨w.heap.size + 1 + 1, 2, none⟩ (.int .i64 fw)).setCell ⟨w.heap.size + 1 + 1, 3, none⟩ (.int .i64 lg)).setCell ⟨w.heap.size + 1 + 1, 4, none⟩ (.slice ba nb bk)) (w.heap.size + 1 + 1) 90 #[.int .i64 fp, .int .i64 fa, .int .i64 fw, .int .i64 lg, .slice ba nb bk]) := ⟨(((((M5.out.1.1.setCell (Nat.le_add_right _ 2) _).setCell (Nat.le_add_right _ 2) _).setCell (Nat.le_add_right _ 2) _).setCell (Nat.le_add_right _ 2) _).setCell (Nat.le_add_right _ 2) _), (((((M5.out.1.2.1.other e1 _).other e1 _).other e1 _).other e1 _).other e1 _), (((((M5.out.1.2.2.1.other e2 _).other e2 _).other e2 _).other e2 _).other e2 _), by
         have h9 := (((((M5.out.1.2.2.2.set 0 (.int .i64 fp)).set 1 (.int .i64 fa)).set 2 (.int .i64 fw)).set 3 (.int .i64 lg)).set 4 (.slice ba nb bk))
         exact h9⟩
        have M6K : Hid (TkAt (((((w5.setCell ⟨w.heap.size + 1 + 1, 0, none⟩ (.int .i64 fp)).setCell ⟨w.heap.size + 1 + 1, 1, none⟩ (.int .i64 fa)).setCell ⟨w.heap.size + 1 + 1, 2, none⟩ (.int .i64 fw)).setCell ⟨w.heap.size + 1 + 1, 3, none⟩ (.int .i64 lg)).setCell ⟨w.heap.size + 1 + 1, 4, none⟩ (.slice ba nb bk)) bt sb v pa pc ja jc) := (((((M5.out.2.set K1.out.2.1 K1.out.2.2 (Nat.le_add_right _ 2) (M5.out.1.1) H.out.2.1 H.out.2.2.1).set K1.out.2.1 K1.out.2.2 (Nat.le_add_right _ 2) (M5.out.1.1.setCell (Nat.le_add_right _ 2) _) H.out.2.1 H.out.2.2.1).set K1.out.2.1 K1.out.2.2 (Nat.le_add_right _ 2) ((M5.out.1.1.setCell (Nat.le_add_right _ 2) _).setCell (Nat.le_add_right _ 2) _) H.out.2.1 H.out.2.2.1).set K1.out.2.1 K1.out.2.2 (Nat.le_add_right _ 2) (((M5.out.1.1.setCell (Nat.le_add_right _ 2) _).setCell (Nat.le_add_right _ 2) _).setCell (Nat.le_add_right _ 2) _) H.out.2.1 H.out.2.2.1).set K1.out.2.1 K1.out.2.2 (Nat.le_add_right _ 2) ((((M5.out.1.1.setCell (Nat.le_add_right _ 2) _).setCell (Nat.le_add_right _ 2) _).setCell (Nat.le_add_right _ 2) _).setCell (Nat.le_add_right _ 2) _) H.out.2.1 H.out.2.2.1)
        have z0 := M5.out.1.2.2.2.cel 0
        have z1 := M5.out.1.2.2.2.cel 1
        have z2 := M5.out.1.2.2.2.cel 2
        have z3 := M5.out.1.2.2.2.cel 3
        have z4 := M5.out.1.2.2.2.cel 4
        have q0 := M5.out.1.2.2.2.free 0
        have q1 := M5.out.1.2.2.2.free 1
        have q2 := M5.out.1.2.2.2.free 2
        have q3 := M5.out.1.2.2.2.free 3
        have q4 := M5.out.1.2.2.2.free 4
        clear e1 e2
        go_simp
        refine hK.out _ _ ?_ (fun hHeld16 => ?_)
        ·
         exact ⟨M6.out.2.1.cell 0, M6.out.2.1.cell 1, M6.out.2.2.1.cell 0, M6.out.2.2.1.cell 1, M6.out.2.2.1.cell 2, M6.out.2.2.1.cell 3, M6.out.2.2.1.cell 4, M6.out.2.2.2.cell 0, M6.out.2.2.2.cell 1, M6.out.2.2.2.cell 2, M6.out.2.2.2.cell 3, M6.out.2.2.2.cell 4⟩
        clear hK K
        refine tk 17 ?_
        refine wpAnyH_done (by kernel_rfl) ?_ _
        have HT : Hid (R = false) := HE2
        generalize (((((w5.setCell ⟨w.heap.size + 1 + 1, 0, none⟩ (.int .i64 fp)).setCell ⟨w.heap.size + 1 + 1, 1, none⟩ (.int .i64 fa)).setCell ⟨w.heap.size + 1 + 1, 2, none⟩ (.int .i64 fw)).setCell ⟨w.heap.size + 1 + 1, 3, none⟩ (.int .i64 lg)).setCell ⟨w.heap.size + 1 + 1, 4, none⟩ (.slice ba nb bk)) = W9 at M6 M6K ⊢
        go_wp2_with fail
        have z0 := M6.out.2.2.2.cel 0
        have z1 := M6.out.2.2.2.cel 1
        have z2 := M6.out.2.2.2.cel 2
        have z3 := M6.out.2.2.2.cel 3
        have z4 := M6.out.2.2.2.cel 4
        exact bodyPost_ret (v := .tuple #[.pointer (some ⟨bt, 0, none⟩), .agg #[.int .i64 fp, .int .i64 fa, .int .i64 fw, .int .i64 lg, .slice ba nb bk], .bool false]) (by simp [results, Tryz.results102, go_sem, z0, z1, z2, z3, z4]) rfl ⟨some ⟨bt, 0, none⟩, fp, fa, fw, lg, ba, nb, bk, by rw [HT.out], M6.out.1, fun _ => ⟨⟨rfl, rfl, rfl, rfl, rfl, rfl, rfl⟩, bt, sb, rfl, M6K.out⟩⟩
       | true =>
        have hzn : z = (nb : Int) := by
         have := HZ.out.trans HG.out
         simpa using this
        subst hzn
        have HE2 : Hid (R = true) := HEQ.out.trans (by rw [HG.out]; rfl)
        refine tk 13 ?_
        refine tk 14 ?_
        refine tk 15 ?_
        refine rl 16 fun K hK => ?_
        have e1 : w.heap.size ≠ w.heap.size + 1 + 1 := by omega
        have e2 : w.heap.size + 1 ≠ w.heap.size + 1 + 1 := by omega
        have M6 : Hid (Below w.heap.size w (((((w5.setCell ⟨w.heap.size + 1 + 1, 0, none⟩ (.int .i64 fp)).setCell ⟨w.heap.size + 1 + 1, 1, none⟩ (.int .i64 fa)).setCell ⟨w.heap.size + 1 + 1, 2, none⟩ (.int .i64 fw)).setCell ⟨w.heap.size + 1 + 1, 3, none⟩ (.int .i64 lg)).setCell ⟨w.heap.size + 1 + 1, 4, none⟩ (.slice ba nb bk)) ∧ Box (((((w5.setCell ⟨w.heap.size + 1 + 1, 0, none⟩ (.int .i64 fp)).setCell ⟨w.heap.size + 1 + 1, 1, none⟩ (.int .i64 fa)).setCell ⟨w.heap.size + 1 + 1, 2, none⟩ (.int .i64 fw)).setCell ⟨w.heap.size + 1 + 1, 3, none⟩ (.int .i64 lg)).setCell ⟨w.heap.size + 1 + 1, 4, none⟩ (.slice ba nb bk)) w.heap.size 40 #[.slice pa v.n pc, .slice ja v.m jc] ∧ Box (((((w5.setCell ⟨w.heap.size + 1 + 1, 0, none⟩ (.int .i64 fp)).setCell ⟨w.heap.size + 1 + 1, 1, none⟩ (.int .i64 fa)).setCell ⟨w.heap.size + 1 + 1, 2, none⟩ (.int .i64 fw)).setCell ⟨w.heap.size + 1 + 1, 3, none⟩ (.int .i64 lg)).setCell ⟨w.heap.size + 1 + 1, 4, none⟩ (.slice ba nb bk)) (w.heap.size + 1) 33 #[.int .i64 fp, .int .i64 fa, .int .i64 fw, .int .i64 lg, .slice ba nb bk] ∧ Box (((((w5.setCell ⟨w.heap.size + 1 + 1, 0, none⟩ (.int .i64 fp)).setCell ⟨w.heap.size + 1 + 1, 1, none⟩ (.int .i64 fa)).setCell ⟨w.heap.size + 1 + 1, 2, none⟩ (.int .i64 fw)).setCell ⟨w.heap.size + 1 + 1, 3, none⟩ (.int .i64 lg)).setCell ⟨w.heap.size + 1 + 1, 4, none⟩ (.slice ba nb bk)) (w.heap.size + 1 + 1) 90 #[.int .i64 fp, .int .i64 fa, .int .i64 fw, .int .i64 lg, .slice ba nb bk]) := ⟨(((((M5.out.1.1.setCell (Nat.le_add_right _ 2) _).setCell (Nat.le_add_right _ 2) _).setCell (Nat.le_add_right _ 2) _).setCell (Nat.le_add_right _ 2) _).setCell (Nat.le_add_right _ 2) _), (((((M5.out.1.2.1.other e1 _).other e1 _).other e1 _).other e1 _).other e1 _), (((((M5.out.1.2.2.1.other e2 _).other e2 _).other e2 _).other e2 _).other e2 _), by
         have h9 := (((((M5.out.1.2.2.2.set 0 (.int .i64 fp)).set 1 (.int .i64 fa)).set 2 (.int .i64 fw)).set 3 (.int .i64 lg)).set 4 (.slice ba nb bk))
         exact h9⟩
        have M6K : Hid (TkAt (((((w5.setCell ⟨w.heap.size + 1 + 1, 0, none⟩ (.int .i64 fp)).setCell ⟨w.heap.size + 1 + 1, 1, none⟩ (.int .i64 fa)).setCell ⟨w.heap.size + 1 + 1, 2, none⟩ (.int .i64 fw)).setCell ⟨w.heap.size + 1 + 1, 3, none⟩ (.int .i64 lg)).setCell ⟨w.heap.size + 1 + 1, 4, none⟩ (.slice ba nb bk)) bt sb v pa pc ja jc) := (((((M5.out.2.set K1.out.2.1 K1.out.2.2 (Nat.le_add_right _ 2) (M5.out.1.1) H.out.2.1 H.out.2.2.1).set K1.out.2.1 K1.out.2.2 (Nat.le_add_right _ 2) (M5.out.1.1.setCell (Nat.le_add_right _ 2) _) H.out.2.1 H.out.2.2.1).set K1.out.2.1 K1.out.2.2 (Nat.le_add_right _ 2) ((M5.out.1.1.setCell (Nat.le_add_right _ 2) _).setCell (Nat.le_add_right _ 2) _) H.out.2.1 H.out.2.2.1).set K1.out.2.1 K1.out.2.2 (Nat.le_add_right _ 2) (((M5.out.1.1.setCell (Nat.le_add_right _ 2) _).setCell (Nat.le_add_right _ 2) _).setCell (Nat.le_add_right _ 2) _) H.out.2.1 H.out.2.2.1).set K1.out.2.1 K1.out.2.2 (Nat.le_add_right _ 2) ((((M5.out.1.1.setCell (Nat.le_add_right _ 2) _).setCell (Nat.le_add_right _ 2) _).setCell (Nat.le_add_right _ 2) _).setCell (Nat.le_add_right _ 2) _) H.out.2.1 H.out.2.2.1)
        have z0 := M5.out.1.2.2.2.cel 0
        have z1 := M5.out.1.2.2.2.cel 1
        have z2 := M5.out.1.2.2.2.cel 2
        have z3 := M5.out.1.2.2.2.cel 3
        have z4 := M5.out.1.2.2.2.cel 4
        have q0 := M5.out.1.2.2.2.free 0
        have q1 := M5.out.1.2.2.2.free 1
        have q2 := M5.out.1.2.2.2.free 2
        have q3 := M5.out.1.2.2.2.free 3
        have q4 := M5.out.1.2.2.2.free 4
        clear e1 e2
        go_simp
        refine hK.out _ _ ?_ (fun hHeld16 => ?_)
        ·
         exact ⟨M6.out.2.1.cell 0, M6.out.2.1.cell 1, M6.out.2.2.1.cell 0, M6.out.2.2.1.cell 1, M6.out.2.2.1.cell 2, M6.out.2.2.1.cell 3, M6.out.2.2.1.cell 4, M6.out.2.2.2.cell 0, M6.out.2.2.2.cell 1, M6.out.2.2.2.cell 2, M6.out.2.2.2.cell 3, M6.out.2.2.2.cell 4⟩
        clear hK K
        refine tk 17 ?_
        refine wpAnyH_done (by kernel_rfl) ?_ _
        have HT : Hid (R = true) := HE2
        generalize (((((w5.setCell ⟨w.heap.size + 1 + 1, 0, none⟩ (.int .i64 fp)).setCell ⟨w.heap.size + 1 + 1, 1, none⟩ (.int .i64 fa)).setCell ⟨w.heap.size + 1 + 1, 2, none⟩ (.int .i64 fw)).setCell ⟨w.heap.size + 1 + 1, 3, none⟩ (.int .i64 lg)).setCell ⟨w.heap.size + 1 + 1, 4, none⟩ (.slice ba nb bk)) = W9 at M6 M6K ⊢
        go_wp2_with fail
        have z0 := M6.out.2.2.2.cel 0
        have z1 := M6.out.2.2.2.cel 1
        have z2 := M6.out.2.2.2.cel 2
        have z3 := M6.out.2.2.2.cel 3
        have z4 := M6.out.2.2.2.cel 4
        exact bodyPost_ret (v := .tuple #[.pointer (some ⟨bt, 0, none⟩), .agg #[.int .i64 fp, .int .i64 fa, .int .i64 fw, .int .i64 lg, .slice ba nb bk], .bool true]) (by simp [results, Tryz.results102, go_sem, z0, z1, z2, z3, z4]) rfl ⟨some ⟨bt, 0, none⟩, fp, fa, fw, lg, ba, nb, bk, by rw [HT.out], M6.out.1, fun _ => ⟨⟨rfl, rfl, rfl, rfl, rfl, rfl, rfl⟩, bt, sb, rfl, M6K.out⟩⟩
 ·
  have HNG : Hid (trainF v fp fa fw lg nb B = false) := by show _ = _; rw [trainF, decide_eq_false hz0]; rfl
  have HT : Hid (R = false) := HR.out.symm.trans (HNG.out)
  have z0 := S1.out.2.2.2.cel 0
  have z1 := S1.out.2.2.2.cel 1
  have z2 := S1.out.2.2.2.cel 2
  have z3 := S1.out.2.2.2.cel 3
  have z4 := S1.out.2.2.2.cel 4
  have q0 := S1.out.2.2.2.free 0
  have q1 := S1.out.2.2.2.free 1
  have q2 := S1.out.2.2.2.free 2
  have q3 := S1.out.2.2.2.free 3
  have q4 := S1.out.2.2.2.free 4
  have HX : Hid (Below w.heap.size w (((((w1.setCell ⟨w.heap.size + 1 + 1, 0, none⟩ (.int .i64 0)).setCell ⟨w.heap.size + 1 + 1, 1, none⟩ (.int .i64 0)).setCell ⟨w.heap.size + 1 + 1, 2, none⟩ (.int .i64 0)).setCell ⟨w.heap.size + 1 + 1, 3, none⟩ (.int .i64 0)).setCell ⟨w.heap.size + 1 + 1, 4, none⟩ (.slice none 0 0)) ∧ Box (((((w1.setCell ⟨w.heap.size + 1 + 1, 0, none⟩ (.int .i64 0)).setCell ⟨w.heap.size + 1 + 1, 1, none⟩ (.int .i64 0)).setCell ⟨w.heap.size + 1 + 1, 2, none⟩ (.int .i64 0)).setCell ⟨w.heap.size + 1 + 1, 3, none⟩ (.int .i64 0)).setCell ⟨w.heap.size + 1 + 1, 4, none⟩ (.slice none 0 0)) (w.heap.size + 1 + 1) 90 #[.int .i64 0, .int .i64 0, .int .i64 0, .int .i64 0, .slice none 0 0]) := ⟨(((((S1.out.1.setCell (Nat.le_add_right _ 2) _).setCell (Nat.le_add_right _ 2) _).setCell (Nat.le_add_right _ 2) _).setCell (Nat.le_add_right _ 2) _).setCell (Nat.le_add_right _ 2) _), by
   have h9 := (((((S1.out.2.2.2.set 0 (.int .i64 0)).set 1 (.int .i64 0)).set 2 (.int .i64 0)).set 3 (.int .i64 0)).set 4 (.slice none 0 0))
   exact h9⟩
  go_wp2_with fail
  generalize (((((w1.setCell ⟨w.heap.size + 1 + 1, 0, none⟩ (.int .i64 0)).setCell ⟨w.heap.size + 1 + 1, 1, none⟩ (.int .i64 0)).setCell ⟨w.heap.size + 1 + 1, 2, none⟩ (.int .i64 0)).setCell ⟨w.heap.size + 1 + 1, 3, none⟩ (.int .i64 0)).setCell ⟨w.heap.size + 1 + 1, 4, none⟩ (.slice none 0 0)) = W9 at HX ⊢
  clear z0 z1 z2 z3 z4 q0 q1 q2 q3 q4
  have z0 := HX.out.2.cel 0
  have z1 := HX.out.2.cel 1
  have z2 := HX.out.2.cel 2
  have z3 := HX.out.2.cel 3
  have z4 := HX.out.2.cel 4
  exact bodyPost_ret (v := .tuple #[.pointer none, .agg #[.int .i64 0, .int .i64 0, .int .i64 0, .int .i64 0, .slice none 0 0], .bool false]) (by simp [results, Tryz.results102, go_sem, z0, z1, z2, z3, z4]) rfl ⟨none, 0, 0, 0, 0, none, 0, 0, by rw [HT.out], HX.out.1, by rw [HT.out]; intro h; cases h⟩
end Go.Proofs.YtjhmaofjmalglaaGreat
