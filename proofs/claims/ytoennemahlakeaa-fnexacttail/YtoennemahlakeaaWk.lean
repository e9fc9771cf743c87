import Derived.Test.YtoennemahlakeaaWi
import Derived.Test.YtoennemahlakeaaTu
namespace Go.Proofs.Ytoennemahlakeaa
open Go.RowKit Go.Lib

/-- what Tail answers -/
def tlF (v : Nv) (fp fa fw lg : Int) (nb : Nat) (B : Nat → Nat → Int) (c : Nat) : Int := if trainF v fp fa fw lg nb B = true then (if c = 0 then ahP fp B nb else if c = 1 then tlA v fp fa fw lg nb B else ahW fw B nb) else 0
theorem tr_ok {v : Nv} {fp fa fw lg : Int} {nb : Nat} {B : Nat → Nat → Int} (h : trainF v fp fa fw lg nb B = true) : v.Ok ∧ Trn v fp fa fw lg nb B := by
  have h0 := h
  rw [trainF, Bool.and_eq_true, decide_eq_true_eq] at h0
  exact ⟨nvOk h0.1, trn_of h0.2⟩
set_option maxRecDepth 100000 in
set_option maxHeartbeats 4000000 in
theorem specTail19 {v : Nv} (pa : Option Addr) (pc : Nat) (ja : Option Addr) (jc : Nat) (fp fa fw lg : Int) (nb : Nat) (B : Nat → Nat → Int) (ba : Option Addr) (bk : Nat) (w : World) (hn : v.n ≤ 1048576) (hm : v.m ≤ 1048576) (hnb : nb ≤ 1048576) (hP : PsAt 0 w pa v.n v.P) (hJ : JsAt 0 w ja v.m v.J) (hps : ∀ i, i < v.n → (v.P i).nm.size ≤ maxLen) (hjs : ∀ i, i < v.m → (v.J i).ne ≤ 1048576 ∧ (v.J i).nm.size ≤ maxLen) (hB : NsAt 2 0 w ba nb B) :
    Calls Try.prog 19 #[.agg #[.slice pa v.n pc, .slice ja v.m jc], .agg #[.int .i64 fp, .int .i64 fa, .int .i64 fw, .int .i64 lg, .slice ba nb bk]] w fun e w' => e = .returned (.agg #[.int .i64 (tlF v fp fa fw lg nb B 0), .int .i64 (tlF v fp fa fw lg nb B 1), .int .i64 (tlF v fp fa fw lg nb B 2)]) ∧ Below w.heap.size w w' := by
  have H : Hid (PsAt 0 w pa v.n v.P ∧ JsAt 0 w ja v.m v.J ∧ (∀ i, i < v.n → (v.P i).nm.size ≤ maxLen) ∧ (∀ i, i < v.m → (v.J i).ne ≤ 1048576 ∧ (v.J i).nm.size ≤ maxLen) ∧ NsAt 2 0 w ba nb B) := ⟨hP, hJ, hps, hjs, hB⟩
  have S0 : Hid (Below w.heap.size w (((w.alloc (.cells #[.slice pa v.n pc, .slice ja v.m jc] 32)).alloc (.cells #[.int .i64 fp, .int .i64 fa, .int .i64 fw, .int .i64 lg, .slice ba nb bk] 48)).alloc (.cells #[.int .i64 0, .int .i64 0, .int .i64 0] 45)) ∧ Box (((w.alloc (.cells #[.slice pa v.n pc, .slice ja v.m jc] 32)).alloc (.cells #[.int .i64 fp, .int .i64 fa, .int .i64 fw, .int .i64 lg, .slice ba nb bk] 48)).alloc (.cells #[.int .i64 0, .int .i64 0, .int .i64 0] 45)) (w.heap.size) 32 #[.slice pa v.n pc, .slice ja v.m jc] ∧ Box (((w.alloc (.cells #[.slice pa v.n pc, .slice ja v.m jc] 32)).alloc (.cells #[.int .i64 fp, .int .i64 fa, .int .i64 fw, .int .i64 lg, .slice ba nb bk] 48)).alloc (.cells #[.int .i64 0, .int .i64 0, .int .i64 0] 45)) (w.heap.size + 1) 48 #[.int .i64 fp, .int .i64 fa, .int .i64 fw, .int .i64 lg, .slice ba nb bk] ∧ Box (((w.alloc (.cells #[.slice pa v.n pc, .slice ja v.m jc] 32)).alloc (.cells #[.int .i64 fp, .int .i64 fa, .int .i64 fw, .int .i64 lg, .slice ba nb bk] 48)).alloc (.cells #[.int .i64 0, .int .i64 0, .int .i64 0] 45)) (w.heap.size + 1 + 1) 45 #[.int .i64 0, .int .i64 0, .int .i64 0]) := ⟨((Below.refl _ _).alloc (Nat.le_refl _) _ |>.alloc (by simp) _ |>.alloc (by simp; omega) _), ((Box.new _ _ _).alloc _).alloc _, by have := (Box.new (w.alloc (.cells #[.slice pa v.n pc, .slice ja v.m jc] 32)) 48 #[.int .i64 fp, .int .i64 fa, .int .i64 fw, .int .i64 lg, .slice ba nb bk]).alloc (.cells #[.int .i64 0, .int .i64 0, .int .i64 0] 45); simpa using this, by have := Box.new ((w.alloc (.cells #[.slice pa v.n pc, .slice ja v.m jc] 32)).alloc (.cells #[.int .i64 fp, .int .i64 fa, .int .i64 fw, .int .i64 lg, .slice ba nb bk] 48)) 45 #[.int .i64 0, .int .i64 0, .int .i64 0]; simpa using this⟩
  clear hP hJ hps hjs hB
  obtain ⟨u, HU⟩ : ∃ u, Hid (trainF v fp fa fw lg nb B = u) := ⟨_, rfl⟩
  obtain ⟨r0, r1, r2, HR⟩ : ∃ r0 r1 r2, Hid (tlF v fp fa fw lg nb B 0 = r0 ∧ tlF v fp fa fw lg nb B 1 = r1 ∧ tlF v fp fa fw lg nb B 2 = r2) := ⟨_, _, _, rfl, rfl, rfl⟩
  rw [HR.out.1, HR.out.2.1, HR.out.2.2]
  go_enter Try.func19, Try.ntmps19
  go_upto_region 1 with fail
  generalize (((w.alloc (.cells #[.slice pa v.n pc, .slice ja v.m jc] 32)).alloc (.cells #[.int .i64 fp, .int .i64 fa, .int .i64 fw, .int .i64 lg, .slice ba nb bk] 48)).alloc (.cells #[.int .i64 0, .int .i64 0, .int .i64 0] 45)) = V0 at S0 ⊢
  have a0 : V0.cell? ⟨w.heap.size, 0, none⟩ = some (.slice pa v.n pc) := S0.out.2.1.cell 0
  have a1 : V0.cell? ⟨w.heap.size, 1, none⟩ = some (.slice ja v.m jc) := S0.out.2.1.cell 1
  have b0 : V0.cell? ⟨w.heap.size + 1, 0, none⟩ = some (.int .i64 fp) := S0.out.2.2.1.cell 0
  have b1 : V0.cell? ⟨w.heap.size + 1, 1, none⟩ = some (.int .i64 fa) := S0.out.2.2.1.cell 1
  have b2 : V0.cell? ⟨w.heap.size + 1, 2, none⟩ = some (.int .i64 fw) := S0.out.2.2.1.cell 2
  have b3 : V0.cell? ⟨w.heap.size + 1, 3, none⟩ = some (.int .i64 lg) := S0.out.2.2.1.cell 3
  have b4 : V0.cell? ⟨w.heap.size + 1, 4, none⟩ = some (.slice ba nb bk) := S0.out.2.2.1.cell 4
  have c0 : V0.cell? ⟨w.heap.size + 1 + 1, 0, none⟩ = some (.int .i64 0) := S0.out.2.2.2.cell 0
  have c1 : V0.cell? ⟨w.heap.size + 1 + 1, 1, none⟩ = some (.int .i64 0) := S0.out.2.2.2.cell 1
  have c2 : V0.cell? ⟨w.heap.size + 1 + 1, 2, none⟩ = some (.int .i64 0) := S0.out.2.2.2.cell 2
  go_wp2_with fail
  clear a0 a1 b0 b1 b2 b3 b4 c0 c1 c2
  refine (specTrain15 pa pc ja jc fp fa fw lg nb B ba bk V0 hn hm hnb (H.out.1.mono (Nat.le_refl _) S0.out.1 (Nat.le_refl _)) (H.out.2.1.mono (Nat.le_refl _) S0.out.1 (Nat.le_refl _)) H.out.2.2.1 H.out.2.2.2.1 (H.out.2.2.2.2.mono (Nat.le_refl _) S0.out.1 (Nat.le_refl _))).mono ?_
  rintro e w1 ⟨he, hb1⟩
  rw [HU.out] at he
  subst he
  have M1 : Hid (Below w.heap.size w w1 ∧ Box w1 (w.heap.size) 32 #[.slice pa v.n pc, .slice ja v.m jc] ∧ Box w1 (w.heap.size + 1) 48 #[.int .i64 fp, .int .i64 fa, .int .i64 fw, .int .i64 lg, .slice ba nb bk] ∧ Box w1 (w.heap.size + 1 + 1) 45 #[.int .i64 0, .int .i64 0, .int .i64 0]) := ⟨S0.out.1.trans (hb1.mono S0.out.1.size), S0.out.2.1.mono hb1 (Nat.le_refl _), S0.out.2.2.1.mono hb1 (Nat.le_refl _), S0.out.2.2.2.mono hb1 (Nat.le_refl _)⟩
  clear hb1 S0
  cases u with
  | false =>
    have HZ : Hid (r0 = 0 ∧ r1 = 0 ∧ r2 = 0) := ⟨HR.out.1.symm.trans (if_neg (by rw [HU.out]; decide)), HR.out.2.1.symm.trans (if_neg (by rw [HU.out]; decide)), HR.out.2.2.symm.trans (if_neg (by rw [HU.out]; decide))⟩
    have z0 : w1.cell? ⟨w.heap.size + 1 + 1, 0, none⟩ = some (.int .i64 0) := M1.out.2.2.2.cell 0
    have z1 : w1.cell? ⟨w.heap.size + 1 + 1, 1, none⟩ = some (.int .i64 0) := M1.out.2.2.2.cell 1
    have z2 : w1.cell? ⟨w.heap.size + 1 + 1, 2, none⟩ = some (.int .i64 0) := M1.out.2.2.2.cell 2
    have q0 := M1.out.2.2.2.free 0
    have q1 := M1.out.2.2.2.free 1
    have q2 := M1.out.2.2.2.free 2
    have MF : Hid (Below w.heap.size w (((w1.setCell ⟨w.heap.size + 1 + 1, 0, none⟩ (.int .i64 0)).setCell ⟨w.heap.size + 1 + 1, 1, none⟩ (.int .i64 0)).setCell ⟨w.heap.size + 1 + 1, 2, none⟩ (.int .i64 0)) ∧ Box (((w1.setCell ⟨w.heap.size + 1 + 1, 0, none⟩ (.int .i64 0)).setCell ⟨w.heap.size + 1 + 1, 1, none⟩ (.int .i64 0)).setCell ⟨w.heap.size + 1 + 1, 2, none⟩ (.int .i64 0)) (w.heap.size + 1 + 1) 45 #[.int .i64 0, .int .i64 0, .int .i64 0]) := ⟨((M1.out.1.setCell (Nat.le_add_right _ 2) _).setCell (Nat.le_add_right _ 2) _).setCell (Nat.le_add_right _ 2) _, by
      have h9 := ((M1.out.2.2.2.set 0 (.int .i64 0)).set 1 (.int .i64 0)).set 2 (.int .i64 0)
      exact h9⟩
    clear M1
    go_wp2_with fail
    clear z0 z1 z2 q0 q1 q2
    generalize (((w1.setCell ⟨w.heap.size + 1 + 1, 0, none⟩ (.int .i64 0)).setCell ⟨w.heap.size + 1 + 1, 1, none⟩ (.int .i64 0)).setCell ⟨w.heap.size + 1 + 1, 2, none⟩ (.int .i64 0)) = W8 at MF ⊢
    have z0 : W8.cell? ⟨w.heap.size + 1 + 1, 0, none⟩ = some (.int .i64 0) := MF.out.2.cell 0
    have z1 : W8.cell? ⟨w.heap.size + 1 + 1, 1, none⟩ = some (.int .i64 0) := MF.out.2.cell 1
    have z2 : W8.cell? ⟨w.heap.size + 1 + 1, 2, none⟩ = some (.int .i64 0) := MF.out.2.cell 2
    exact bodyPost_ret (v := .agg #[.int .i64 0, .int .i64 0, .int .i64 0]) (by simp [results, Try.results19, go_sem, z0, z1, z2]) rfl ⟨by rw [HZ.out.1, HZ.out.2.1, HZ.out.2.2], MF.out.1⟩
  | true =>
    have HK : Hid (v.Ok ∧ Trn v fp fa fw lg nb B) := tr_ok HU.out
    have a0 : w1.cell? ⟨w.heap.size, 0, none⟩ = some (.slice pa v.n pc) := M1.out.2.1.cell 0
    have a1 : w1.cell? ⟨w.heap.size, 1, none⟩ = some (.slice ja v.m jc) := M1.out.2.1.cell 1
    have b0 : w1.cell? ⟨w.heap.size + 1, 0, none⟩ = some (.int .i64 fp) := M1.out.2.2.1.cell 0
    have b1 : w1.cell? ⟨w.heap.size + 1, 1, none⟩ = some (.int .i64 fa) := M1.out.2.2.1.cell 1
    have b2 : w1.cell? ⟨w.heap.size + 1, 2, none⟩ = some (.int .i64 fw) := M1.out.2.2.1.cell 2
    have b3 : w1.cell? ⟨w.heap.size + 1, 3, none⟩ = some (.int .i64 lg) := M1.out.2.2.1.cell 3
    have b4 : w1.cell? ⟨w.heap.size + 1, 4, none⟩ = some (.slice ba nb bk) := M1.out.2.2.1.cell 4
    have c0 : w1.cell? ⟨w.heap.size + 1 + 1, 0, none⟩ = some (.int .i64 0) := M1.out.2.2.2.cell 0
    have c1 : w1.cell? ⟨w.heap.size + 1 + 1, 1, none⟩ = some (.int .i64 0) := M1.out.2.2.2.cell 1
    have c2 : w1.cell? ⟨w.heap.size + 1 + 1, 2, none⟩ = some (.int .i64 0) := M1.out.2.2.2.cell 2
    go_wp2_with fail
    clear a0 a1 b0 b1 b2 b3 b4 c0 c1 c2
    refine (tail42 HK.out.1 pa pc ja jc fp fa fw lg nb B ba bk w1 (H.out.1.mono (Nat.le_refl _) M1.out.1 (Nat.le_refl _)) HK.out.2 (H.out.2.2.2.2.mono (Nat.le_refl _) M1.out.1 (Nat.le_refl _))).mono ?_
    rintro e w2 ⟨he, hb2⟩
    have HE : Hid (ahP fp B nb = r0 ∧ tlA v fp fa fw lg nb B = r1 ∧ ahW fw B nb = r2) := ⟨((if_pos HU.out : tlF v fp fa fw lg nb B 0 = ahP fp B nb).symm.trans HR.out.1), ((if_pos HU.out : tlF v fp fa fw lg nb B 1 = tlA v fp fa fw lg nb B).symm.trans HR.out.2.1), ((if_pos HU.out : tlF v fp fa fw lg nb B 2 = ahW fw B nb).symm.trans HR.out.2.2)⟩
    rw [HE.out.1, HE.out.2.1, HE.out.2.2] at he
    subst he
    have M2 : Hid (Below w.heap.size w w2 ∧ Box w2 (w.heap.size) 32 #[.slice pa v.n pc, .slice ja v.m jc] ∧ Box w2 (w.heap.size + 1) 48 #[.int .i64 fp, .int .i64 fa, .int .i64 fw, .int .i64 lg, .slice ba nb bk] ∧ Box w2 (w.heap.size + 1 + 1) 45 #[.int .i64 0, .int .i64 0, .int .i64 0]) := ⟨M1.out.1.trans (hb2.mono M1.out.1.size), M1.out.2.1.mono hb2 (Nat.le_refl _), M1.out.2.2.1.mono hb2 (Nat.le_refl _), M1.out.2.2.2.mono hb2 (Nat.le_refl _)⟩
    clear hb2 M1
    have z0 : w2.cell? ⟨w.heap.size + 1 + 1, 0, none⟩ = some (.int .i64 0) := M2.out.2.2.2.cell 0
    have z1 : w2.cell? ⟨w.heap.size + 1 + 1, 1, none⟩ = some (.int .i64 0) := M2.out.2.2.2.cell 1
    have z2 : w2.cell? ⟨w.heap.size + 1 + 1, 2, none⟩ = some (.int .i64 0) := M2.out.2.2.2.cell 2
    have q0 := M2.out.2.2.2.free 0
    have q1 := M2.out.2.2.2.free 1
    have q2 := M2.out.2.2.2.free 2
    have MF : Hid (Below w.heap.size w (((w2.setCell ⟨w.heap.size + 1 + 1, 0, none⟩ (.int .i64 r0)).setCell ⟨w.heap.size + 1 + 1, 1, none⟩ (.int .i64 r1)).setCell ⟨w.heap.size + 1 + 1, 2, none⟩ (.int .i64 r2)) ∧ Box (((w2.setCell ⟨w.heap.size + 1 + 1, 0, none⟩ (.int .i64 r0)).setCell ⟨w.heap.size + 1 + 1, 1, none⟩ (.int .i64 r1)).setCell ⟨w.heap.size + 1 + 1, 2, none⟩ (.int .i64 r2)) (w.heap.size + 1 + 1) 45 #[.int .i64 r0, .int .i64 r1, .int .i64 r2]) := ⟨((M2.out.1.setCell (Nat.le_add_right _ 2) _).setCell (Nat.le_add_right _ 2) _).setCell (Nat.le_add_right _ 2) _, by
      have h9 := ((M2.out.2.2.2.set 0 (.int .i64 r0)).set 1 (.int .i64 r1)).set 2 (.int .i64 r2)
      exact h9⟩
    clear M2
    go_wp2_with fail
    clear z0 z1 z2 q0 q1 q2
    generalize (((w2.setCell ⟨w.heap.size + 1 + 1, 0, none⟩ (.int .i64 r0)).setCell ⟨w.heap.size + 1 + 1, 1, none⟩ (.int .i64 r1)).setCell ⟨w.heap.size + 1 + 1, 2, none⟩ (.int .i64 r2)) = W8 at MF ⊢
    have z0 : W8.cell? ⟨w.heap.size + 1 + 1, 0, none⟩ = some (.int .i64 r0) := MF.out.2.cell 0
    have z1 : W8.cell? ⟨w.heap.size + 1 + 1, 1, none⟩ = some (.int .i64 r1) := MF.out.2.cell 1
    have z2 : W8.cell? ⟨w.heap.size + 1 + 1, 2, none⟩ = some (.int .i64 r2) := MF.out.2.cell 2
    exact bodyPost_ret (v := .agg #[.int .i64 r0, .int .i64 r1, .int .i64 r2]) (by simp [results, Try.results19, go_sem, z0, z1, z2]) rfl ⟨rfl, MF.out.1⟩
theorem fieldSpot (a b c d : Int) (e : Value) : ∀ w : World, (Instr.field 79 (.agg #[.int .i64 a, .int .i64 b, .int .i64 c, .int .i64 d, e]) 0).run Try.prog w = .ok (.agg #[.int .i64 a, .int .i64 b, .int .i64 c]) w := fun _ => by kernel_rfl
set_option maxRecDepth 100000 in
set_option maxHeartbeats 4000000 in
theorem implTail20 {v : Nv} (pa : Option Addr) (pc : Nat) (ja : Option Addr) (jc : Nat) (fp fa fw lg : Int) (nb : Nat) (B : Nat → Nat → Int) (bb bo bk : Nat) (w : World) (hn : v.n ≤ 1048576) (hm : v.m ≤ 1048576) (hnb : nb ≤ 1048576) (hpc : v.n ≤ pc) (hpm : pc ≤ maxLen) (hjc : v.m ≤ jc) (hjm : jc ≤ maxLen) (hP : PsAt 0 w pa v.n v.P) (hJ : JsAt 0 w ja v.m v.J) (hps : ∀ i, i < v.n → (v.P i).nm.size ≤ maxLen) (hjs : ∀ i, i < v.m → (v.J i).ne ≤ 1048576 ∧ (v.J i).nm.size ≤ maxLen) (hB : NsAt 2 0 w (some ⟨bb, bo, none⟩) nb B) :
    Calls Try.prog 20 #[.agg #[.slice pa v.n pc, .slice ja v.m jc], .agg #[.int .i64 fp, .int .i64 fa, .int .i64 fw, .int .i64 lg, .slice (some ⟨bb, bo, none⟩) nb bk]] w fun e w' => e = .returned (.agg #[.int .i64 (tlF v fp fa fw lg nb B 0), .int .i64 (tlF v fp fa fw lg nb B 1), .int .i64 (tlF v fp fa fw lg nb B 2)]) ∧ Below w.heap.size w w' := by
  have H : Hid (PsAt 0 w pa v.n v.P ∧ JsAt 0 w ja v.m v.J ∧ (∀ i, i < v.n → (v.P i).nm.size ≤ maxLen) ∧ (∀ i, i < v.m → (v.J i).ne ≤ 1048576 ∧ (v.J i).nm.size ≤ maxLen) ∧ NsAt 2 0 w (some ⟨bb, bo, none⟩) nb B) := ⟨hP, hJ, hps, hjs, hB⟩
  have S0 : Hid (Below w.heap.size w (((w.alloc (.cells #[.slice pa v.n pc, .slice ja v.m jc] 32)).alloc (.cells #[.int .i64 fp, .int .i64 fa, .int .i64 fw, .int .i64 lg, .slice (some ⟨bb, bo, none⟩) nb bk] 48)).alloc (.cells #[.int .i64 0, .int .i64 0, .int .i64 0] 45)) ∧ Box (((w.alloc (.cells #[.slice pa v.n pc, .slice ja v.m jc] 32)).alloc (.cells #[.int .i64 fp, .int .i64 fa, .int .i64 fw, .int .i64 lg, .slice (some ⟨bb, bo, none⟩) nb bk] 48)).alloc (.cells #[.int .i64 0, .int .i64 0, .int .i64 0] 45)) (w.heap.size) 32 #[.slice pa v.n pc, .slice ja v.m jc] ∧ Box (((w.alloc (.cells #[.slice pa v.n pc, .slice ja v.m jc] 32)).alloc (.cells #[.int .i64 fp, .int .i64 fa, .int .i64 fw, .int .i64 lg, .slice (some ⟨bb, bo, none⟩) nb bk] 48)).alloc (.cells #[.int .i64 0, .int .i64 0, .int .i64 0] 45)) (w.heap.size + 1) 48 #[.int .i64 fp, .int .i64 fa, .int .i64 fw, .int .i64 lg, .slice (some ⟨bb, bo, none⟩) nb bk] ∧ Box (((w.alloc (.cells #[.slice pa v.n pc, .slice ja v.m jc] 32)).alloc (.cells #[.int .i64 fp, .int .i64 fa, .int .i64 fw, .int .i64 lg, .slice (some ⟨bb, bo, none⟩) nb bk] 48)).alloc (.cells #[.int .i64 0, .int .i64 0, .int .i64 0] 45)) (w.heap.size + 1 + 1) 45 #[.int .i64 0, .int .i64 0, .int .i64 0]) := ⟨((Below.refl _ _).alloc (Nat.le_refl _) _ |>.alloc (by simp) _ |>.alloc (by simp; omega) _), ((Box.new _ _ _).alloc _).alloc _, by have := (Box.new (w.alloc (.cells #[.slice pa v.n pc, .slice ja v.m jc] 32)) 48 #[.int .i64 fp, .int .i64 fa, .int .i64 fw, .int .i64 lg, .slice (some ⟨bb, bo, none⟩) nb bk]).alloc (.cells #[.int .i64 0, .int .i64 0, .int .i64 0] 45); simpa using this, by have := Box.new ((w.alloc (.cells #[.slice pa v.n pc, .slice ja v.m jc] 32)).alloc (.cells #[.int .i64 fp, .int .i64 fa, .int .i64 fw, .int .i64 lg, .slice (some ⟨bb, bo, none⟩) nb bk] 48)) 45 #[.int .i64 0, .int .i64 0, .int .i64 0]; simpa using this⟩
  clear hP hJ hps hjs hB
  obtain ⟨u, HU⟩ : ∃ u, Hid (trainF v fp fa fw lg nb B = u) := ⟨_, rfl⟩
  obtain ⟨r0, r1, r2, HR⟩ : ∃ r0 r1 r2, Hid (tlF v fp fa fw lg nb B 0 = r0 ∧ tlF v fp fa fw lg nb B 1 = r1 ∧ tlF v fp fa fw lg nb B 2 = r2) := ⟨_, _, _, rfl, rfl, rfl⟩
  rw [HR.out.1, HR.out.2.1, HR.out.2.2]
  go_enter Try.func20, Try.ntmps20
  go_upto_region 1 with fail
  generalize (((w.alloc (.cells #[.slice pa v.n pc, .slice ja v.m jc] 32)).alloc (.cells #[.int .i64 fp, .int .i64 fa, .int .i64 fw, .int .i64 lg, .slice (some ⟨bb, bo, none⟩) nb bk] 48)).alloc (.cells #[.int .i64 0, .int .i64 0, .int .i64 0] 45)) = V0 at S0 ⊢
  have a0 : V0.cell? ⟨w.heap.size, 0, none⟩ = some (.slice pa v.n pc) := S0.out.2.1.cell 0
  have a1 : V0.cell? ⟨w.heap.size, 1, none⟩ = some (.slice ja v.m jc) := S0.out.2.1.cell 1
  have b0 : V0.cell? ⟨w.heap.size + 1, 0, none⟩ = some (.int .i64 fp) := S0.out.2.2.1.cell 0
  have b1 : V0.cell? ⟨w.heap.size + 1, 1, none⟩ = some (.int .i64 fa) := S0.out.2.2.1.cell 1
  have b2 : V0.cell? ⟨w.heap.size + 1, 2, none⟩ = some (.int .i64 fw) := S0.out.2.2.1.cell 2
  have b3 : V0.cell? ⟨w.heap.size + 1, 3, none⟩ = some (.int .i64 lg) := S0.out.2.2.1.cell 3
  have b4 : V0.cell? ⟨w.heap.size + 1, 4, none⟩ = some (.slice (some ⟨bb, bo, none⟩) nb bk) := S0.out.2.2.1.cell 4
  have c0 : V0.cell? ⟨w.heap.size + 1 + 1, 0, none⟩ = some (.int .i64 0) := S0.out.2.2.2.cell 0
  have c1 : V0.cell? ⟨w.heap.size + 1 + 1, 1, none⟩ = some (.int .i64 0) := S0.out.2.2.2.cell 1
  have c2 : V0.cell? ⟨w.heap.size + 1 + 1, 2, none⟩ = some (.int .i64 0) := S0.out.2.2.2.cell 2
  go_wp2_with fail
  clear a0 a1 b0 b1 b2 b3 b4 c0 c1 c2
  refine (trainOn40 pa pc ja jc fp fa fw lg nb B (some ⟨bb, bo, none⟩) bk V0 hn hm hnb hpc hpm hjc hjm (H.out.1.mono (Nat.le_refl _) S0.out.1 (Nat.le_refl _)) (H.out.2.1.mono (Nat.le_refl _) S0.out.1 (Nat.le_refl _)) H.out.2.2.1 H.out.2.2.2.1 (H.out.2.2.2.2.mono (Nat.le_refl _) S0.out.1 (Nat.le_refl _))).mono ?_
  rw [HU.out]
  rintro e w1 ⟨kp, y0, y1, y2, y3, ya, yn, yc, rfl, hb1, hon⟩
  have M1 : Hid (Below w.heap.size w w1 ∧ Box w1 (w.heap.size) 32 #[.slice pa v.n pc, .slice ja v.m jc] ∧ Box w1 (w.heap.size + 1) 48 #[.int .i64 fp, .int .i64 fa, .int .i64 fw, .int .i64 lg, .slice (some ⟨bb, bo, none⟩) nb bk] ∧ Box w1 (w.heap.size + 1 + 1) 45 #[.int .i64 0, .int .i64 0, .int .i64 0]) := ⟨S0.out.1.trans (hb1.mono S0.out.1.size), S0.out.2.1.mono hb1 (Nat.le_refl _), S0.out.2.2.1.mono hb1 (Nat.le_refl _), S0.out.2.2.2.mono hb1 (Nat.le_refl _)⟩
  have HON : Hid (u = true → (y0 = fp ∧ y1 = fa ∧ y2 = fw ∧ y3 = lg ∧ ya = some ⟨bb, bo, none⟩ ∧ yn = nb ∧ yc = bk) ∧ ∃ bt sb, kp = some ⟨bt, 0, none⟩ ∧ TkAt w1 bt sb v pa pc ja jc) := hon
  clear hb1 S0 hon
  have M2 : Hid (Below w.heap.size w (w1.alloc (.cells #[.int .i64 y0, .int .i64 y1, .int .i64 y2, .int .i64 y3, .slice ya yn yc] 79)) ∧ Box (w1.alloc (.cells #[.int .i64 y0, .int .i64 y1, .int .i64 y2, .int .i64 y3, .slice ya yn yc] 79)) (w.heap.size) 32 #[.slice pa v.n pc, .slice ja v.m jc] ∧ Box (w1.alloc (.cells #[.int .i64 y0, .int .i64 y1, .int .i64 y2, .int .i64 y3, .slice ya yn yc] 79)) (w.heap.size + 1) 48 #[.int .i64 fp, .int .i64 fa, .int .i64 fw, .int .i64 lg, .slice (some ⟨bb, bo, none⟩) nb bk] ∧ Box (w1.alloc (.cells #[.int .i64 y0, .int .i64 y1, .int .i64 y2, .int .i64 y3, .slice ya yn yc] 79)) (w.heap.size + 1 + 1) 45 #[.int .i64 0, .int .i64 0, .int .i64 0] ∧ Box (w1.alloc (.cells #[.int .i64 y0, .int .i64 y1, .int .i64 y2, .int .i64 y3, .slice ya yn yc] 79)) w1.heap.size 79 #[.int .i64 y0, .int .i64 y1, .int .i64 y2, .int .i64 y3, .slice ya yn yc]) := ⟨M1.out.1.alloc M1.out.1.size _, M1.out.2.1.alloc _, M1.out.2.2.1.alloc _, M1.out.2.2.2.alloc _, Box.new _ _ _⟩
  clear M1
  go_upto_region 2 with fail
  have HW : Hid (Below w1.heap.size w1 (w1.alloc (.cells #[.int .i64 y0, .int .i64 y1, .int .i64 y2, .int .i64 y3, .slice ya yn yc] 79))) := bel1 _ _
  generalize w1.alloc (.cells #[.int .i64 y0, .int .i64 y1, .int .i64 y2, .int .i64 y3, .slice ya yn yc] 79) = V2 at M2 HW ⊢
  generalize w1.heap.size = kb at M2 ⊢
  cases u with
  | false =>
    have HZ : Hid (r0 = 0 ∧ r1 = 0 ∧ r2 = 0) := ⟨HR.out.1.symm.trans (if_neg (by rw [HU.out]; decide)), HR.out.2.1.symm.trans (if_neg (by rw [HU.out]; decide)), HR.out.2.2.symm.trans (if_neg (by rw [HU.out]; decide))⟩
    have M1x : Hid (Below w.heap.size w V2 ∧ Box V2 (w.heap.size) 32 #[.slice pa v.n pc, .slice ja v.m jc] ∧ Box V2 (w.heap.size + 1) 48 #[.int .i64 fp, .int .i64 fa, .int .i64 fw, .int .i64 lg, .slice (some ⟨bb, bo, none⟩) nb bk] ∧ Box V2 (w.heap.size + 1 + 1) 45 #[.int .i64 0, .int .i64 0, .int .i64 0] ∧ Box V2 (kb) 79 #[.int .i64 y0, .int .i64 y1, .int .i64 y2, .int .i64 y3, .slice ya yn yc]) := M2
    clear M2
    have z0 : V2.cell? ⟨w.heap.size + 1 + 1, 0, none⟩ = some (.int .i64 0) := M1x.out.2.2.2.1.cell 0
    have z1 : V2.cell? ⟨w.heap.size + 1 + 1, 1, none⟩ = some (.int .i64 0) := M1x.out.2.2.2.1.cell 1
    have z2 : V2.cell? ⟨w.heap.size + 1 + 1, 2, none⟩ = some (.int .i64 0) := M1x.out.2.2.2.1.cell 2
    have q0 := M1x.out.2.2.2.1.free 0
    have q1 := M1x.out.2.2.2.1.free 1
    have q2 := M1x.out.2.2.2.1.free 2
    have MF : Hid (Below w.heap.size w (((V2.setCell ⟨w.heap.size + 1 + 1, 0, none⟩ (.int .i64 0)).setCell ⟨w.heap.size + 1 + 1, 1, none⟩ (.int .i64 0)).setCell ⟨w.heap.size + 1 + 1, 2, none⟩ (.int .i64 0)) ∧ Box (((V2.setCell ⟨w.heap.size + 1 + 1, 0, none⟩ (.int .i64 0)).setCell ⟨w.heap.size + 1 + 1, 1, none⟩ (.int .i64 0)).setCell ⟨w.heap.size + 1 + 1, 2, none⟩ (.int .i64 0)) (w.heap.size + 1 + 1) 45 #[.int .i64 0, .int .i64 0, .int .i64 0]) := ⟨((M1x.out.1.setCell (Nat.le_add_right _ 2) _).setCell (Nat.le_add_right _ 2) _).setCell (Nat.le_add_right _ 2) _, by
      have h9 := ((M1x.out.2.2.2.1.set 0 (.int .i64 0)).set 1 (.int .i64 0)).set 2 (.int .i64 0)
      exact h9⟩
    clear M1x
    go_wp2_with fail
    clear z0 z1 z2 q0 q1 q2
    generalize (((V2.setCell ⟨w.heap.size + 1 + 1, 0, none⟩ (.int .i64 0)).setCell ⟨w.heap.size + 1 + 1, 1, none⟩ (.int .i64 0)).setCell ⟨w.heap.size + 1 + 1, 2, none⟩ (.int .i64 0)) = W8 at MF ⊢
    have z0 : W8.cell? ⟨w.heap.size + 1 + 1, 0, none⟩ = some (.int .i64 0) := MF.out.2.cell 0
    have z1 : W8.cell? ⟨w.heap.size + 1 + 1, 1, none⟩ = some (.int .i64 0) := MF.out.2.cell 1
    have z2 : W8.cell? ⟨w.heap.size + 1 + 1, 2, none⟩ = some (.int .i64 0) := MF.out.2.cell 2
    exact bodyPost_ret (v := .agg #[.int .i64 0, .int .i64 0, .int .i64 0]) (by simp [results, Try.results20, go_sem, z0, z1, z2]) rfl ⟨by rw [HZ.out.1, HZ.out.2.1, HZ.out.2.2], MF.out.1⟩
  | true =>
    have HK : Hid (v.Ok ∧ Trn v fp fa fw lg nb B) := tr_ok HU.out
    obtain ⟨⟨e0, e1, e2, e3, rfl, e5, e6⟩, bt, sb, rfl, hTK⟩ := HON.out rfl
    have e0 := e0.symm
    have e1 := e1.symm
    have e2 := e2.symm
    have e3 := e3.symm
    have e5 := e5.symm
    have e6 := e6.symm
    subst e0 e1 e2 e3 e5 e6
    have HTK : Hid (TkAt w1 bt sb v pa pc ja jc) := hTK
    clear hTK HON
    have HTV : Hid (TkAt V2 bt sb v pa pc ja jc) := HTK.out.mono HW.out (Nat.le_refl _)
    obtain ⟨sq0, hsq0, _, hsw⟩ := HK.out.2.sp _ (Nat.le_refl _)
    have hsw' : -(ahW fw B nb) = 1 ∨ -(ahW fw B nb) = -1 := by omega
    clear hsw hsq0
    have k0 : V2.cell? ⟨kb, 0, none⟩ = some (.int .i64 fp) := M2.out.2.2.2.2.cell 0
    have k1 : V2.cell? ⟨kb, 1, none⟩ = some (.int .i64 fa) := M2.out.2.2.2.2.cell 1
    have k2 : V2.cell? ⟨kb, 2, none⟩ = some (.int .i64 fw) := M2.out.2.2.2.2.cell 2
    have k3 : V2.cell? ⟨kb, 3, none⟩ = some (.int .i64 lg) := M2.out.2.2.2.2.cell 3
    have k4 : V2.cell? ⟨kb, 4, none⟩ = some (.slice (some ⟨bb, bo, none⟩) nb bk) := M2.out.2.2.2.2.cell 4
    go_wp2_with fail
    clear k0 k1 k2 k3 k4
    refine (turn43 HK.out.1 fp fa fw lg nb B bb bo bk V2 HTV.out HK.out.2 (H.out.2.2.2.2.mono (Nat.le_refl _) M2.out.1 (Nat.le_refl _))).mono ?_
    rintro e w3 ⟨ca, cc, rfl, _, hb3⟩
    have M3 : Hid (Below w.heap.size w w3 ∧ Box w3 (w.heap.size) 32 #[.slice pa v.n pc, .slice ja v.m jc] ∧ Box w3 (w.heap.size + 1) 48 #[.int .i64 fp, .int .i64 fa, .int .i64 fw, .int .i64 lg, .slice (some ⟨bb, bo, none⟩) nb bk] ∧ Box w3 (w.heap.size + 1 + 1) 45 #[.int .i64 0, .int .i64 0, .int .i64 0]) := ⟨M2.out.1.trans (hb3.mono M2.out.1.size), M2.out.2.1.mono hb3 (Nat.le_refl _), M2.out.2.2.1.mono hb3 (Nat.le_refl _), M2.out.2.2.2.1.mono hb3 (Nat.le_refl _)⟩
    clear hb3 M2
    have hfd := fieldSpot (ahP fp B nb) (tlA v fp fa fw lg nb B) (-(ahW fw B nb)) lg (.slice ca (nb - noF v fp fa fw B) cc)
    go_wp2_with fail
    refine (spotTurned44 _ _ _ w3 hsw').mono ?_
    rw [Int.neg_neg]
    rintro e w4 ⟨he, hb4⟩
    have HE : Hid (ahP fp B nb = r0 ∧ tlA v fp fa fw lg nb B = r1 ∧ ahW fw B nb = r2) := ⟨((if_pos HU.out : tlF v fp fa fw lg nb B 0 = ahP fp B nb).symm.trans HR.out.1), ((if_pos HU.out : tlF v fp fa fw lg nb B 1 = tlA v fp fa fw lg nb B).symm.trans HR.out.2.1), ((if_pos HU.out : tlF v fp fa fw lg nb B 2 = ahW fw B nb).symm.trans HR.out.2.2)⟩
    rw [HE.out.1, HE.out.2.1, HE.out.2.2] at he
    subst he
    have M4 : Hid (Below w.heap.size w w4 ∧ Box w4 (w.heap.size) 32 #[.slice pa v.n pc, .slice ja v.m jc] ∧ Box w4 (w.heap.size + 1) 48 #[.int .i64 fp, .int .i64 fa, .int .i64 fw, .int .i64 lg, .slice (some ⟨bb, bo, none⟩) nb bk] ∧ Box w4 (w.heap.size + 1 + 1) 45 #[.int .i64 0, .int .i64 0, .int .i64 0]) := ⟨M3.out.1.trans (hb4.mono M3.out.1.size), M3.out.2.1.mono hb4 (Nat.le_refl _), M3.out.2.2.1.mono hb4 (Nat.le_refl _), M3.out.2.2.2.mono hb4 (Nat.le_refl _)⟩
    clear hb4 M3
    have z0 : w4.cell? ⟨w.heap.size + 1 + 1, 0, none⟩ = some (.int .i64 0) := M4.out.2.2.2.cell 0
    have z1 : w4.cell? ⟨w.heap.size + 1 + 1, 1, none⟩ = some (.int .i64 0) := M4.out.2.2.2.cell 1
    have z2 : w4.cell? ⟨w.heap.size + 1 + 1, 2, none⟩ = some (.int .i64 0) := M4.out.2.2.2.cell 2
    have q0 := M4.out.2.2.2.free 0
    have q1 := M4.out.2.2.2.free 1
    have q2 := M4.out.2.2.2.free 2
    have MF : Hid (Below w.heap.size w (((w4.setCell ⟨w.heap.size + 1 + 1, 0, none⟩ (.int .i64 r0)).setCell ⟨w.heap.size + 1 + 1, 1, none⟩ (.int .i64 r1)).setCell ⟨w.heap.size + 1 + 1, 2, none⟩ (.int .i64 r2)) ∧ Box (((w4.setCell ⟨w.heap.size + 1 + 1, 0, none⟩ (.int .i64 r0)).setCell ⟨w.heap.size + 1 + 1, 1, none⟩ (.int .i64 r1)).setCell ⟨w.heap.size + 1 + 1, 2, none⟩ (.int .i64 r2)) (w.heap.size + 1 + 1) 45 #[.int .i64 r0, .int .i64 r1, .int .i64 r2]) := ⟨((M4.out.1.setCell (Nat.le_add_right _ 2) _).setCell (Nat.le_add_right _ 2) _).setCell (Nat.le_add_right _ 2) _, by
      have h9 := ((M4.out.2.2.2.set 0 (.int .i64 r0)).set 1 (.int .i64 r1)).set 2 (.int .i64 r2)
      exact h9⟩
    clear M4
    go_wp2_with fail
    clear z0 z1 z2 q0 q1 q2
    generalize (((w4.setCell ⟨w.heap.size + 1 + 1, 0, none⟩ (.int .i64 r0)).setCell ⟨w.heap.size + 1 + 1, 1, none⟩ (.int .i64 r1)).setCell ⟨w.heap.size + 1 + 1, 2, none⟩ (.int .i64 r2)) = W8 at MF ⊢
    have z0 : W8.cell? ⟨w.heap.size + 1 + 1, 0, none⟩ = some (.int .i64 r0) := MF.out.2.cell 0
    have z1 : W8.cell? ⟨w.heap.size + 1 + 1, 1, none⟩ = some (.int .i64 r1) := MF.out.2.cell 1
    have z2 : W8.cell? ⟨w.heap.size + 1 + 1, 2, none⟩ = some (.int .i64 r2) := MF.out.2.cell 2
    exact bodyPost_ret (v := .agg #[.int .i64 r0, .int .i64 r1, .int .i64 r2]) (by simp [results, Try.results20, go_sem, z0, z1, z2]) rfl ⟨rfl, MF.out.1⟩

end Go.Proofs.Ytoennemahlakeaa
