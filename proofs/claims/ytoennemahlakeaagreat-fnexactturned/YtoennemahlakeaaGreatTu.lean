import Derived.Test.YtoennemahlakeaaGreatTt
import Derived.Test.YtoennemahlakeaaGreatLb
namespace Go.Proofs.YtoennemahlakeaaGreat
open Go.RowKit Go.Lib

theorem specTrain15 {v : Nv} (pa : Option Addr) (pc : Nat) (ja : Option Addr) (jc : Nat) (fp fa fw lg : Int) (nb : Nat) (B : Nat → Nat → Int) (ba : Option Addr) (bk : Nat) (w : World) (hn : v.n ≤ 1048576) (hm : v.m ≤ 1048576) (hnb : nb ≤ 1048576) (hP : PsAt 0 w pa v.n v.P) (hJ : JsAt 0 w ja v.m v.J) (hps : ∀ i, i < v.n → (v.P i).nm.size ≤ maxLen) (hjs : ∀ i, i < v.m → (v.J i).ne ≤ 1048576 ∧ (v.J i).nm.size ≤ maxLen) (hB : NsAt 2 0 w ba nb B) :
    Calls Tryz.prog 24 #[.agg #[.slice pa v.n pc, .slice ja v.m jc], .agg #[.int .i64 fp, .int .i64 fa, .int .i64 fw, .int .i64 lg, .slice ba nb bk]] w fun e w' => e = .returned (.bool (trainF v fp fa fw lg nb B)) ∧ Below w.heap.size w w' := by
  have H0 : Hid ((∀ i, i < v.n → (v.P i).nm.size ≤ maxLen) ∧ (∀ i, i < v.m → (v.J i).ne ≤ 1048576 ∧ (v.J i).nm.size ≤ maxLen) ∧ PsAt 0 w pa v.n v.P ∧ JsAt 0 w ja v.m v.J ∧ NsAt 2 0 w ba nb B) := ⟨hps, hjs, hP, hJ, hB⟩
  have S0 : Hid (Below w.heap.size w ((w.alloc (.cells #[.slice pa v.n pc, .slice ja v.m jc] 38)).alloc (.cells #[.int .i64 fp, .int .i64 fa, .int .i64 fw, .int .i64 lg, .slice ba nb bk] 43)) ∧ Box ((w.alloc (.cells #[.slice pa v.n pc, .slice ja v.m jc] 38)).alloc (.cells #[.int .i64 fp, .int .i64 fa, .int .i64 fw, .int .i64 lg, .slice ba nb bk] 43)) w.heap.size 38 #[.slice pa v.n pc, .slice ja v.m jc] ∧ Box ((w.alloc (.cells #[.slice pa v.n pc, .slice ja v.m jc] 38)).alloc (.cells #[.int .i64 fp, .int .i64 fa, .int .i64 fw, .int .i64 lg, .slice ba nb bk] 43)) (w.heap.size + 1) 43 #[.int .i64 fp, .int .i64 fa, .int .i64 fw, .int .i64 lg, .slice ba nb bk]) := ⟨bel2 _ _ _, (Box.new _ _ _).alloc _, by have := Box.new (w.alloc (.cells #[.slice pa v.n pc, .slice ja v.m jc] 38)) 43 #[.int .i64 fp, .int .i64 fa, .int .i64 fw, .int .i64 lg, .slice ba nb bk]; simpa using this⟩
  clear hps hjs hP hJ hB
  obtain ⟨R, HR⟩ : ∃ R, Hid (trainF v fp fa fw lg nb B = R) := ⟨_, rfl⟩
  rw [HR.out]
  go_enter Tryz.func24, Tryz.ntmps24
  go_upto_region 1 with fail
  generalize ((w.alloc (.cells #[.slice pa v.n pc, .slice ja v.m jc] 38)).alloc (.cells #[.int .i64 fp, .int .i64 fa, .int .i64 fw, .int .i64 lg, .slice ba nb bk] 43)) = V0 at S0 ⊢
  have n0 : V0.cell? ⟨w.heap.size, 0, none⟩ = some (.slice pa v.n pc) := S0.out.2.1.cell 0
  have n1 : V0.cell? ⟨w.heap.size, 1, none⟩ = some (.slice ja v.m jc) := S0.out.2.1.cell 1
  go_wp2_with fail
  clear n0 n1
  refine (l22ok26 pa v.n pc v.P ja v.m jc v.J V0 hn hm (H0.out.2.2.1.mono (Nat.le_refl _) S0.out.1 (Nat.le_refl _)) (H0.out.2.2.2.1.mono (Nat.le_refl _) S0.out.1 (Nat.le_refl _)) H0.out.1 H0.out.2.1).mono ?_
  rintro e w1 ⟨he, hb1⟩
  have S1 : Hid (Below w.heap.size w w1 ∧ Box w1 w.heap.size 38 #[.slice pa v.n pc, .slice ja v.m jc] ∧ Box w1 (w.heap.size + 1) 43 #[.int .i64 fp, .int .i64 fa, .int .i64 fw, .int .i64 lg, .slice ba nb bk]) := ⟨S0.out.1.trans (hb1.mono S0.out.1.size), S0.out.2.1.mono hb1 (Nat.le_refl _), S0.out.2.2.mono hb1 (Nat.le_refl _)⟩
  clear hb1 S0
  by_cases hz0 : (netF v.n v.P v.m v.J).1 = 0
  · have HK : Hid (v.Ok) := nvOk hz0
    have HTR : Hid (trnB v fp fa fw lg nb B = R) := by show _ = _; rw [← HR.out, trainF, decide_eq_true hz0, Bool.true_and]
    rw [decide_eq_true hz0] at he
    subst he
    clear hz0 HR
    have n0 : w1.cell? ⟨w.heap.size, 0, none⟩ = some (.slice pa v.n pc) := S1.out.2.1.cell 0
    have n1 : w1.cell? ⟨w.heap.size, 1, none⟩ = some (.slice ja v.m jc) := S1.out.2.1.cell 1
    have t0 : w1.cell? ⟨w.heap.size + 1, 0, none⟩ = some (.int .i64 fp) := S1.out.2.2.cell 0
    have t1 : w1.cell? ⟨w.heap.size + 1, 1, none⟩ = some (.int .i64 fa) := S1.out.2.2.cell 1
    have t2 : w1.cell? ⟨w.heap.size + 1, 2, none⟩ = some (.int .i64 fw) := S1.out.2.2.cell 2
    have t3 : w1.cell? ⟨w.heap.size + 1, 3, none⟩ = some (.int .i64 lg) := S1.out.2.2.cell 3
    have t4 : w1.cell? ⟨w.heap.size + 1, 4, none⟩ = some (.slice ba nb bk) := S1.out.2.2.cell 4
    go_wp2_with fail
    clear n0 n1 t0 t1 t2 t3 t4
    refine (train37 HK.out pa pc ja jc fp fa fw lg nb B ba bk w1 hnb (H0.out.2.2.1.mono (Nat.le_refl _) S1.out.1 (Nat.le_refl _)) (H0.out.2.2.2.1.mono (Nat.le_refl _) S1.out.1 (Nat.le_refl _)) (H0.out.2.2.2.2.mono (Nat.le_refl _) S1.out.1 (Nat.le_refl _))).mono ?_
    rw [HTR.out]
    rintro e w2 ⟨rfl, hb2⟩
    have HE : Hid (Below w.heap.size w w2) := S1.out.1.trans (hb2.mono S1.out.1.size)
    go_wp2_with fail
    go_ret
    exact ⟨rfl, HE.out⟩
  · have HT : Hid (R = false) := HR.out.symm.trans (by rw [trainF, decide_eq_false hz0]; rfl)
    rw [decide_eq_false hz0] at he
    subst he
    clear hz0
    go_wp2_with fail
    go_ret
    exact ⟨by rw [HT.out]; rfl, S1.out.1⟩

end Go.Proofs.YtoennemahlakeaaGreat
