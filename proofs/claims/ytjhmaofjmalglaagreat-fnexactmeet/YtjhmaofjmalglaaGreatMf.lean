import Derived.Test.YtjhmaofjmalglaaGreatZd
import Derived.Test.YtjhmaofjmalglaaGreatMd
import Derived.Test.YtjhmaofjmalglaaGreatMe
namespace Go.Proofs.YtjhmaofjmalglaaGreat
open Go.RowKit Go.Lib

/-- that two trains meet -/
def meQ (v : Nv) (fp fa fw lg : Int) (nb : Nat) (B : Nat → Nat → Int) (gp ga gw gl : Int) (mb : Nat) (C : Nat → Nat → Int) : Prop := ∃ i, i < bdN v fp fa fw lg nb B ∧ ∃ j, j < bdN v gp ga gw gl mb C ∧ AgP (prF v (stG v fp fa fw lg nb B) i) (prF v (stG v gp ga gw gl mb C) j)
def MtR (w : World) (Q : Prop) (e : Ending) (w' : World) : Prop := ∃ t : Bool, e = .returned (.bool t) ∧ (t = true ↔ Q) ∧ Below w.heap.size w w'
theorem me_no1 {v : Nv} {fp fa fw lg : Int} {nb : Nat} {B : Nat → Nat → Int} {gp ga gw gl : Int} {mb : Nat} {C : Nat → Nat → Int} (h : trainF v fp fa fw lg nb B = false) : (false = true ↔ meQ v fp fa fw lg nb B gp ga gw gl mb C) := by
  have e4 : bdN v fp fa fw lg nb B = 0 := if_neg (by rw [h]; decide)
  refine ⟨fun h => (by cases h), fun ⟨i, hi, _⟩ => ?_⟩
  rw [e4] at hi
  exact absurd hi (Nat.not_lt_zero _)
theorem me_no2 {v : Nv} {fp fa fw lg : Int} {nb : Nat} {B : Nat → Nat → Int} {gp ga gw gl : Int} {mb : Nat} {C : Nat → Nat → Int} (h : trainF v gp ga gw gl mb C = false) : (false = true ↔ meQ v fp fa fw lg nb B gp ga gw gl mb C) := by
  have e4 : bdN v gp ga gw gl mb C = 0 := if_neg (by rw [h]; decide)
  refine ⟨fun h => (by cases h), fun ⟨i, _, j, hj, _⟩ => ?_⟩
  rw [e4] at hj
  exact absurd hj (Nat.not_lt_zero _)
theorem trn_train {v : Nv} {fp fa fw lg : Int} {nb : Nat} {B : Nat → Nat → Int} {gp ga gw gl : Int} {mb : Nat} {C : Nat → Nat → Int} (h : trainF v fp fa fw lg nb B = true) : trainF v gp ga gw gl mb C = trnB v gp ga gw gl mb C := by
  rw [trainF, Bool.and_eq_true] at h
  rw [trainF, h.1, Bool.true_and]
theorem bd_le {v : Nv} {fp fa fw lg : Int} {nb : Nat} {B : Nat → Nat → Int} : bdN v fp fa fw lg nb B ≤ 201 := by
  unfold bdN
  split
  · rename_i c
    have := (tr_ok c).2.nb1
    omega
  · omega
set_option maxRecDepth 100000 in
set_option maxHeartbeats 16000000 in
theorem specMeet20 {v : Nv} (pa : Option Addr) (pc : Nat) (ja : Option Addr) (jc : Nat) (fp fa fw lg : Int) (nb : Nat) (B : Nat → Nat → Int) (ba : Option Addr) (bk : Nat) (gp ga gw gl : Int) (mb : Nat) (C : Nat → Nat → Int) (ca : Option Addr) (ck : Nat) (w : World) (hn : v.n ≤ 1048576) (hm : v.m ≤ 1048576) (hnb : nb ≤ 1048576) (hmb : mb ≤ 1048576) (hP : PsAt 0 w pa v.n v.P) (hJ : JsAt 0 w ja v.m v.J) (hps : ∀ i, i < v.n → (v.P i).nm.size ≤ maxLen) (hjs : ∀ i, i < v.m → (v.J i).ne ≤ 1048576 ∧ (v.J i).nm.size ≤ maxLen) (hB : NsAt 2 0 w ba nb B) (hC : NsAt 2 0 w ca mb C) :
    Calls Tryz.prog 20 #[.agg #[.slice pa v.n pc, .slice ja v.m jc], .agg #[.int .i64 fp, .int .i64 fa, .int .i64 fw, .int .i64 lg, .slice ba nb bk], .agg #[.int .i64 gp, .int .i64 ga, .int .i64 gw, .int .i64 gl, .slice ca mb ck]] w fun e w' => MtR w (meQ v fp fa fw lg nb B gp ga gw gl mb C) e w' := by
  have H : Hid (PsAt 0 w pa v.n v.P ∧ JsAt 0 w ja v.m v.J ∧ (∀ i, i < v.n → (v.P i).nm.size ≤ maxLen) ∧ (∀ i, i < v.m → (v.J i).ne ≤ 1048576 ∧ (v.J i).nm.size ≤ maxLen) ∧ NsAt 2 0 w ba nb B ∧ NsAt 2 0 w ca mb C) := ⟨hP, hJ, hps, hjs, hB, hC⟩
  have S0 : Hid (Below w.heap.size w (((w.alloc (.cells #[.slice pa v.n pc, .slice ja v.m jc] 40)).alloc (.cells #[.int .i64 fp, .int .i64 fa, .int .i64 fw, .int .i64 lg, .slice ba nb bk] 33)).alloc (.cells #[.int .i64 gp, .int .i64 ga, .int .i64 gw, .int .i64 gl, .slice ca mb ck] 33)) ∧ Box (((w.alloc (.cells #[.slice pa v.n pc, .slice ja v.m jc] 40)).alloc (.cells #[.int .i64 fp, .int .i64 fa, .int .i64 fw, .int .i64 lg, .slice ba nb bk] 33)).alloc (.cells #[.int .i64 gp, .int .i64 ga, .int .i64 gw, .int .i64 gl, .slice ca mb ck] 33)) (w.heap.size) 40 #[.slice pa v.n pc, .slice ja v.m jc] ∧ Box (((w.alloc (.cells #[.slice pa v.n pc, .slice ja v.m jc] 40)).alloc (.cells #[.int .i64 fp, .int .i64 fa, .int .i64 fw, .int .i64 lg, .slice ba nb bk] 33)).alloc (.cells #[.int .i64 gp, .int .i64 ga, .int .i64 gw, .int .i64 gl, .slice ca mb ck] 33)) (w.heap.size + 1) 33 #[.int .i64 fp, .int .i64 fa, .int .i64 fw, .int .i64 lg, .slice ba nb bk] ∧ Box (((w.alloc (.cells #[.slice pa v.n pc, .slice ja v.m jc] 40)).alloc (.cells #[.int .i64 fp, .int .i64 fa, .int .i64 fw, .int .i64 lg, .slice ba nb bk] 33)).alloc (.cells #[.int .i64 gp, .int .i64 ga, .int .i64 gw, .int .i64 gl, .slice ca mb ck] 33)) (w.heap.size + 1 + 1) 33 #[.int .i64 gp, .int .i64 ga, .int .i64 gw, .int .i64 gl, .slice ca mb ck]) := ⟨((Below.refl _ _).alloc (Nat.le_refl _) _ |>.alloc (by simp) _ |>.alloc (by simp; omega) _), (((Box.new w 40 #[.slice pa v.n pc, .slice ja v.m jc]).alloc (.cells #[.int .i64 fp, .int .i64 fa, .int .i64 fw, .int .i64 lg, .slice ba nb bk] 33)).alloc (.cells #[.int .i64 gp, .int .i64 ga, .int .i64 gw, .int .i64 gl, .slice ca mb ck] 33)), by have := ((Box.new (w.alloc (.cells #[.slice pa v.n pc, .slice ja v.m jc] 40)) 33 #[.int .i64 fp, .int .i64 fa, .int .i64 fw, .int .i64 lg, .slice ba nb bk]).alloc (.cells #[.int .i64 gp, .int .i64 ga, .int .i64 gw, .int .i64 gl, .slice ca mb ck] 33)); simpa using this, by have := (Box.new ((w.alloc (.cells #[.slice pa v.n pc, .slice ja v.m jc] 40)).alloc (.cells #[.int .i64 fp, .int .i64 fa, .int .i64 fw, .int .i64 lg, .slice ba nb bk] 33)) 33 #[.int .i64 gp, .int .i64 ga, .int .i64 gw, .int .i64 gl, .slice ca mb ck]); simpa using this⟩
  clear hP hJ hps hjs hB hC
  obtain ⟨u1, HU1⟩ : ∃ u, Hid (trainF v fp fa fw lg nb B = u) := ⟨_, rfl⟩
  obtain ⟨u2, HU2⟩ : ∃ u, Hid (trnB v gp ga gw gl mb C = u) := ⟨_, rfl⟩
  cases u1 with
  | false =>
    go_enter Tryz.func20, Tryz.ntmps20
    go_upto_region 1 with fail
    generalize (((w.alloc (.cells #[.slice pa v.n pc, .slice ja v.m jc] 40)).alloc (.cells #[.int .i64 fp, .int .i64 fa, .int .i64 fw, .int .i64 lg, .slice ba nb bk] 33)).alloc (.cells #[.int .i64 gp, .int .i64 ga, .int .i64 gw, .int .i64 gl, .slice ca mb ck] 33)) = V0 at S0 ⊢
    have a0 : V0.cell? ⟨w.heap.size, 0, none⟩ = some (.slice pa v.n pc) := S0.out.2.1.cell 0
    have a1 : V0.cell? ⟨w.heap.size, 1, none⟩ = some (.slice ja v.m jc) := S0.out.2.1.cell 1
    have b0 : V0.cell? ⟨w.heap.size + 1, 0, none⟩ = some (.int .i64 fp) := S0.out.2.2.1.cell 0
    have b1 : V0.cell? ⟨w.heap.size + 1, 1, none⟩ = some (.int .i64 fa) := S0.out.2.2.1.cell 1
    have b2 : V0.cell? ⟨w.heap.size + 1, 2, none⟩ = some (.int .i64 fw) := S0.out.2.2.1.cell 2
    have b3 : V0.cell? ⟨w.heap.size + 1, 3, none⟩ = some (.int .i64 lg) := S0.out.2.2.1.cell 3
    have b4 : V0.cell? ⟨w.heap.size + 1, 4, none⟩ = some (.slice ba nb bk) := S0.out.2.2.1.cell 4
    have c0 : V0.cell? ⟨w.heap.size + 1 + 1, 0, none⟩ = some (.int .i64 gp) := S0.out.2.2.2.cell 0
    have c1 : V0.cell? ⟨w.heap.size + 1 + 1, 1, none⟩ = some (.int .i64 ga) := S0.out.2.2.2.cell 1
    have c2 : V0.cell? ⟨w.heap.size + 1 + 1, 2, none⟩ = some (.int .i64 gw) := S0.out.2.2.2.cell 2
    have c3 : V0.cell? ⟨w.heap.size + 1 + 1, 3, none⟩ = some (.int .i64 gl) := S0.out.2.2.2.cell 3
    have c4 : V0.cell? ⟨w.heap.size + 1 + 1, 4, none⟩ = some (.slice ca mb ck) := S0.out.2.2.2.cell 4
    go_wp2_with fail
    refine wp_region_held_drew (S := (fun wx : World => wx.cell? ⟨w.heap.size, 0, none⟩ = some (.slice pa v.n pc) ∧ wx.cell? ⟨w.heap.size, 1, none⟩ = some (.slice ja v.m jc) ∧ wx.cell? ⟨w.heap.size + 1, 0, none⟩ = some (.int .i64 fp) ∧ wx.cell? ⟨w.heap.size + 1, 1, none⟩ = some (.int .i64 fa) ∧ wx.cell? ⟨w.heap.size + 1, 2, none⟩ = some (.int .i64 fw) ∧ wx.cell? ⟨w.heap.size + 1, 3, none⟩ = some (.int .i64 lg) ∧ wx.cell? ⟨w.heap.size + 1, 4, none⟩ = some (.slice ba nb bk) ∧ wx.cell? ⟨w.heap.size + 1 + 1, 0, none⟩ = some (.int .i64 gp) ∧ wx.cell? ⟨w.heap.size + 1 + 1, 1, none⟩ = some (.int .i64 ga) ∧ wx.cell? ⟨w.heap.size + 1 + 1, 2, none⟩ = some (.int .i64 gw) ∧ wx.cell? ⟨w.heap.size + 1 + 1, 3, none⟩ = some (.int .i64 gl) ∧ wx.cell? ⟨w.heap.size + 1 + 1, 4, none⟩ = some (.slice ca mb ck))) (by kernel_rfl) ?_ (fun hHeld => ?_)
    · exact ⟨a0, a1, b0, b1, b2, b3, b4, c0, c1, c2, c3, c4⟩
    have MD16 : Hid (Below w.heap.size w V0.drew ∧ Box V0.drew (w.heap.size) 40 #[.slice pa v.n pc, .slice ja v.m jc] ∧ Box V0.drew (w.heap.size + 1) 33 #[.int .i64 fp, .int .i64 fa, .int .i64 fw, .int .i64 lg, .slice ba nb bk] ∧ Box V0.drew (w.heap.size + 1 + 1) 33 #[.int .i64 gp, .int .i64 ga, .int .i64 gw, .int .i64 gl, .slice ca mb ck]) := ⟨S0.out.1.drew, S0.out.2.1.drew, S0.out.2.2.1.drew, S0.out.2.2.2.drew⟩
    clear a0 a1 b0 b1 b2 b3 b4 c0 c1 c2 c3 c4 S0
    generalize V0.drew = VD at MD16 hHeld ⊢
    refine tk 0 ?_
    refine tk 1 ?_
    refine rl 2 fun K hK => ?_
    go_simp
    refine (specTrain15 pa pc ja jc fp fa fw lg nb B ba bk _ hn hm hnb (H.out.1.mono (Nat.le_refl _) MD16.out.1 (Nat.le_refl _)) (H.out.2.1.mono (Nat.le_refl _) MD16.out.1 (Nat.le_refl _)) H.out.2.2.1 H.out.2.2.2.1 (H.out.2.2.2.2.1.mono (Nat.le_refl _) MD16.out.1 (Nat.le_refl _))).mono ?_
    rintro e wh17 ⟨he, hb⟩
    rw [HU1.out] at he
    subst he
    have MA18 : Hid (Below w.heap.size w wh17 ∧ Box wh17 (w.heap.size) 40 #[.slice pa v.n pc, .slice ja v.m jc] ∧ Box wh17 (w.heap.size + 1) 33 #[.int .i64 fp, .int .i64 fa, .int .i64 fw, .int .i64 lg, .slice ba nb bk] ∧ Box wh17 (w.heap.size + 1 + 1) 33 #[.int .i64 gp, .int .i64 ga, .int .i64 gw, .int .i64 gl, .slice ca mb ck]) := ⟨MD16.out.1.trans (hb.mono MD16.out.1.size), MD16.out.2.1.mono hb (Nat.le_refl _), MD16.out.2.2.1.mono hb (Nat.le_refl _), MD16.out.2.2.2.mono hb (Nat.le_refl _)⟩
    clear hb MD16
    go_wp2_with fail
    refine hK.out _ _ ?_ (fun hHeld => ?_)
    · exact ⟨MA18.out.2.1.cell 0, MA18.out.2.1.cell 1, MA18.out.2.2.1.cell 0, MA18.out.2.2.1.cell 1, MA18.out.2.2.1.cell 2, MA18.out.2.2.1.cell 3, MA18.out.2.2.1.cell 4, MA18.out.2.2.2.cell 0, MA18.out.2.2.2.cell 1, MA18.out.2.2.2.cell 2, MA18.out.2.2.2.cell 3, MA18.out.2.2.2.cell 4⟩
    clear hK K
    refine tk 3 ?_
    refine tf 4 ?_
    refine tf 5 ?_
    refine tf 6 ?_
    refine tk 7 ?_
    refine tk 8 ?_
    refine tf 9 ?_
    refine tf 10 ?_
    refine tf 11 ?_
    refine tf 12 ?_
    refine tf 13 ?_
    refine tf 14 ?_
    refine tf 15 ?_
    refine tk 16 ?_
    refine tk 17 ?_
    refine wpAnyH_done (by kernel_rfl) ?_ _
    clear hHeld
    go_wp2_with fail
    go_ret
    exact ⟨false, rfl, me_no1 HU1.out, MA18.out.1⟩
  | true =>
    have HK : Hid (v.Ok ∧ Trn v fp fa fw lg nb B) := tr_ok HU1.out
    have HTB : Hid (trainF v gp ga gw gl mb C = u2) := (trn_train HU1.out).trans HU2.out
    cases u2 with
    | false =>
      go_enter Tryz.func20, Tryz.ntmps20
      go_upto_region 1 with fail
      generalize (((w.alloc (.cells #[.slice pa v.n pc, .slice ja v.m jc] 40)).alloc (.cells #[.int .i64 fp, .int .i64 fa, .int .i64 fw, .int .i64 lg, .slice ba nb bk] 33)).alloc (.cells #[.int .i64 gp, .int .i64 ga, .int .i64 gw, .int .i64 gl, .slice ca mb ck] 33)) = V0 at S0 ⊢
      have a0 : V0.cell? ⟨w.heap.size, 0, none⟩ = some (.slice pa v.n pc) := S0.out.2.1.cell 0
      have a1 : V0.cell? ⟨w.heap.size, 1, none⟩ = some (.slice ja v.m jc) := S0.out.2.1.cell 1
      have b0 : V0.cell? ⟨w.heap.size + 1, 0, none⟩ = some (.int .i64 fp) := S0.out.2.2.1.cell 0
      have b1 : V0.cell? ⟨w.heap.size + 1, 1, none⟩ = some (.int .i64 fa) := S0.out.2.2.1.cell 1
      have b2 : V0.cell? ⟨w.heap.size + 1, 2, none⟩ = some (.int .i64 fw) := S0.out.2.2.1.cell 2
      have b3 : V0.cell? ⟨w.heap.size + 1, 3, none⟩ = some (.int .i64 lg) := S0.out.2.2.1.cell 3
      have b4 : V0.cell? ⟨w.heap.size + 1, 4, none⟩ = some (.slice ba nb bk) := S0.out.2.2.1.cell 4
      have c0 : V0.cell? ⟨w.heap.size + 1 + 1, 0, none⟩ = some (.int .i64 gp) := S0.out.2.2.2.cell 0
      have c1 : V0.cell? ⟨w.heap.size + 1 + 1, 1, none⟩ = some (.int .i64 ga) := S0.out.2.2.2.cell 1
      have c2 : V0.cell? ⟨w.heap.size + 1 + 1, 2, none⟩ = some (.int .i64 gw) := S0.out.2.2.2.cell 2
      have c3 : V0.cell? ⟨w.heap.size + 1 + 1, 3, none⟩ = some (.int .i64 gl) := S0.out.2.2.2.cell 3
      have c4 : V0.cell? ⟨w.heap.size + 1 + 1, 4, none⟩ = some (.slice ca mb ck) := S0.out.2.2.2.cell 4
      go_wp2_with fail
      refine wp_region_held_drew (S := (fun wx : World => wx.cell? ⟨w.heap.size, 0, none⟩ = some (.slice pa v.n pc) ∧ wx.cell? ⟨w.heap.size, 1, none⟩ = some (.slice ja v.m jc) ∧ wx.cell? ⟨w.heap.size + 1, 0, none⟩ = some (.int .i64 fp) ∧ wx.cell? ⟨w.heap.size + 1, 1, none⟩ = some (.int .i64 fa) ∧ wx.cell? ⟨w.heap.size + 1, 2, none⟩ = some (.int .i64 fw) ∧ wx.cell? ⟨w.heap.size + 1, 3, none⟩ = some (.int .i64 lg) ∧ wx.cell? ⟨w.heap.size + 1, 4, none⟩ = some (.slice ba nb bk) ∧ wx.cell? ⟨w.heap.size + 1 + 1, 0, none⟩ = some (.int .i64 gp) ∧ wx.cell? ⟨w.heap.size + 1 + 1, 1, none⟩ = some (.int .i64 ga) ∧ wx.cell? ⟨w.heap.size + 1 + 1, 2, none⟩ = some (.int .i64 gw) ∧ wx.cell? ⟨w.heap.size + 1 + 1, 3, none⟩ = some (.int .i64 gl) ∧ wx.cell? ⟨w.heap.size + 1 + 1, 4, none⟩ = some (.slice ca mb ck))) (by kernel_rfl) ?_ (fun hHeld => ?_)
      · exact ⟨a0, a1, b0, b1, b2, b3, b4, c0, c1, c2, c3, c4⟩
      have MD19 : Hid (Below w.heap.size w V0.drew ∧ Box V0.drew (w.heap.size) 40 #[.slice pa v.n pc, .slice ja v.m jc] ∧ Box V0.drew (w.heap.size + 1) 33 #[.int .i64 fp, .int .i64 fa, .int .i64 fw, .int .i64 lg, .slice ba nb bk] ∧ Box V0.drew (w.heap.size + 1 + 1) 33 #[.int .i64 gp, .int .i64 ga, .int .i64 gw, .int .i64 gl, .slice ca mb ck]) := ⟨S0.out.1.drew, S0.out.2.1.drew, S0.out.2.2.1.drew, S0.out.2.2.2.drew⟩
      clear a0 a1 b0 b1 b2 b3 b4 c0 c1 c2 c3 c4 S0
      generalize V0.drew = VD at MD19 hHeld ⊢
      refine tk 0 ?_
      refine tk 1 ?_
      refine rl 2 fun K hK => ?_
      go_simp
      refine (specTrain15 pa pc ja jc fp fa fw lg nb B ba bk _ hn hm hnb (H.out.1.mono (Nat.le_refl _) MD19.out.1 (Nat.le_refl _)) (H.out.2.1.mono (Nat.le_refl _) MD19.out.1 (Nat.le_refl _)) H.out.2.2.1 H.out.2.2.2.1 (H.out.2.2.2.2.1.mono (Nat.le_refl _) MD19.out.1 (Nat.le_refl _))).mono ?_
      rintro e wh20 ⟨he, hb⟩
      rw [HU1.out] at he
      subst he
      have MA21 : Hid (Below w.heap.size w wh20 ∧ Box wh20 (w.heap.size) 40 #[.slice pa v.n pc, .slice ja v.m jc] ∧ Box wh20 (w.heap.size + 1) 33 #[.int .i64 fp, .int .i64 fa, .int .i64 fw, .int .i64 lg, .slice ba nb bk] ∧ Box wh20 (w.heap.size + 1 + 1) 33 #[.int .i64 gp, .int .i64 ga, .int .i64 gw, .int .i64 gl, .slice ca mb ck]) := ⟨MD19.out.1.trans (hb.mono MD19.out.1.size), MD19.out.2.1.mono hb (Nat.le_refl _), MD19.out.2.2.1.mono hb (Nat.le_refl _), MD19.out.2.2.2.mono hb (Nat.le_refl _)⟩
      clear hb MD19
      go_wp2_with fail
      refine hK.out _ _ ?_ (fun hHeld => ?_)
      · exact ⟨MA21.out.2.1.cell 0, MA21.out.2.1.cell 1, MA21.out.2.2.1.cell 0, MA21.out.2.2.1.cell 1, MA21.out.2.2.1.cell 2, MA21.out.2.2.1.cell 3, MA21.out.2.2.1.cell 4, MA21.out.2.2.2.cell 0, MA21.out.2.2.2.cell 1, MA21.out.2.2.2.cell 2, MA21.out.2.2.2.cell 3, MA21.out.2.2.2.cell 4⟩
      clear hK K
      refine tk 3 ?_
      refine tk 4 ?_
      refine tk 5 ?_
      refine rl 6 fun K hK => ?_
      go_simp
      refine (train37 HK.out.1 pa pc ja jc gp ga gw gl mb C ca ck _ hmb (H.out.1.mono (Nat.le_refl _) MA21.out.1 (Nat.le_refl _)) (H.out.2.1.mono (Nat.le_refl _) MA21.out.1 (Nat.le_refl _)) (H.out.2.2.2.2.2.mono (Nat.le_refl _) MA21.out.1 (Nat.le_refl _))).mono ?_
      rintro e wh22 ⟨he, hb⟩
      rw [HU2.out] at he
      subst he
      have MA23 : Hid (Below w.heap.size w wh22 ∧ Box wh22 (w.heap.size) 40 #[.slice pa v.n pc, .slice ja v.m jc] ∧ Box wh22 (w.heap.size + 1) 33 #[.int .i64 fp, .int .i64 fa, .int .i64 fw, .int .i64 lg, .slice ba nb bk] ∧ Box wh22 (w.heap.size + 1 + 1) 33 #[.int .i64 gp, .int .i64 ga, .int .i64 gw, .int .i64 gl, .slice ca mb ck]) := ⟨MA21.out.1.trans (hb.mono MA21.out.1.size), MA21.out.2.1.mono hb (Nat.le_refl _), MA21.out.2.2.1.mono hb (Nat.le_refl _), MA21.out.2.2.2.mono hb (Nat.le_refl _)⟩
      clear hb MA21
      go_wp2_with fail
      refine hK.out _ _ ?_ (fun hHeld => ?_)
      · exact ⟨MA23.out.2.1.cell 0, MA23.out.2.1.cell 1, MA23.out.2.2.1.cell 0, MA23.out.2.2.1.cell 1, MA23.out.2.2.1.cell 2, MA23.out.2.2.1.cell 3, MA23.out.2.2.1.cell 4, MA23.out.2.2.2.cell 0, MA23.out.2.2.2.cell 1, MA23.out.2.2.2.cell 2, MA23.out.2.2.2.cell 3, MA23.out.2.2.2.cell 4⟩
      clear hK K
      refine tk 7 ?_
      refine tk 8 ?_
      refine tf 9 ?_
      refine tf 10 ?_
      refine tf 11 ?_
      refine tf 12 ?_
      refine tf 13 ?_
      refine tf 14 ?_
      refine tf 15 ?_
      refine tk 16 ?_
      refine tk 17 ?_
      refine wpAnyH_done (by kernel_rfl) ?_ _
      clear hHeld
      go_wp2_with fail
      go_ret
      exact ⟨false, rfl, me_no2 HTB.out, MA23.out.1⟩
    | true =>
      have HK2 : Hid (Trn v gp ga gw gl mb C) := trn_of HU2.out
      obtain ⟨NA, HNA⟩ : ∃ N, Hid (nb + 1 - noF v fp fa fw B = N) := ⟨_, rfl⟩
      obtain ⟨NB, HNB⟩ : ∃ N, Hid (mb + 1 - noF v gp ga gw C = N) := ⟨_, rfl⟩
      have HNA0 : Hid (bdN v fp fa fw lg nb B = NA) := (if_pos HU1.out).trans HNA.out
      have HNB0 : Hid (bdN v gp ga gw gl mb C = NB) := (if_pos HTB.out).trans HNB.out
      have hNA : NA ≤ 300 := by have := HK.out.2.nb1; have := HNA.out; omega
      have hNB : NB ≤ 300 := by have := HK2.out.nb1; have := HNB.out; omega
      go_enter Tryz.func20, Tryz.ntmps20
      go_upto_region 1 with fail
      generalize (((w.alloc (.cells #[.slice pa v.n pc, .slice ja v.m jc] 40)).alloc (.cells #[.int .i64 fp, .int .i64 fa, .int .i64 fw, .int .i64 lg, .slice ba nb bk] 33)).alloc (.cells #[.int .i64 gp, .int .i64 ga, .int .i64 gw, .int .i64 gl, .slice ca mb ck] 33)) = V0 at S0 ⊢
      have a0 : V0.cell? ⟨w.heap.size, 0, none⟩ = some (.slice pa v.n pc) := S0.out.2.1.cell 0
      have a1 : V0.cell? ⟨w.heap.size, 1, none⟩ = some (.slice ja v.m jc) := S0.out.2.1.cell 1
      have b0 : V0.cell? ⟨w.heap.size + 1, 0, none⟩ = some (.int .i64 fp) := S0.out.2.2.1.cell 0
      have b1 : V0.cell? ⟨w.heap.size + 1, 1, none⟩ = some (.int .i64 fa) := S0.out.2.2.1.cell 1
      have b2 : V0.cell? ⟨w.heap.size + 1, 2, none⟩ = some (.int .i64 fw) := S0.out.2.2.1.cell 2
      have b3 : V0.cell? ⟨w.heap.size + 1, 3, none⟩ = some (.int .i64 lg) := S0.out.2.2.1.cell 3
      have b4 : V0.cell? ⟨w.heap.size + 1, 4, none⟩ = some (.slice ba nb bk) := S0.out.2.2.1.cell 4
      have c0 : V0.cell? ⟨w.heap.size + 1 + 1, 0, none⟩ = some (.int .i64 gp) := S0.out.2.2.2.cell 0
      have c1 : V0.cell? ⟨w.heap.size + 1 + 1, 1, none⟩ = some (.int .i64 ga) := S0.out.2.2.2.cell 1
      have c2 : V0.cell? ⟨w.heap.size + 1 + 1, 2, none⟩ = some (.int .i64 gw) := S0.out.2.2.2.cell 2
      have c3 : V0.cell? ⟨w.heap.size + 1 + 1, 3, none⟩ = some (.int .i64 gl) := S0.out.2.2.2.cell 3
      have c4 : V0.cell? ⟨w.heap.size + 1 + 1, 4, none⟩ = some (.slice ca mb ck) := S0.out.2.2.2.cell 4
      go_wp2_with fail
      refine wp_region_held_drew (S := (fun wx : World => wx.cell? ⟨w.heap.size, 0, none⟩ = some (.slice pa v.n pc) ∧ wx.cell? ⟨w.heap.size, 1, none⟩ = some (.slice ja v.m jc) ∧ wx.cell? ⟨w.heap.size + 1, 0, none⟩ = some (.int .i64 fp) ∧ wx.cell? ⟨w.heap.size + 1, 1, none⟩ = some (.int .i64 fa) ∧ wx.cell? ⟨w.heap.size + 1, 2, none⟩ = some (.int .i64 fw) ∧ wx.cell? ⟨w.heap.size + 1, 3, none⟩ = some (.int .i64 lg) ∧ wx.cell? ⟨w.heap.size + 1, 4, none⟩ = some (.slice ba nb bk) ∧ wx.cell? ⟨w.heap.size + 1 + 1, 0, none⟩ = some (.int .i64 gp) ∧ wx.cell? ⟨w.heap.size + 1 + 1, 1, none⟩ = some (.int .i64 ga) ∧ wx.cell? ⟨w.heap.size + 1 + 1, 2, none⟩ = some (.int .i64 gw) ∧ wx.cell? ⟨w.heap.size + 1 + 1, 3, none⟩ = some (.int .i64 gl) ∧ wx.cell? ⟨w.heap.size + 1 + 1, 4, none⟩ = some (.slice ca mb ck))) (by kernel_rfl) ?_ (fun hHeld => ?_)
      · exact ⟨a0, a1, b0, b1, b2, b3, b4, c0, c1, c2, c3, c4⟩
      have MD24 : Hid (Below w.heap.size w V0.drew ∧ Box V0.drew (w.heap.size) 40 #[.slice pa v.n pc, .slice ja v.m jc] ∧ Box V0.drew (w.heap.size + 1) 33 #[.int .i64 fp, .int .i64 fa, .int .i64 fw, .int .i64 lg, .slice ba nb bk] ∧ Box V0.drew (w.heap.size + 1 + 1) 33 #[.int .i64 gp, .int .i64 ga, .int .i64 gw, .int .i64 gl, .slice ca mb ck]) := ⟨S0.out.1.drew, S0.out.2.1.drew, S0.out.2.2.1.drew, S0.out.2.2.2.drew⟩
      clear a0 a1 b0 b1 b2 b3 b4 c0 c1 c2 c3 c4 S0
      generalize V0.drew = VD at MD24 hHeld ⊢
      refine tk 0 ?_
      refine tk 1 ?_
      refine rl 2 fun K hK => ?_
      go_simp
      refine (specTrain15 pa pc ja jc fp fa fw lg nb B ba bk _ hn hm hnb (H.out.1.mono (Nat.le_refl _) MD24.out.1 (Nat.le_refl _)) (H.out.2.1.mono (Nat.le_refl _) MD24.out.1 (Nat.le_refl _)) H.out.2.2.1 H.out.2.2.2.1 (H.out.2.2.2.2.1.mono (Nat.le_refl _) MD24.out.1 (Nat.le_refl _))).mono ?_
      rintro e wh25 ⟨he, hb⟩
      rw [HU1.out] at he
      subst he
      have MA26 : Hid (Below w.heap.size w wh25 ∧ Box wh25 (w.heap.size) 40 #[.slice pa v.n pc, .slice ja v.m jc] ∧ Box wh25 (w.heap.size + 1) 33 #[.int .i64 fp, .int .i64 fa, .int .i64 fw, .int .i64 lg, .slice ba nb bk] ∧ Box wh25 (w.heap.size + 1 + 1) 33 #[.int .i64 gp, .int .i64 ga, .int .i64 gw, .int .i64 gl, .slice ca mb ck]) := ⟨MD24.out.1.trans (hb.mono MD24.out.1.size), MD24.out.2.1.mono hb (Nat.le_refl _), MD24.out.2.2.1.mono hb (Nat.le_refl _), MD24.out.2.2.2.mono hb (Nat.le_refl _)⟩
      clear hb MD24
      go_wp2_with fail
      refine hK.out _ _ ?_ (fun hHeld => ?_)
      · exact ⟨MA26.out.2.1.cell 0, MA26.out.2.1.cell 1, MA26.out.2.2.1.cell 0, MA26.out.2.2.1.cell 1, MA26.out.2.2.1.cell 2, MA26.out.2.2.1.cell 3, MA26.out.2.2.1.cell 4, MA26.out.2.2.2.cell 0, MA26.out.2.2.2.cell 1, MA26.out.2.2.2.cell 2, MA26.out.2.2.2.cell 3, MA26.out.2.2.2.cell 4⟩
      clear hK K
      refine tk 3 ?_
      refine tk 4 ?_
      refine tk 5 ?_
      refine rl 6 fun K hK => ?_
      go_simp
      refine (train37 HK.out.1 pa pc ja jc gp ga gw gl mb C ca ck _ hmb (H.out.1.mono (Nat.le_refl _) MA26.out.1 (Nat.le_refl _)) (H.out.2.1.mono (Nat.le_refl _) MA26.out.1 (Nat.le_refl _)) (H.out.2.2.2.2.2.mono (Nat.le_refl _) MA26.out.1 (Nat.le_refl _))).mono ?_
      rintro e wh27 ⟨he, hb⟩
      rw [HU2.out] at he
      subst he
      have MA28 : Hid (Below w.heap.size w wh27 ∧ Box wh27 (w.heap.size) 40 #[.slice pa v.n pc, .slice ja v.m jc] ∧ Box wh27 (w.heap.size + 1) 33 #[.int .i64 fp, .int .i64 fa, .int .i64 fw, .int .i64 lg, .slice ba nb bk] ∧ Box wh27 (w.heap.size + 1 + 1) 33 #[.int .i64 gp, .int .i64 ga, .int .i64 gw, .int .i64 gl, .slice ca mb ck]) := ⟨MA26.out.1.trans (hb.mono MA26.out.1.size), MA26.out.2.1.mono hb (Nat.le_refl _), MA26.out.2.2.1.mono hb (Nat.le_refl _), MA26.out.2.2.2.mono hb (Nat.le_refl _)⟩
      clear hb MA26
      go_wp2_with fail
      refine hK.out _ _ ?_ (fun hHeld => ?_)
      · exact ⟨MA28.out.2.1.cell 0, MA28.out.2.1.cell 1, MA28.out.2.2.1.cell 0, MA28.out.2.2.1.cell 1, MA28.out.2.2.1.cell 2, MA28.out.2.2.1.cell 3, MA28.out.2.2.1.cell 4, MA28.out.2.2.2.cell 0, MA28.out.2.2.2.cell 1, MA28.out.2.2.2.cell 2, MA28.out.2.2.2.cell 3, MA28.out.2.2.2.cell 4⟩
      clear hK K
      refine tk 7 ?_
      refine tk 8 ?_
      refine tk 9 ?_
      refine tk 10 ?_
      refine tk 12 ?_
      refine tk 13 ?_
      refine rl 11 fun K hK => ?_
      go_simp
      refine (body25 HK.out.1 pa pc ja jc fp fa fw lg nb B ba bk _ (H.out.1.mono (Nat.le_refl _) MA28.out.1 (Nat.le_refl _)) HK.out.2 (H.out.2.2.2.2.1.mono (Nat.le_refl _) MA28.out.1 (Nat.le_refl _))).mono ?_
      rintro e wh29 ⟨a1, c1, he, ho, hb⟩
      rw [HNA.out] at he ho
      subst he
      have MA30 : Hid (Below w.heap.size w wh29 ∧ Box wh29 (w.heap.size) 40 #[.slice pa v.n pc, .slice ja v.m jc] ∧ Box wh29 (w.heap.size + 1) 33 #[.int .i64 fp, .int .i64 fa, .int .i64 fw, .int .i64 lg, .slice ba nb bk] ∧ Box wh29 (w.heap.size + 1 + 1) 33 #[.int .i64 gp, .int .i64 ga, .int .i64 gw, .int .i64 gl, .slice ca mb ck] ∧ VOwn w.heap.size 112 3 wh29 (.slice a1 NA c1) NA (intF (prF v (stG v fp fa fw lg nb B)))) := ⟨MA28.out.1.trans (hb.mono MA28.out.1.size), MA28.out.2.1.mono hb (Nat.le_refl _), MA28.out.2.2.1.mono hb (Nat.le_refl _), MA28.out.2.2.2.mono hb (Nat.le_refl _), ho.keep MA28.out.1.size (fun _ _ => rfl)⟩
      clear hb ho MA28
      go_wp2_with fail
      refine hK.out _ _ ?_ (fun hHeld => ?_)
      · exact ⟨MA30.out.2.1.cell 0, MA30.out.2.1.cell 1, MA30.out.2.2.1.cell 0, MA30.out.2.2.1.cell 1, MA30.out.2.2.1.cell 2, MA30.out.2.2.1.cell 3, MA30.out.2.2.1.cell 4, MA30.out.2.2.2.1.cell 0, MA30.out.2.2.2.1.cell 1, MA30.out.2.2.2.1.cell 2, MA30.out.2.2.2.1.cell 3, MA30.out.2.2.2.1.cell 4⟩
      clear hK K
      refine rl 14 fun K hK => ?_
      go_simp
      refine (body25 HK.out.1 pa pc ja jc gp ga gw gl mb C ca ck _ (H.out.1.mono (Nat.le_refl _) MA30.out.1 (Nat.le_refl _)) HK2.out (H.out.2.2.2.2.2.mono (Nat.le_refl _) MA30.out.1 (Nat.le_refl _))).mono ?_
      rintro e wh31 ⟨a2, c2, he, ho, hb⟩
      rw [HNB.out] at he ho
      subst he
      have MA32 : Hid (Below w.heap.size w wh31 ∧ Box wh31 (w.heap.size) 40 #[.slice pa v.n pc, .slice ja v.m jc] ∧ Box wh31 (w.heap.size + 1) 33 #[.int .i64 fp, .int .i64 fa, .int .i64 fw, .int .i64 lg, .slice ba nb bk] ∧ Box wh31 (w.heap.size + 1 + 1) 33 #[.int .i64 gp, .int .i64 ga, .int .i64 gw, .int .i64 gl, .slice ca mb ck] ∧ VOwn w.heap.size 112 3 wh31 (.slice a1 NA c1) NA (intF (prF v (stG v fp fa fw lg nb B))) ∧ VOwn w.heap.size 112 3 wh31 (.slice a2 NB c2) NB (intF (prF v (stG v gp ga gw gl mb C)))) := ⟨MA30.out.1.trans (hb.mono MA30.out.1.size), MA30.out.2.1.mono hb (Nat.le_refl _), MA30.out.2.2.1.mono hb (Nat.le_refl _), MA30.out.2.2.2.1.mono hb (Nat.le_refl _), MA30.out.2.2.2.2.mono (Nat.le_refl _) hb (Nat.le_refl _), ho.keep MA30.out.1.size (fun _ _ => rfl)⟩
      clear hb ho MA30
      go_wp2_with fail
      refine hK.out _ _ ?_ (fun hHeld => ?_)
      · exact ⟨MA32.out.2.1.cell 0, MA32.out.2.1.cell 1, MA32.out.2.2.1.cell 0, MA32.out.2.2.1.cell 1, MA32.out.2.2.1.cell 2, MA32.out.2.2.1.cell 3, MA32.out.2.2.1.cell 4, MA32.out.2.2.2.1.cell 0, MA32.out.2.2.2.1.cell 1, MA32.out.2.2.2.1.cell 2, MA32.out.2.2.2.1.cell 3, MA32.out.2.2.2.1.cell 4⟩
      clear hK K
      refine rl 15 fun K hK => ?_
      go_simp
      refine (touch57 a1 NA c1 (prF v (stG v fp fa fw lg nb B)) a2 NB c2 (prF v (stG v gp ga gw gl mb C)) _ (by omega) (by omega) (MA32.out.2.2.2.2.1.vs.le (Nat.zero_le _)) (MA32.out.2.2.2.2.2.vs.le (Nat.zero_le _))).mono ?_
      rintro e wh33 ⟨t, rfl, ht, hb⟩
      have HT : Hid (t = true ↔ meQ v fp fa fw lg nb B gp ga gw gl mb C) := by rw [meQ, HNA0.out, HNB0.out]; exact ht
      clear ht
      have MA34 : Hid (Below w.heap.size w wh33 ∧ Box wh33 (w.heap.size) 40 #[.slice pa v.n pc, .slice ja v.m jc] ∧ Box wh33 (w.heap.size + 1) 33 #[.int .i64 fp, .int .i64 fa, .int .i64 fw, .int .i64 lg, .slice ba nb bk] ∧ Box wh33 (w.heap.size + 1 + 1) 33 #[.int .i64 gp, .int .i64 ga, .int .i64 gw, .int .i64 gl, .slice ca mb ck] ∧ VOwn w.heap.size 112 3 wh33 (.slice a1 NA c1) NA (intF (prF v (stG v fp fa fw lg nb B))) ∧ VOwn w.heap.size 112 3 wh33 (.slice a2 NB c2) NB (intF (prF v (stG v gp ga gw gl mb C)))) := ⟨MA32.out.1.trans (hb.mono MA32.out.1.size), MA32.out.2.1.mono hb (Nat.le_refl _), MA32.out.2.2.1.mono hb (Nat.le_refl _), MA32.out.2.2.2.1.mono hb (Nat.le_refl _), MA32.out.2.2.2.2.1.mono (Nat.le_refl _) hb (Nat.le_refl _), MA32.out.2.2.2.2.2.mono (Nat.le_refl _) hb (Nat.le_refl _)⟩
      clear hb MA32
      go_wp2_with fail
      refine hK.out _ _ ?_ (fun hHeld => ?_)
      · exact ⟨MA34.out.2.1.cell 0, MA34.out.2.1.cell 1, MA34.out.2.2.1.cell 0, MA34.out.2.2.1.cell 1, MA34.out.2.2.1.cell 2, MA34.out.2.2.1.cell 3, MA34.out.2.2.1.cell 4, MA34.out.2.2.2.1.cell 0, MA34.out.2.2.2.1.cell 1, MA34.out.2.2.2.1.cell 2, MA34.out.2.2.2.1.cell 3, MA34.out.2.2.2.1.cell 4⟩
      clear hK K
      refine tk 16 ?_
      refine tk 17 ?_
      refine wpAnyH_done (by kernel_rfl) ?_ _
      clear hHeld
      go_wp2_with fail
      go_ret
      exact ⟨t, rfl, HT.out, MA34.out.1⟩
set_option maxRecDepth 100000 in
set_option maxHeartbeats 16000000 in
theorem implMeet22 {v : Nv} (pa : Option Addr) (pc : Nat) (ja : Option Addr) (jc : Nat) (fp fa fw lg : Int) (nb : Nat) (B : Nat → Nat → Int) (bb bo bk : Nat) (gp ga gw gl : Int) (mb : Nat) (C : Nat → Nat → Int) (cb co ck : Nat) (w : World) (hn : v.n ≤ 1048576) (hm : v.m ≤ 1048576) (hnb : nb ≤ 1048576) (hmb : mb ≤ 1048576) (hpc : v.n ≤ pc) (hpm : pc ≤ maxLen) (hjc : v.m ≤ jc) (hjm : jc ≤ maxLen) (hP : PsAt 0 w pa v.n v.P) (hJ : JsAt 0 w ja v.m v.J) (hps : ∀ i, i < v.n → (v.P i).nm.size ≤ maxLen) (hjs : ∀ i, i < v.m → (v.J i).ne ≤ 1048576 ∧ (v.J i).nm.size ≤ maxLen) (hB : NsAt 2 0 w (some ⟨bb, bo, none⟩) nb B) (hC : NsAt 2 0 w (some ⟨cb, co, none⟩) mb C) :
    Calls Tryz.prog 22 #[.agg #[.slice pa v.n pc, .slice ja v.m jc], .agg #[.int .i64 fp, .int .i64 fa, .int .i64 fw, .int .i64 lg, .slice (some ⟨bb, bo, none⟩) nb bk], .agg #[.int .i64 gp, .int .i64 ga, .int .i64 gw, .int .i64 gl, .slice (some ⟨cb, co, none⟩) mb ck]] w fun e w' => MtR w (meQ v fp fa fw lg nb B gp ga gw gl mb C) e w' := by
  have H : Hid (PsAt 0 w pa v.n v.P ∧ JsAt 0 w ja v.m v.J ∧ (∀ i, i < v.n → (v.P i).nm.size ≤ maxLen) ∧ (∀ i, i < v.m → (v.J i).ne ≤ 1048576 ∧ (v.J i).nm.size ≤ maxLen) ∧ NsAt 2 0 w (some ⟨bb, bo, none⟩) nb B ∧ NsAt 2 0 w (some ⟨cb, co, none⟩) mb C) := ⟨hP, hJ, hps, hjs, hB, hC⟩
  have S0 : Hid (Below w.heap.size w (((w.alloc (.cells #[.slice pa v.n pc, .slice ja v.m jc] 40)).alloc (.cells #[.int .i64 fp, .int .i64 fa, .int .i64 fw, .int .i64 lg, .slice (some ⟨bb, bo, none⟩) nb bk] 33)).alloc (.cells #[.int .i64 gp, .int .i64 ga, .int .i64 gw, .int .i64 gl, .slice (some ⟨cb, co, none⟩) mb ck] 33)) ∧ Box (((w.alloc (.cells #[.slice pa v.n pc, .slice ja v.m jc] 40)).alloc (.cells #[.int .i64 fp, .int .i64 fa, .int .i64 fw, .int .i64 lg, .slice (some ⟨bb, bo, none⟩) nb bk] 33)).alloc (.cells #[.int .i64 gp, .int .i64 ga, .int .i64 gw, .int .i64 gl, .slice (some ⟨cb, co, none⟩) mb ck] 33)) (w.heap.size) 40 #[.slice pa v.n pc, .slice ja v.m jc] ∧ Box (((w.alloc (.cells #[.slice pa v.n pc, .slice ja v.m jc] 40)).alloc (.cells #[.int .i64 fp, .int .i64 fa, .int .i64 fw, .int .i64 lg, .slice (some ⟨bb, bo, none⟩) nb bk] 33)).alloc (.cells #[.int .i64 gp, .int .i64 ga, .int .i64 gw, .int .i64 gl, .slice (some ⟨cb, co, none⟩) mb ck] 33)) (w.heap.size + 1) 33 #[.int .i64 fp, .int .i64 fa, .int .i64 fw, .int .i64 lg, .slice (some ⟨bb, bo, none⟩) nb bk] ∧ Box (((w.alloc (.cells #[.slice pa v.n pc, .slice ja v.m jc] 40)).alloc (.cells #[.int .i64 fp, .int .i64 fa, .int .i64 fw, .int .i64 lg, .slice (some ⟨bb, bo, none⟩) nb bk] 33)).alloc (.cells #[.int .i64 gp, .int .i64 ga, .int .i64 gw, .int .i64 gl, .slice (some ⟨cb, co, none⟩) mb ck] 33)) (w.heap.size + 1 + 1) 33 #[.int .i64 gp, .int .i64 ga, .int .i64 gw, .int .i64 gl, .slice (some ⟨cb, co, none⟩) mb ck]) := ⟨((Below.refl _ _).alloc (Nat.le_refl _) _ |>.alloc (by simp) _ |>.alloc (by simp; omega) _), (((Box.new w 40 #[.slice pa v.n pc, .slice ja v.m jc]).alloc (.cells #[.int .i64 fp, .int .i64 fa, .int .i64 fw, .int .i64 lg, .slice (some ⟨bb, bo, none⟩) nb bk] 33)).alloc (.cells #[.int .i64 gp, .int .i64 ga, .int .i64 gw, .int .i64 gl, .slice (some ⟨cb, co, none⟩) mb ck] 33)), by have := ((Box.new (w.alloc (.cells #[.slice pa v.n pc, .slice ja v.m jc] 40)) 33 #[.int .i64 fp, .int .i64 fa, .int .i64 fw, .int .i64 lg, .slice (some ⟨bb, bo, none⟩) nb bk]).alloc (.cells #[.int .i64 gp, .int .i64 ga, .int .i64 gw, .int .i64 gl, .slice (some ⟨cb, co, none⟩) mb ck] 33)); simpa using this, by have := (Box.new ((w.alloc (.cells #[.slice pa v.n pc, .slice ja v.m jc] 40)).alloc (.cells #[.int .i64 fp, .int .i64 fa, .int .i64 fw, .int .i64 lg, .slice (some ⟨bb, bo, none⟩) nb bk] 33)) 33 #[.int .i64 gp, .int .i64 ga, .int .i64 gw, .int .i64 gl, .slice (some ⟨cb, co, none⟩) mb ck]); simpa using this⟩
  clear hP hJ hps hjs hB hC
  obtain ⟨NA, HNA⟩ : ∃ N, Hid (bdN v fp fa fw lg nb B = N) := ⟨_, rfl⟩
  obtain ⟨NB, HNB⟩ : ∃ N, Hid (bdN v gp ga gw gl mb C = N) := ⟨_, rfl⟩
  have hNA : NA ≤ 300 := by have := HNA.out; have := bd_le (v := v) (fp := fp) (fa := fa) (fw := fw) (lg := lg) (nb := nb) (B := B); omega
  have hNB : NB ≤ 300 := by have := HNB.out; have := bd_le (v := v) (fp := gp) (fa := ga) (fw := gw) (lg := gl) (nb := mb) (B := C); omega
  go_enter Tryz.func22, Tryz.ntmps22
  go_upto_region 1 with fail
  generalize (((w.alloc (.cells #[.slice pa v.n pc, .slice ja v.m jc] 40)).alloc (.cells #[.int .i64 fp, .int .i64 fa, .int .i64 fw, .int .i64 lg, .slice (some ⟨bb, bo, none⟩) nb bk] 33)).alloc (.cells #[.int .i64 gp, .int .i64 ga, .int .i64 gw, .int .i64 gl, .slice (some ⟨cb, co, none⟩) mb ck] 33)) = V0 at S0 ⊢
  have a0 : V0.cell? ⟨w.heap.size, 0, none⟩ = some (.slice pa v.n pc) := S0.out.2.1.cell 0
  have a1 : V0.cell? ⟨w.heap.size, 1, none⟩ = some (.slice ja v.m jc) := S0.out.2.1.cell 1
  have b0 : V0.cell? ⟨w.heap.size + 1, 0, none⟩ = some (.int .i64 fp) := S0.out.2.2.1.cell 0
  have b1 : V0.cell? ⟨w.heap.size + 1, 1, none⟩ = some (.int .i64 fa) := S0.out.2.2.1.cell 1
  have b2 : V0.cell? ⟨w.heap.size + 1, 2, none⟩ = some (.int .i64 fw) := S0.out.2.2.1.cell 2
  have b3 : V0.cell? ⟨w.heap.size + 1, 3, none⟩ = some (.int .i64 lg) := S0.out.2.2.1.cell 3
  have b4 : V0.cell? ⟨w.heap.size + 1, 4, none⟩ = some (.slice (some ⟨bb, bo, none⟩) nb bk) := S0.out.2.2.1.cell 4
  have c0 : V0.cell? ⟨w.heap.size + 1 + 1, 0, none⟩ = some (.int .i64 gp) := S0.out.2.2.2.cell 0
  have c1 : V0.cell? ⟨w.heap.size + 1 + 1, 1, none⟩ = some (.int .i64 ga) := S0.out.2.2.2.cell 1
  have c2 : V0.cell? ⟨w.heap.size + 1 + 1, 2, none⟩ = some (.int .i64 gw) := S0.out.2.2.2.cell 2
  have c3 : V0.cell? ⟨w.heap.size + 1 + 1, 3, none⟩ = some (.int .i64 gl) := S0.out.2.2.2.cell 3
  have c4 : V0.cell? ⟨w.heap.size + 1 + 1, 4, none⟩ = some (.slice (some ⟨cb, co, none⟩) mb ck) := S0.out.2.2.2.cell 4
  go_wp2_with fail
  refine wp_region_held_drew (S := (fun wx : World => wx.cell? ⟨w.heap.size, 0, none⟩ = some (.slice pa v.n pc) ∧ wx.cell? ⟨w.heap.size, 1, none⟩ = some (.slice ja v.m jc) ∧ wx.cell? ⟨w.heap.size + 1, 0, none⟩ = some (.int .i64 fp) ∧ wx.cell? ⟨w.heap.size + 1, 1, none⟩ = some (.int .i64 fa) ∧ wx.cell? ⟨w.heap.size + 1, 2, none⟩ = some (.int .i64 fw) ∧ wx.cell? ⟨w.heap.size + 1, 3, none⟩ = some (.int .i64 lg) ∧ wx.cell? ⟨w.heap.size + 1, 4, none⟩ = some (.slice (some ⟨bb, bo, none⟩) nb bk) ∧ wx.cell? ⟨w.heap.size + 1 + 1, 0, none⟩ = some (.int .i64 gp) ∧ wx.cell? ⟨w.heap.size + 1 + 1, 1, none⟩ = some (.int .i64 ga) ∧ wx.cell? ⟨w.heap.size + 1 + 1, 2, none⟩ = some (.int .i64 gw) ∧ wx.cell? ⟨w.heap.size + 1 + 1, 3, none⟩ = some (.int .i64 gl) ∧ wx.cell? ⟨w.heap.size + 1 + 1, 4, none⟩ = some (.slice (some ⟨cb, co, none⟩) mb ck))) (by kernel_rfl) ?_ (fun hHeld => ?_)
  · exact ⟨a0, a1, b0, b1, b2, b3, b4, c0, c1, c2, c3, c4⟩
  have MD35 : Hid (Below w.heap.size w V0.drew ∧ Box V0.drew (w.heap.size) 40 #[.slice pa v.n pc, .slice ja v.m jc] ∧ Box V0.drew (w.heap.size + 1) 33 #[.int .i64 fp, .int .i64 fa, .int .i64 fw, .int .i64 lg, .slice (some ⟨bb, bo, none⟩) nb bk] ∧ Box V0.drew (w.heap.size + 1 + 1) 33 #[.int .i64 gp, .int .i64 ga, .int .i64 gw, .int .i64 gl, .slice (some ⟨cb, co, none⟩) mb ck]) := ⟨S0.out.1.drew, S0.out.2.1.drew, S0.out.2.2.1.drew, S0.out.2.2.2.drew⟩
  clear a0 a1 b0 b1 b2 b3 b4 c0 c1 c2 c3 c4 S0
  generalize V0.drew = VD at MD35 hHeld ⊢
  refine tk 0 ?_
  refine tk 1 ?_
  refine tk 4 ?_
  refine tk 5 ?_
  refine rl 2 fun K hK => ?_
  go_simp
  refine (implBody10 pa pc ja jc fp fa fw lg nb B bb bo bk _ hn hm hnb hpc hpm hjc hjm (H.out.1.mono (Nat.le_refl _) MD35.out.1 (Nat.le_refl _)) (H.out.2.1.mono (Nat.le_refl _) MD35.out.1 (Nat.le_refl _)) H.out.2.2.1 H.out.2.2.2.1 (H.out.2.2.2.2.1.mono (Nat.le_refl _) MD35.out.1 (Nat.le_refl _))).mono ?_
  rintro e wh36 ⟨a1, c1, he, ho, hb⟩
  rw [HNA.out] at he ho
  subst he
  have MA37 : Hid (Below w.heap.size w wh36 ∧ Box wh36 (w.heap.size) 40 #[.slice pa v.n pc, .slice ja v.m jc] ∧ Box wh36 (w.heap.size + 1) 33 #[.int .i64 fp, .int .i64 fa, .int .i64 fw, .int .i64 lg, .slice (some ⟨bb, bo, none⟩) nb bk] ∧ Box wh36 (w.heap.size + 1 + 1) 33 #[.int .i64 gp, .int .i64 ga, .int .i64 gw, .int .i64 gl, .slice (some ⟨cb, co, none⟩) mb ck] ∧ VOwn w.heap.size 112 3 wh36 (.slice a1 NA c1) NA (intF (prF v (stG v fp fa fw lg nb B)))) := ⟨MD35.out.1.trans (hb.mono MD35.out.1.size), MD35.out.2.1.mono hb (Nat.le_refl _), MD35.out.2.2.1.mono hb (Nat.le_refl _), MD35.out.2.2.2.mono hb (Nat.le_refl _), ho.keep MD35.out.1.size (fun _ _ => rfl)⟩
  clear hb ho MD35
  go_wp2_with fail
  refine hK.out _ _ ?_ (fun hHeld => ?_)
  · exact ⟨MA37.out.2.1.cell 0, MA37.out.2.1.cell 1, MA37.out.2.2.1.cell 0, MA37.out.2.2.1.cell 1, MA37.out.2.2.1.cell 2, MA37.out.2.2.1.cell 3, MA37.out.2.2.1.cell 4, MA37.out.2.2.2.1.cell 0, MA37.out.2.2.2.1.cell 1, MA37.out.2.2.2.1.cell 2, MA37.out.2.2.2.1.cell 3, MA37.out.2.2.2.1.cell 4⟩
  clear hK K
  refine rl 3 fun K hK => ?_
  go_simp
  refine (wishesP a1 NA c1 (prF v (stG v fp fa fw lg nb B)) _ (by omega) (MA37.out.2.2.2.2.vs.le (Nat.zero_le _))).mono ?_
  rintro e wh38 ⟨p1, q1, rfl, hp1, hq1, hm1, hb⟩
  have HM1 : Hid (p1 < 18446744073709551616 ∧ q1 < 18446744073709551616 ∧ ∀ i, i < NA → mt p1 q1 (prF v (stG v fp fa fw lg nb B) i 0) = true) := ⟨hp1, hq1, hm1⟩
  clear hp1 hq1 hm1
  have MA39 : Hid (Below w.heap.size w wh38 ∧ Box wh38 (w.heap.size) 40 #[.slice pa v.n pc, .slice ja v.m jc] ∧ Box wh38 (w.heap.size + 1) 33 #[.int .i64 fp, .int .i64 fa, .int .i64 fw, .int .i64 lg, .slice (some ⟨bb, bo, none⟩) nb bk] ∧ Box wh38 (w.heap.size + 1 + 1) 33 #[.int .i64 gp, .int .i64 ga, .int .i64 gw, .int .i64 gl, .slice (some ⟨cb, co, none⟩) mb ck] ∧ VOwn w.heap.size 112 3 wh38 (.slice a1 NA c1) NA (intF (prF v (stG v fp fa fw lg nb B)))) := ⟨MA37.out.1.trans (hb.mono MA37.out.1.size), MA37.out.2.1.mono hb (Nat.le_refl _), MA37.out.2.2.1.mono hb (Nat.le_refl _), MA37.out.2.2.2.1.mono hb (Nat.le_refl _), MA37.out.2.2.2.2.mono (Nat.le_refl _) hb (Nat.le_refl _)⟩
  clear hb MA37
  go_wp2_with fail
  refine hK.out _ _ ?_ (fun hHeld => ?_)
  · exact ⟨MA39.out.2.1.cell 0, MA39.out.2.1.cell 1, MA39.out.2.2.1.cell 0, MA39.out.2.2.1.cell 1, MA39.out.2.2.1.cell 2, MA39.out.2.2.1.cell 3, MA39.out.2.2.1.cell 4, MA39.out.2.2.2.1.cell 0, MA39.out.2.2.2.1.cell 1, MA39.out.2.2.2.1.cell 2, MA39.out.2.2.2.1.cell 3, MA39.out.2.2.2.1.cell 4⟩
  clear hK K
  refine rl 6 fun K hK => ?_
  go_simp
  refine (implBody10 pa pc ja jc gp ga gw gl mb C cb co ck _ hn hm hmb hpc hpm hjc hjm (H.out.1.mono (Nat.le_refl _) MA39.out.1 (Nat.le_refl _)) (H.out.2.1.mono (Nat.le_refl _) MA39.out.1 (Nat.le_refl _)) H.out.2.2.1 H.out.2.2.2.1 (H.out.2.2.2.2.2.mono (Nat.le_refl _) MA39.out.1 (Nat.le_refl _))).mono ?_
  rintro e wh40 ⟨a2, c2, he, ho, hb⟩
  rw [HNB.out] at he ho
  subst he
  have MA41 : Hid (Below w.heap.size w wh40 ∧ Box wh40 (w.heap.size) 40 #[.slice pa v.n pc, .slice ja v.m jc] ∧ Box wh40 (w.heap.size + 1) 33 #[.int .i64 fp, .int .i64 fa, .int .i64 fw, .int .i64 lg, .slice (some ⟨bb, bo, none⟩) nb bk] ∧ Box wh40 (w.heap.size + 1 + 1) 33 #[.int .i64 gp, .int .i64 ga, .int .i64 gw, .int .i64 gl, .slice (some ⟨cb, co, none⟩) mb ck] ∧ VOwn w.heap.size 112 3 wh40 (.slice a1 NA c1) NA (intF (prF v (stG v fp fa fw lg nb B))) ∧ VOwn w.heap.size 112 3 wh40 (.slice a2 NB c2) NB (intF (prF v (stG v gp ga gw gl mb C)))) := ⟨MA39.out.1.trans (hb.mono MA39.out.1.size), MA39.out.2.1.mono hb (Nat.le_refl _), MA39.out.2.2.1.mono hb (Nat.le_refl _), MA39.out.2.2.2.1.mono hb (Nat.le_refl _), MA39.out.2.2.2.2.mono (Nat.le_refl _) hb (Nat.le_refl _), ho.keep MA39.out.1.size (fun _ _ => rfl)⟩
  clear hb ho MA39
  go_wp2_with fail
  refine hK.out _ _ ?_ (fun hHeld => ?_)
  · exact ⟨MA41.out.2.1.cell 0, MA41.out.2.1.cell 1, MA41.out.2.2.1.cell 0, MA41.out.2.2.1.cell 1, MA41.out.2.2.1.cell 2, MA41.out.2.2.1.cell 3, MA41.out.2.2.1.cell 4, MA41.out.2.2.2.1.cell 0, MA41.out.2.2.2.1.cell 1, MA41.out.2.2.2.1.cell 2, MA41.out.2.2.2.1.cell 3, MA41.out.2.2.2.1.cell 4⟩
  clear hK K
  refine rl 7 fun K hK => ?_
  go_simp
  refine (wishesP a2 NB c2 (prF v (stG v gp ga gw gl mb C)) _ (by omega) (MA41.out.2.2.2.2.2.vs.le (Nat.zero_le _))).mono ?_
  rintro e wh42 ⟨p2, q2, rfl, hp1, hq1, hm1, hb⟩
  have HM2 : Hid (p2 < 18446744073709551616 ∧ q2 < 18446744073709551616 ∧ ∀ i, i < NB → mt p2 q2 (prF v (stG v gp ga gw gl mb C) i 0) = true) := ⟨hp1, hq1, hm1⟩
  clear hp1 hq1 hm1
  have MA43 : Hid (Below w.heap.size w wh42 ∧ Box wh42 (w.heap.size) 40 #[.slice pa v.n pc, .slice ja v.m jc] ∧ Box wh42 (w.heap.size + 1) 33 #[.int .i64 fp, .int .i64 fa, .int .i64 fw, .int .i64 lg, .slice (some ⟨bb, bo, none⟩) nb bk] ∧ Box wh42 (w.heap.size + 1 + 1) 33 #[.int .i64 gp, .int .i64 ga, .int .i64 gw, .int .i64 gl, .slice (some ⟨cb, co, none⟩) mb ck] ∧ VOwn w.heap.size 112 3 wh42 (.slice a1 NA c1) NA (intF (prF v (stG v fp fa fw lg nb B))) ∧ VOwn w.heap.size 112 3 wh42 (.slice a2 NB c2) NB (intF (prF v (stG v gp ga gw gl mb C)))) := ⟨MA41.out.1.trans (hb.mono MA41.out.1.size), MA41.out.2.1.mono hb (Nat.le_refl _), MA41.out.2.2.1.mono hb (Nat.le_refl _), MA41.out.2.2.2.1.mono hb (Nat.le_refl _), MA41.out.2.2.2.2.1.mono (Nat.le_refl _) hb (Nat.le_refl _), MA41.out.2.2.2.2.2.mono (Nat.le_refl _) hb (Nat.le_refl _)⟩
  clear hb MA41
  go_wp2_with fail
  refine hK.out _ _ ?_ (fun hHeld => ?_)
  · exact ⟨MA43.out.2.1.cell 0, MA43.out.2.1.cell 1, MA43.out.2.2.1.cell 0, MA43.out.2.2.1.cell 1, MA43.out.2.2.1.cell 2, MA43.out.2.2.1.cell 3, MA43.out.2.2.1.cell 4, MA43.out.2.2.2.1.cell 0, MA43.out.2.2.2.1.cell 1, MA43.out.2.2.2.1.cell 2, MA43.out.2.2.2.1.cell 3, MA43.out.2.2.2.1.cell 4⟩
  clear hK K
  refine rl 8 fun K hK => ?_
  go_simp
  refine (againstP a1 NA c1 (prF v (stG v fp fa fw lg nb B)) p1 q1 a2 NB c2 (prF v (stG v gp ga gw gl mb C)) p2 q2 _ (by omega) (by omega) (MA43.out.2.2.2.2.1.vs.le (Nat.zero_le _)) (MA43.out.2.2.2.2.2.vs.le (Nat.zero_le _)) HM1.out.1 HM1.out.2.1 HM2.out.1 HM2.out.2.1 HM1.out.2.2 HM2.out.2.2).mono ?_
  rintro e wh44 ⟨t, rfl, ht, hb⟩
  have HT : Hid (t = true ↔ meQ v fp fa fw lg nb B gp ga gw gl mb C) := by rw [meQ, HNA.out, HNB.out]; exact ht
  clear ht
  have MA45 : Hid (Below w.heap.size w wh44 ∧ Box wh44 (w.heap.size) 40 #[.slice pa v.n pc, .slice ja v.m jc] ∧ Box wh44 (w.heap.size + 1) 33 #[.int .i64 fp, .int .i64 fa, .int .i64 fw, .int .i64 lg, .slice (some ⟨bb, bo, none⟩) nb bk] ∧ Box wh44 (w.heap.size + 1 + 1) 33 #[.int .i64 gp, .int .i64 ga, .int .i64 gw, .int .i64 gl, .slice (some ⟨cb, co, none⟩) mb ck] ∧ VOwn w.heap.size 112 3 wh44 (.slice a1 NA c1) NA (intF (prF v (stG v fp fa fw lg nb B))) ∧ VOwn w.heap.size 112 3 wh44 (.slice a2 NB c2) NB (intF (prF v (stG v gp ga gw gl mb C)))) := ⟨MA43.out.1.trans (hb.mono MA43.out.1.size), MA43.out.2.1.mono hb (Nat.le_refl _), MA43.out.2.2.1.mono hb (Nat.le_refl _), MA43.out.2.2.2.1.mono hb (Nat.le_refl _), MA43.out.2.2.2.2.1.mono (Nat.le_refl _) hb (Nat.le_refl _), MA43.out.2.2.2.2.2.mono (Nat.le_refl _) hb (Nat.le_refl _)⟩
  clear hb MA43
  go_wp2_with fail
  refine hK.out _ _ ?_ (fun hHeld => ?_)
  · exact ⟨MA45.out.2.1.cell 0, MA45.out.2.1.cell 1, MA45.out.2.2.1.cell 0, MA45.out.2.2.1.cell 1, MA45.out.2.2.1.cell 2, MA45.out.2.2.1.cell 3, MA45.out.2.2.1.cell 4, MA45.out.2.2.2.1.cell 0, MA45.out.2.2.2.1.cell 1, MA45.out.2.2.2.1.cell 2, MA45.out.2.2.2.1.cell 3, MA45.out.2.2.2.1.cell 4⟩
  clear hK K
  refine tk 9 ?_
  refine wpAnyH_done (by kernel_rfl) ?_ _
  clear hHeld
  go_wp2_with fail
  go_ret
  exact ⟨t, rfl, HT.out, MA45.out.1⟩

end Go.Proofs.YtjhmaofjmalglaaGreat
