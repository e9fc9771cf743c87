import Derived.Test.YtjhmaofjmalglaaGreatMf
import Derived.Test.YtjhmaofjmalglaaGreatTv
import Derived.Test.YtjhmaofjmalglaaGreatSz
import Derived.Test.YtjhmaofjmalglaaGreatEq
namespace Go.Proofs.YtjhmaofjmalglaaGreat
open Go.RowKit Go.Lib

set_option maxRecDepth 100000 in
set_option maxHeartbeats 64000000 in
theorem law4m {v : Nv} (pa : Option Addr) (pc : Nat) (ja : Option Addr) (jc : Nat) (fp fa fw lg : Int) (nb : Nat) (B : Nat → Nat → Int) (ba : Option Addr) (bk : Nat) (gp ga gw gl : Int) (mb : Nat) (C : Nat → Nat → Int) (ca : Option Addr) (ck : Nat) (w : World) (hn : v.n ≤ maxLen) (hm : v.m ≤ maxLen) (hl : nb ≤ maxLen) (hl2 : mb ≤ maxLen) (hP : PsAt 0 w pa v.n v.P) (hJ : JsAt 0 w ja v.m v.J) (hps : ∀ i, i < v.n → (v.P i).nm.size ≤ maxLen) (hjs : ∀ i, i < v.m → (v.J i).nm.size ≤ maxLen ∧ (v.J i).ne ≤ maxLen) (hB : NsAt 2 0 w ba nb B) (hC : NsAt 2 0 w ca mb C) :
    Calls Tryz.prog 4 #[.agg #[.slice pa v.n pc, .slice ja v.m jc], .agg #[.int .i64 fp, .int .i64 fa, .int .i64 fw, .int .i64 lg, .slice ba nb bk], .agg #[.int .i64 gp, .int .i64 ga, .int .i64 gw, .int .i64 gl, .slice ca mb ck]] w fun e w' => e = .returned (.bool true) ∧ Below w.heap.size w w' := by
  have H : Hid (PsAt 0 w pa v.n v.P ∧ JsAt 0 w ja v.m v.J ∧ NsAt 2 0 w ba nb B ∧ NsAt 2 0 w ca mb C ∧ (∀ i, i < v.n → (v.P i).nm.size ≤ maxLen) ∧ (∀ i, i < v.m → (v.J i).nm.size ≤ maxLen ∧ (v.J i).ne ≤ maxLen)) := ⟨hP, hJ, hB, hC, hps, hjs⟩
  have S0 : Hid (Below w.heap.size w (((w.alloc (.cells #[.slice pa v.n pc, .slice ja v.m jc] 25)).alloc (.cells #[.int .i64 fp, .int .i64 fa, .int .i64 fw, .int .i64 lg, .slice ba nb bk] 53)).alloc (.cells #[.int .i64 gp, .int .i64 ga, .int .i64 gw, .int .i64 gl, .slice ca mb ck] 53)) ∧ Box (((w.alloc (.cells #[.slice pa v.n pc, .slice ja v.m jc] 25)).alloc (.cells #[.int .i64 fp, .int .i64 fa, .int .i64 fw, .int .i64 lg, .slice ba nb bk] 53)).alloc (.cells #[.int .i64 gp, .int .i64 ga, .int .i64 gw, .int .i64 gl, .slice ca mb ck] 53)) (w.heap.size) 25 #[.slice pa v.n pc, .slice ja v.m jc] ∧ Box (((w.alloc (.cells #[.slice pa v.n pc, .slice ja v.m jc] 25)).alloc (.cells #[.int .i64 fp, .int .i64 fa, .int .i64 fw, .int .i64 lg, .slice ba nb bk] 53)).alloc (.cells #[.int .i64 gp, .int .i64 ga, .int .i64 gw, .int .i64 gl, .slice ca mb ck] 53)) (w.heap.size + 1) 53 #[.int .i64 fp, .int .i64 fa, .int .i64 fw, .int .i64 lg, .slice ba nb bk] ∧ Box (((w.alloc (.cells #[.slice pa v.n pc, .slice ja v.m jc] 25)).alloc (.cells #[.int .i64 fp, .int .i64 fa, .int .i64 fw, .int .i64 lg, .slice ba nb bk] 53)).alloc (.cells #[.int .i64 gp, .int .i64 ga, .int .i64 gw, .int .i64 gl, .slice ca mb ck] 53)) (w.heap.size + 1 + 1) 53 #[.int .i64 gp, .int .i64 ga, .int .i64 gw, .int .i64 gl, .slice ca mb ck]) := ⟨((Below.refl _ _).alloc (Nat.le_refl _) _ |>.alloc (by simp) _ |>.alloc (by simp; omega) _), (((Box.new w 25 #[.slice pa v.n pc, .slice ja v.m jc]).alloc (.cells #[.int .i64 fp, .int .i64 fa, .int .i64 fw, .int .i64 lg, .slice ba nb bk] 53)).alloc (.cells #[.int .i64 gp, .int .i64 ga, .int .i64 gw, .int .i64 gl, .slice ca mb ck] 53)), by have := ((Box.new (w.alloc (.cells #[.slice pa v.n pc, .slice ja v.m jc] 25)) 53 #[.int .i64 fp, .int .i64 fa, .int .i64 fw, .int .i64 lg, .slice ba nb bk]).alloc (.cells #[.int .i64 gp, .int .i64 ga, .int .i64 gw, .int .i64 gl, .slice ca mb ck] 53)); simpa using this, by have := (Box.new ((w.alloc (.cells #[.slice pa v.n pc, .slice ja v.m jc] 25)).alloc (.cells #[.int .i64 fp, .int .i64 fa, .int .i64 fw, .int .i64 lg, .slice ba nb bk] 53)) 53 #[.int .i64 gp, .int .i64 ga, .int .i64 gw, .int .i64 gl, .slice ca mb ck]); simpa using this⟩
  clear hP hJ hB hC hps hjs
  go_enter Tryz.func4, Tryz.ntmps4
  go_upto_region 1 with fail
  generalize (((w.alloc (.cells #[.slice pa v.n pc, .slice ja v.m jc] 25)).alloc (.cells #[.int .i64 fp, .int .i64 fa, .int .i64 fw, .int .i64 lg, .slice ba nb bk] 53)).alloc (.cells #[.int .i64 gp, .int .i64 ga, .int .i64 gw, .int .i64 gl, .slice ca mb ck] 53)) = V0 at S0 ⊢
  have x0 : V0.cell? ⟨w.heap.size, 0, none⟩ = some (.slice pa v.n pc) := S0.out.2.1.cell 0
  have x1 : V0.cell? ⟨w.heap.size, 1, none⟩ = some (.slice ja v.m jc) := S0.out.2.1.cell 1
  have y0 : V0.cell? ⟨w.heap.size + 1, 0, none⟩ = some (.int .i64 fp) := S0.out.2.2.1.cell 0
  have y1 : V0.cell? ⟨w.heap.size + 1, 1, none⟩ = some (.int .i64 fa) := S0.out.2.2.1.cell 1
  have y2 : V0.cell? ⟨w.heap.size + 1, 2, none⟩ = some (.int .i64 fw) := S0.out.2.2.1.cell 2
  have y3 : V0.cell? ⟨w.heap.size + 1, 3, none⟩ = some (.int .i64 lg) := S0.out.2.2.1.cell 3
  have y4 : V0.cell? ⟨w.heap.size + 1, 4, none⟩ = some (.slice ba nb bk) := S0.out.2.2.1.cell 4
  have z0 : V0.cell? ⟨w.heap.size + 1 + 1, 0, none⟩ = some (.int .i64 gp) := S0.out.2.2.2.cell 0
  have z1 : V0.cell? ⟨w.heap.size + 1 + 1, 1, none⟩ = some (.int .i64 ga) := S0.out.2.2.2.cell 1
  have z2 : V0.cell? ⟨w.heap.size + 1 + 1, 2, none⟩ = some (.int .i64 gw) := S0.out.2.2.2.cell 2
  have z3 : V0.cell? ⟨w.heap.size + 1 + 1, 3, none⟩ = some (.int .i64 gl) := S0.out.2.2.2.cell 3
  have z4 : V0.cell? ⟨w.heap.size + 1 + 1, 4, none⟩ = some (.slice ca mb ck) := S0.out.2.2.2.cell 4
  go_wp2_with fail
  clear x0 x1 y0 y1 y2 y3 y4 z0 z1 z2 z3 z4
  refine (szNet5 pa v.n pc v.P ja v.m jc v.J 1048576 V0 hn hm (by omega) (by omega) (H.out.1.mono (Nat.le_refl _) S0.out.1 (Nat.le_refl _)) (H.out.2.1.mono (Nat.le_refl _) S0.out.1 (Nat.le_refl _)) H.out.2.2.2.2.1 H.out.2.2.2.2.2).mono ?_
  rintro e w1 ⟨r, rfl, hr1, hr2, hb⟩
  have S1 : Hid (Below w.heap.size w w1 ∧ Box w1 (w.heap.size) 25 #[.slice pa v.n pc, .slice ja v.m jc] ∧ Box w1 (w.heap.size + 1) 53 #[.int .i64 fp, .int .i64 fa, .int .i64 fw, .int .i64 lg, .slice ba nb bk] ∧ Box w1 (w.heap.size + 1 + 1) 53 #[.int .i64 gp, .int .i64 ga, .int .i64 gw, .int .i64 gl, .slice ca mb ck]) := ⟨S0.out.1.trans (hb.mono S0.out.1.size), S0.out.2.1.mono hb (Nat.le_refl _), S0.out.2.2.1.mono hb (Nat.le_refl _), S0.out.2.2.2.mono hb (Nat.le_refl _)⟩
  clear hb S0
  by_cases hneg : r < 0
  · clear hr2
    go_wp2_with fail
    go_ret
    exact ⟨rfl, S1.out.1⟩
  obtain ⟨hn2, hm2, hne2⟩ := hr2 (by omega)
  have hn1 : v.n ≤ 1048576 := by omega
  have hm1 : v.m ≤ 1048576 := by omega
  have HNE : Hid (∀ i, i < v.m → (v.J i).ne ≤ 1048576) := fun i hi => by have := hne2 i hi; omega
  have HNE2 : Hid (∀ i, i < v.m → (v.J i).ne ≤ 1048576 ∧ (v.J i).nm.size ≤ maxLen) := fun i hi => ⟨HNE.out i hi, (H.out.2.2.2.2.2 i hi).1⟩
  clear hr2 hne2 hn2 hm2
  have x0 : w1.cell? ⟨w.heap.size, 0, none⟩ = some (.slice pa v.n pc) := S1.out.2.1.cell 0
  have x1 : w1.cell? ⟨w.heap.size, 1, none⟩ = some (.slice ja v.m jc) := S1.out.2.1.cell 1
  have y0 : w1.cell? ⟨w.heap.size + 1, 0, none⟩ = some (.int .i64 fp) := S1.out.2.2.1.cell 0
  have y1 : w1.cell? ⟨w.heap.size + 1, 1, none⟩ = some (.int .i64 fa) := S1.out.2.2.1.cell 1
  have y2 : w1.cell? ⟨w.heap.size + 1, 2, none⟩ = some (.int .i64 fw) := S1.out.2.2.1.cell 2
  have y3 : w1.cell? ⟨w.heap.size + 1, 3, none⟩ = some (.int .i64 lg) := S1.out.2.2.1.cell 3
  have y4 : w1.cell? ⟨w.heap.size + 1, 4, none⟩ = some (.slice ba nb bk) := S1.out.2.2.1.cell 4
  have z0 : w1.cell? ⟨w.heap.size + 1 + 1, 0, none⟩ = some (.int .i64 gp) := S1.out.2.2.2.cell 0
  have z1 : w1.cell? ⟨w.heap.size + 1 + 1, 1, none⟩ = some (.int .i64 ga) := S1.out.2.2.2.cell 1
  have z2 : w1.cell? ⟨w.heap.size + 1 + 1, 2, none⟩ = some (.int .i64 gw) := S1.out.2.2.2.cell 2
  have z3 : w1.cell? ⟨w.heap.size + 1 + 1, 3, none⟩ = some (.int .i64 gl) := S1.out.2.2.2.cell 3
  have z4 : w1.cell? ⟨w.heap.size + 1 + 1, 4, none⟩ = some (.slice ca mb ck) := S1.out.2.2.2.cell 4
  go_wp2_with fail
  clear x0 x1 y0 y1 y2 y3 y4 z0 z1 z2 z3 z4
  refine (szTrain14 fp fa fw lg nb ba bk r w1 hl (by omega) (by omega)).mono ?_
  rintro e w2 ⟨r2, rfl, hs1, hs2, hb⟩
  have S2 : Hid (Below w.heap.size w w2 ∧ Box w2 (w.heap.size) 25 #[.slice pa v.n pc, .slice ja v.m jc] ∧ Box w2 (w.heap.size + 1) 53 #[.int .i64 fp, .int .i64 fa, .int .i64 fw, .int .i64 lg, .slice ba nb bk] ∧ Box w2 (w.heap.size + 1 + 1) 53 #[.int .i64 gp, .int .i64 ga, .int .i64 gw, .int .i64 gl, .slice ca mb ck]) := ⟨S1.out.1.trans (hb.mono S1.out.1.size), S1.out.2.1.mono hb (Nat.le_refl _), S1.out.2.2.1.mono hb (Nat.le_refl _), S1.out.2.2.2.mono hb (Nat.le_refl _)⟩
  clear hb S1
  by_cases hneg2 : r2 < 0
  · clear hs2
    go_wp2_with fail
    go_ret
    exact ⟨rfl, S2.out.1⟩
  have hnb1 : nb ≤ 1048576 := by have := hs2 (by omega); omega
  clear hs2
  have x0 : w2.cell? ⟨w.heap.size, 0, none⟩ = some (.slice pa v.n pc) := S2.out.2.1.cell 0
  have x1 : w2.cell? ⟨w.heap.size, 1, none⟩ = some (.slice ja v.m jc) := S2.out.2.1.cell 1
  have y0 : w2.cell? ⟨w.heap.size + 1, 0, none⟩ = some (.int .i64 fp) := S2.out.2.2.1.cell 0
  have y1 : w2.cell? ⟨w.heap.size + 1, 1, none⟩ = some (.int .i64 fa) := S2.out.2.2.1.cell 1
  have y2 : w2.cell? ⟨w.heap.size + 1, 2, none⟩ = some (.int .i64 fw) := S2.out.2.2.1.cell 2
  have y3 : w2.cell? ⟨w.heap.size + 1, 3, none⟩ = some (.int .i64 lg) := S2.out.2.2.1.cell 3
  have y4 : w2.cell? ⟨w.heap.size + 1, 4, none⟩ = some (.slice ba nb bk) := S2.out.2.2.1.cell 4
  have z0 : w2.cell? ⟨w.heap.size + 1 + 1, 0, none⟩ = some (.int .i64 gp) := S2.out.2.2.2.cell 0
  have z1 : w2.cell? ⟨w.heap.size + 1 + 1, 1, none⟩ = some (.int .i64 ga) := S2.out.2.2.2.cell 1
  have z2 : w2.cell? ⟨w.heap.size + 1 + 1, 2, none⟩ = some (.int .i64 gw) := S2.out.2.2.2.cell 2
  have z3 : w2.cell? ⟨w.heap.size + 1 + 1, 3, none⟩ = some (.int .i64 gl) := S2.out.2.2.2.cell 3
  have z4 : w2.cell? ⟨w.heap.size + 1 + 1, 4, none⟩ = some (.slice ca mb ck) := S2.out.2.2.2.cell 4
  go_wp2_with fail
  clear x0 x1 y0 y1 y2 y3 y4 z0 z1 z2 z3 z4
  refine (szTrain14 gp ga gw gl mb ca ck r2 w2 hl2 (by omega) (by omega)).mono ?_
  rintro e w3 ⟨r3, rfl, hs3, hs4, hb⟩
  have S3 : Hid (Below w.heap.size w w3 ∧ Box w3 (w.heap.size) 25 #[.slice pa v.n pc, .slice ja v.m jc] ∧ Box w3 (w.heap.size + 1) 53 #[.int .i64 fp, .int .i64 fa, .int .i64 fw, .int .i64 lg, .slice ba nb bk] ∧ Box w3 (w.heap.size + 1 + 1) 53 #[.int .i64 gp, .int .i64 ga, .int .i64 gw, .int .i64 gl, .slice ca mb ck]) := ⟨S2.out.1.trans (hb.mono S2.out.1.size), S2.out.2.1.mono hb (Nat.le_refl _), S2.out.2.2.1.mono hb (Nat.le_refl _), S2.out.2.2.2.mono hb (Nat.le_refl _)⟩
  clear hb S2
  by_cases hneg3 : r3 < 0
  · clear hs4
    go_wp2_with fail
    go_ret
    exact ⟨rfl, S3.out.1⟩
  have hmb1 : mb ≤ 1048576 := by have := hs4 (by omega); omega
  clear hs4 hs3 hs1
  go_upto_region 11 with fail
  have x0 : w3.cell? ⟨w.heap.size, 0, none⟩ = some (.slice pa v.n pc) := S3.out.2.1.cell 0
  have x1 : w3.cell? ⟨w.heap.size, 1, none⟩ = some (.slice ja v.m jc) := S3.out.2.1.cell 1
  have y0 : w3.cell? ⟨w.heap.size + 1, 0, none⟩ = some (.int .i64 fp) := S3.out.2.2.1.cell 0
  have y1 : w3.cell? ⟨w.heap.size + 1, 1, none⟩ = some (.int .i64 fa) := S3.out.2.2.1.cell 1
  have y2 : w3.cell? ⟨w.heap.size + 1, 2, none⟩ = some (.int .i64 fw) := S3.out.2.2.1.cell 2
  have y3 : w3.cell? ⟨w.heap.size + 1, 3, none⟩ = some (.int .i64 lg) := S3.out.2.2.1.cell 3
  have y4 : w3.cell? ⟨w.heap.size + 1, 4, none⟩ = some (.slice ba nb bk) := S3.out.2.2.1.cell 4
  have z0 : w3.cell? ⟨w.heap.size + 1 + 1, 0, none⟩ = some (.int .i64 gp) := S3.out.2.2.2.cell 0
  have z1 : w3.cell? ⟨w.heap.size + 1 + 1, 1, none⟩ = some (.int .i64 ga) := S3.out.2.2.2.cell 1
  have z2 : w3.cell? ⟨w.heap.size + 1 + 1, 2, none⟩ = some (.int .i64 gw) := S3.out.2.2.2.cell 2
  have z3 : w3.cell? ⟨w.heap.size + 1 + 1, 3, none⟩ = some (.int .i64 gl) := S3.out.2.2.2.cell 3
  have z4 : w3.cell? ⟨w.heap.size + 1 + 1, 4, none⟩ = some (.slice ca mb ck) := S3.out.2.2.2.cell 4
  go_wp2_with fail
  refine wp_region_held_drew (S := (fun wx : World => wx.cell? ⟨w.heap.size, 0, none⟩ = some (.slice pa v.n pc) ∧ wx.cell? ⟨w.heap.size, 1, none⟩ = some (.slice ja v.m jc) ∧ wx.cell? ⟨w.heap.size + 1, 0, none⟩ = some (.int .i64 fp) ∧ wx.cell? ⟨w.heap.size + 1, 1, none⟩ = some (.int .i64 fa) ∧ wx.cell? ⟨w.heap.size + 1, 2, none⟩ = some (.int .i64 fw) ∧ wx.cell? ⟨w.heap.size + 1, 3, none⟩ = some (.int .i64 lg) ∧ wx.cell? ⟨w.heap.size + 1, 4, none⟩ = some (.slice ba nb bk) ∧ wx.cell? ⟨w.heap.size + 1 + 1, 0, none⟩ = some (.int .i64 gp) ∧ wx.cell? ⟨w.heap.size + 1 + 1, 1, none⟩ = some (.int .i64 ga) ∧ wx.cell? ⟨w.heap.size + 1 + 1, 2, none⟩ = some (.int .i64 gw) ∧ wx.cell? ⟨w.heap.size + 1 + 1, 3, none⟩ = some (.int .i64 gl) ∧ wx.cell? ⟨w.heap.size + 1 + 1, 4, none⟩ = some (.slice ca mb ck))) (by kernel_rfl) ?_ (fun hHeld => ?_)
  · exact ⟨x0, x1, y0, y1, y2, y3, y4, z0, z1, z2, z3, z4⟩
  have MD46 : Hid (Below w.heap.size w w3.drew ∧ Box w3.drew (w.heap.size) 25 #[.slice pa v.n pc, .slice ja v.m jc] ∧ Box w3.drew (w.heap.size + 1) 53 #[.int .i64 fp, .int .i64 fa, .int .i64 fw, .int .i64 lg, .slice ba nb bk] ∧ Box w3.drew (w.heap.size + 1 + 1) 53 #[.int .i64 gp, .int .i64 ga, .int .i64 gw, .int .i64 gl, .slice ca mb ck]) := ⟨S3.out.1.drew, S3.out.2.1.drew, S3.out.2.2.1.drew, S3.out.2.2.2.drew⟩
  clear x0 x1 y0 y1 y2 y3 y4 z0 z1 z2 z3 z4 S3
  generalize w3.drew = VD at MD46 hHeld ⊢
  refine tk 0 ?_
  refine tk 2 ?_
  refine tk 4 ?_
  refine rl 1 fun K hK => ?_
  go_simp
  refine (toNetR pa pc ja jc _ hn1 hm1 (H.out.1.mono (Nat.le_refl _) MD46.out.1 (Nat.le_refl _)) (H.out.2.1.mono (Nat.le_refl _) MD46.out.1 (Nat.le_refl _)) HNE.out).mono ?_
  rintro e wh47 ⟨pa1, ja1, rfl, hP3, hJ3, hb⟩
  have MA48 : Hid (Below w.heap.size w wh47 ∧ Box wh47 (w.heap.size) 25 #[.slice pa v.n pc, .slice ja v.m jc] ∧ Box wh47 (w.heap.size + 1) 53 #[.int .i64 fp, .int .i64 fa, .int .i64 fw, .int .i64 lg, .slice ba nb bk] ∧ Box wh47 (w.heap.size + 1 + 1) 53 #[.int .i64 gp, .int .i64 ga, .int .i64 gw, .int .i64 gl, .slice ca mb ck] ∧ PsAt 0 wh47 pa1 v.n v.P ∧ JsAt 0 wh47 ja1 v.m v.J) := ⟨MD46.out.1.trans (hb.mono MD46.out.1.size), MD46.out.2.1.mono hb (Nat.le_refl _), MD46.out.2.2.1.mono hb (Nat.le_refl _), MD46.out.2.2.2.mono hb (Nat.le_refl _), hP3, hJ3⟩
  clear hb hP3 hJ3 MD46
  go_wp2_with fail
  refine hK.out _ _ ?_ (fun hHeld => ?_)
  · exact ⟨MA48.out.2.1.cell 0, MA48.out.2.1.cell 1, MA48.out.2.2.1.cell 0, MA48.out.2.2.1.cell 1, MA48.out.2.2.1.cell 2, MA48.out.2.2.1.cell 3, MA48.out.2.2.1.cell 4, MA48.out.2.2.2.1.cell 0, MA48.out.2.2.2.1.cell 1, MA48.out.2.2.2.1.cell 2, MA48.out.2.2.2.1.cell 3, MA48.out.2.2.2.1.cell 4⟩
  clear hK K
  refine rl 3 fun K hK => ?_
  go_simp
  refine (toTrain16 fp fa fw lg nb B ba bk _ hnb1 (H.out.2.2.1.mono (Nat.le_refl _) MA48.out.1 (Nat.le_refl _))).mono ?_
  rintro e wh49 ⟨bn, rfl, hB4, hb⟩
  have MA50 : Hid (Below w.heap.size w wh49 ∧ Box wh49 (w.heap.size) 25 #[.slice pa v.n pc, .slice ja v.m jc] ∧ Box wh49 (w.heap.size + 1) 53 #[.int .i64 fp, .int .i64 fa, .int .i64 fw, .int .i64 lg, .slice ba nb bk] ∧ Box wh49 (w.heap.size + 1 + 1) 53 #[.int .i64 gp, .int .i64 ga, .int .i64 gw, .int .i64 gl, .slice ca mb ck] ∧ PsAt 0 wh49 pa1 v.n v.P ∧ JsAt 0 wh49 ja1 v.m v.J ∧ NsAt 2 0 wh49 (some ⟨bn, 0, none⟩) nb B) := ⟨MA48.out.1.trans (hb.mono MA48.out.1.size), MA48.out.2.1.mono hb (Nat.le_refl _), MA48.out.2.2.1.mono hb (Nat.le_refl _), MA48.out.2.2.2.1.mono hb (Nat.le_refl _), MA48.out.2.2.2.2.1.mono (Nat.le_refl _) hb (Nat.le_refl _), MA48.out.2.2.2.2.2.mono (Nat.le_refl _) hb (Nat.le_refl _), (hB4.keep (Nat.zero_le _) (Nat.le_refl _) fun _ _ _ => rfl)⟩
  clear hb hB4 MA48
  go_wp2_with fail
  refine hK.out _ _ ?_ (fun hHeld => ?_)
  · exact ⟨MA50.out.2.1.cell 0, MA50.out.2.1.cell 1, MA50.out.2.2.1.cell 0, MA50.out.2.2.1.cell 1, MA50.out.2.2.1.cell 2, MA50.out.2.2.1.cell 3, MA50.out.2.2.1.cell 4, MA50.out.2.2.2.1.cell 0, MA50.out.2.2.2.1.cell 1, MA50.out.2.2.2.1.cell 2, MA50.out.2.2.2.1.cell 3, MA50.out.2.2.2.1.cell 4⟩
  clear hK K
  refine rl 5 fun K hK => ?_
  go_simp
  refine (toTrain16 gp ga gw gl mb C ca ck _ hmb1 (H.out.2.2.2.1.mono (Nat.le_refl _) MA50.out.1 (Nat.le_refl _))).mono ?_
  rintro e wh51 ⟨cn, rfl, hB4, hb⟩
  have MA52 : Hid (Below w.heap.size w wh51 ∧ Box wh51 (w.heap.size) 25 #[.slice pa v.n pc, .slice ja v.m jc] ∧ Box wh51 (w.heap.size + 1) 53 #[.int .i64 fp, .int .i64 fa, .int .i64 fw, .int .i64 lg, .slice ba nb bk] ∧ Box wh51 (w.heap.size + 1 + 1) 53 #[.int .i64 gp, .int .i64 ga, .int .i64 gw, .int .i64 gl, .slice ca mb ck] ∧ PsAt 0 wh51 pa1 v.n v.P ∧ JsAt 0 wh51 ja1 v.m v.J ∧ NsAt 2 0 wh51 (some ⟨bn, 0, none⟩) nb B ∧ NsAt 2 0 wh51 (some ⟨cn, 0, none⟩) mb C) := ⟨MA50.out.1.trans (hb.mono MA50.out.1.size), MA50.out.2.1.mono hb (Nat.le_refl _), MA50.out.2.2.1.mono hb (Nat.le_refl _), MA50.out.2.2.2.1.mono hb (Nat.le_refl _), MA50.out.2.2.2.2.1.mono (Nat.le_refl _) hb (Nat.le_refl _), MA50.out.2.2.2.2.2.1.mono (Nat.le_refl _) hb (Nat.le_refl _), MA50.out.2.2.2.2.2.2.mono (Nat.le_refl _) hb (Nat.le_refl _), (hB4.keep (Nat.zero_le _) (Nat.le_refl _) fun _ _ _ => rfl)⟩
  clear hb hB4 MA50
  go_wp2_with fail
  refine hK.out _ _ ?_ (fun hHeld => ?_)
  · exact ⟨MA52.out.2.1.cell 0, MA52.out.2.1.cell 1, MA52.out.2.2.1.cell 0, MA52.out.2.2.1.cell 1, MA52.out.2.2.1.cell 2, MA52.out.2.2.1.cell 3, MA52.out.2.2.1.cell 4, MA52.out.2.2.2.1.cell 0, MA52.out.2.2.2.1.cell 1, MA52.out.2.2.2.1.cell 2, MA52.out.2.2.2.1.cell 3, MA52.out.2.2.2.1.cell 4⟩
  clear hK K
  refine rl 6 fun K hK => ?_
  go_simp
  refine (specMeet20 pa1 v.n ja1 v.m fp fa fw lg nb B (some ⟨bn, 0, none⟩) nb gp ga gw gl mb C (some ⟨cn, 0, none⟩) mb _ hn1 hm1 hnb1 hmb1 MA52.out.2.2.2.2.1 MA52.out.2.2.2.2.2.1 H.out.2.2.2.2.1 HNE2.out MA52.out.2.2.2.2.2.2.1 MA52.out.2.2.2.2.2.2.2).mono ?_
  rintro e wh53 ⟨t, rfl, ht, hb⟩
  have HT : Hid (t = true ↔ meQ v fp fa fw lg nb B gp ga gw gl mb C) := ht
  clear ht
  have MA54 : Hid (Below w.heap.size w wh53 ∧ Box wh53 (w.heap.size) 25 #[.slice pa v.n pc, .slice ja v.m jc] ∧ Box wh53 (w.heap.size + 1) 53 #[.int .i64 fp, .int .i64 fa, .int .i64 fw, .int .i64 lg, .slice ba nb bk] ∧ Box wh53 (w.heap.size + 1 + 1) 53 #[.int .i64 gp, .int .i64 ga, .int .i64 gw, .int .i64 gl, .slice ca mb ck]) := ⟨MA52.out.1.trans (hb.mono MA52.out.1.size), MA52.out.2.1.mono hb (Nat.le_refl _), MA52.out.2.2.1.mono hb (Nat.le_refl _), MA52.out.2.2.2.1.mono hb (Nat.le_refl _)⟩
  clear hb MA52
  go_wp2_with fail
  refine hK.out _ _ ?_ (fun hHeld => ?_)
  · exact ⟨MA54.out.2.1.cell 0, MA54.out.2.1.cell 1, MA54.out.2.2.1.cell 0, MA54.out.2.2.1.cell 1, MA54.out.2.2.1.cell 2, MA54.out.2.2.1.cell 3, MA54.out.2.2.1.cell 4, MA54.out.2.2.2.cell 0, MA54.out.2.2.2.cell 1, MA54.out.2.2.2.cell 2, MA54.out.2.2.2.cell 3, MA54.out.2.2.2.cell 4⟩
  clear hK K
  refine tk 7 ?_
  refine wpAnyH_done (by kernel_rfl) ?_ _
  clear hHeld
  have x0 : wh53.cell? ⟨w.heap.size, 0, none⟩ = some (.slice pa v.n pc) := MA54.out.2.1.cell 0
  have x1 : wh53.cell? ⟨w.heap.size, 1, none⟩ = some (.slice ja v.m jc) := MA54.out.2.1.cell 1
  have y0 : wh53.cell? ⟨w.heap.size + 1, 0, none⟩ = some (.int .i64 fp) := MA54.out.2.2.1.cell 0
  have y1 : wh53.cell? ⟨w.heap.size + 1, 1, none⟩ = some (.int .i64 fa) := MA54.out.2.2.1.cell 1
  have y2 : wh53.cell? ⟨w.heap.size + 1, 2, none⟩ = some (.int .i64 fw) := MA54.out.2.2.1.cell 2
  have y3 : wh53.cell? ⟨w.heap.size + 1, 3, none⟩ = some (.int .i64 lg) := MA54.out.2.2.1.cell 3
  have y4 : wh53.cell? ⟨w.heap.size + 1, 4, none⟩ = some (.slice ba nb bk) := MA54.out.2.2.1.cell 4
  have z0 : wh53.cell? ⟨w.heap.size + 1 + 1, 0, none⟩ = some (.int .i64 gp) := MA54.out.2.2.2.cell 0
  have z1 : wh53.cell? ⟨w.heap.size + 1 + 1, 1, none⟩ = some (.int .i64 ga) := MA54.out.2.2.2.cell 1
  have z2 : wh53.cell? ⟨w.heap.size + 1 + 1, 2, none⟩ = some (.int .i64 gw) := MA54.out.2.2.2.cell 2
  have z3 : wh53.cell? ⟨w.heap.size + 1 + 1, 3, none⟩ = some (.int .i64 gl) := MA54.out.2.2.2.cell 3
  have z4 : wh53.cell? ⟨w.heap.size + 1 + 1, 4, none⟩ = some (.slice ca mb ck) := MA54.out.2.2.2.cell 4
  go_wp2_with fail
  clear x0 x1 y0 y1 y2 y3 y4 z0 z1 z2 z3 z4
  refine (toNetR pa pc ja jc _ hn1 hm1 (H.out.1.mono (Nat.le_refl _) MA54.out.1 (Nat.le_refl _)) (H.out.2.1.mono (Nat.le_refl _) MA54.out.1 (Nat.le_refl _)) HNE.out).mono ?_
  rintro e wh55 ⟨pa2, ja2, rfl, hP3, hJ3, hb⟩
  have MA56 : Hid (Below w.heap.size w wh55 ∧ Box wh55 (w.heap.size) 25 #[.slice pa v.n pc, .slice ja v.m jc] ∧ Box wh55 (w.heap.size + 1) 53 #[.int .i64 fp, .int .i64 fa, .int .i64 fw, .int .i64 lg, .slice ba nb bk] ∧ Box wh55 (w.heap.size + 1 + 1) 53 #[.int .i64 gp, .int .i64 ga, .int .i64 gw, .int .i64 gl, .slice ca mb ck] ∧ PsAt 0 wh55 pa2 v.n v.P ∧ JsAt 0 wh55 ja2 v.m v.J) := ⟨MA54.out.1.trans (hb.mono MA54.out.1.size), MA54.out.2.1.mono hb (Nat.le_refl _), MA54.out.2.2.1.mono hb (Nat.le_refl _), MA54.out.2.2.2.mono hb (Nat.le_refl _), hP3, hJ3⟩
  clear hb hP3 hJ3 MA54
  have MA57 : Hid (Below w.heap.size w (wh55.alloc (.cells #[.slice pa2 v.n v.n, .slice ja2 v.m v.m] 40)) ∧ Box (wh55.alloc (.cells #[.slice pa2 v.n v.n, .slice ja2 v.m v.m] 40)) (w.heap.size) 25 #[.slice pa v.n pc, .slice ja v.m jc] ∧ Box (wh55.alloc (.cells #[.slice pa2 v.n v.n, .slice ja2 v.m v.m] 40)) (w.heap.size + 1) 53 #[.int .i64 fp, .int .i64 fa, .int .i64 fw, .int .i64 lg, .slice ba nb bk] ∧ Box (wh55.alloc (.cells #[.slice pa2 v.n v.n, .slice ja2 v.m v.m] 40)) (w.heap.size + 1 + 1) 53 #[.int .i64 gp, .int .i64 ga, .int .i64 gw, .int .i64 gl, .slice ca mb ck] ∧ PsAt 0 (wh55.alloc (.cells #[.slice pa2 v.n v.n, .slice ja2 v.m v.m] 40)) pa2 v.n v.P ∧ JsAt 0 (wh55.alloc (.cells #[.slice pa2 v.n v.n, .slice ja2 v.m v.m] 40)) ja2 v.m v.J ∧ Box (wh55.alloc (.cells #[.slice pa2 v.n v.n, .slice ja2 v.m v.m] 40)) (wh55.heap.size) 40 #[.slice pa2 v.n v.n, .slice ja2 v.m v.m]) := ⟨MA56.out.1.alloc MA56.out.1.size _, MA56.out.2.1.alloc _, MA56.out.2.2.1.alloc _, MA56.out.2.2.2.1.alloc _, MA56.out.2.2.2.2.1.mono (Nat.le_refl _) (bel1 _ _) (Nat.le_refl _), MA56.out.2.2.2.2.2.mono (Nat.le_refl _) (bel1 _ _) (Nat.le_refl _), Box.new _ _ _⟩
  have HL58 : Hid (w.heap.size ≤ wh55.heap.size) := MA56.out.1.size
  go_upto_region 13 with fail
  clear MA56
  generalize wh55.alloc (.cells #[.slice pa2 v.n v.n, .slice ja2 v.m v.m] 40) = V8 at MA57 ⊢
  generalize wh55.heap.size = xb at MA57 HL58 ⊢
  have x0 : V8.cell? ⟨w.heap.size, 0, none⟩ = some (.slice pa v.n pc) := MA57.out.2.1.cell 0
  have x1 : V8.cell? ⟨w.heap.size, 1, none⟩ = some (.slice ja v.m jc) := MA57.out.2.1.cell 1
  have y0 : V8.cell? ⟨w.heap.size + 1, 0, none⟩ = some (.int .i64 fp) := MA57.out.2.2.1.cell 0
  have y1 : V8.cell? ⟨w.heap.size + 1, 1, none⟩ = some (.int .i64 fa) := MA57.out.2.2.1.cell 1
  have y2 : V8.cell? ⟨w.heap.size + 1, 2, none⟩ = some (.int .i64 fw) := MA57.out.2.2.1.cell 2
  have y3 : V8.cell? ⟨w.heap.size + 1, 3, none⟩ = some (.int .i64 lg) := MA57.out.2.2.1.cell 3
  have y4 : V8.cell? ⟨w.heap.size + 1, 4, none⟩ = some (.slice ba nb bk) := MA57.out.2.2.1.cell 4
  have z0 : V8.cell? ⟨w.heap.size + 1 + 1, 0, none⟩ = some (.int .i64 gp) := MA57.out.2.2.2.1.cell 0
  have z1 : V8.cell? ⟨w.heap.size + 1 + 1, 1, none⟩ = some (.int .i64 ga) := MA57.out.2.2.2.1.cell 1
  have z2 : V8.cell? ⟨w.heap.size + 1 + 1, 2, none⟩ = some (.int .i64 gw) := MA57.out.2.2.2.1.cell 2
  have z3 : V8.cell? ⟨w.heap.size + 1 + 1, 3, none⟩ = some (.int .i64 gl) := MA57.out.2.2.2.1.cell 3
  have z4 : V8.cell? ⟨w.heap.size + 1 + 1, 4, none⟩ = some (.slice ca mb ck) := MA57.out.2.2.2.1.cell 4
  go_wp2_with fail
  clear x0 x1 y0 y1 y2 y3 y4 z0 z1 z2 z3 z4
  refine (toTrain16 fp fa fw lg nb B ba bk _ hnb1 (H.out.2.2.1.mono (Nat.le_refl _) MA57.out.1 (Nat.le_refl _))).mono ?_
  rintro e wh59 ⟨bq, rfl, hB4, hb⟩
  have MA60 : Hid (Below w.heap.size w wh59 ∧ Box wh59 (w.heap.size) 25 #[.slice pa v.n pc, .slice ja v.m jc] ∧ Box wh59 (w.heap.size + 1) 53 #[.int .i64 fp, .int .i64 fa, .int .i64 fw, .int .i64 lg, .slice ba nb bk] ∧ Box wh59 (w.heap.size + 1 + 1) 53 #[.int .i64 gp, .int .i64 ga, .int .i64 gw, .int .i64 gl, .slice ca mb ck] ∧ PsAt 0 wh59 pa2 v.n v.P ∧ JsAt 0 wh59 ja2 v.m v.J ∧ Box wh59 (xb) 40 #[.slice pa2 v.n v.n, .slice ja2 v.m v.m] ∧ NsAt 2 0 wh59 (some ⟨bq, 0, none⟩) nb B) := ⟨MA57.out.1.trans (hb.mono MA57.out.1.size), MA57.out.2.1.mono hb (Nat.le_refl _), MA57.out.2.2.1.mono hb (Nat.le_refl _), MA57.out.2.2.2.1.mono hb (Nat.le_refl _), MA57.out.2.2.2.2.1.mono (Nat.le_refl _) hb (Nat.le_refl _), MA57.out.2.2.2.2.2.1.mono (Nat.le_refl _) hb (Nat.le_refl _), MA57.out.2.2.2.2.2.2.mono hb (Nat.le_refl _), (hB4.keep (Nat.zero_le _) (Nat.le_refl _) fun _ _ _ => rfl)⟩
  clear hb hB4 MA57
  have MA61 : Hid (Below w.heap.size w (wh59.alloc (.cells #[.int .i64 fp, .int .i64 fa, .int .i64 fw, .int .i64 lg, .slice (some ⟨bq, 0, none⟩) nb nb] 33)) ∧ Box (wh59.alloc (.cells #[.int .i64 fp, .int .i64 fa, .int .i64 fw, .int .i64 lg, .slice (some ⟨bq, 0, none⟩) nb nb] 33)) (w.heap.size) 25 #[.slice pa v.n pc, .slice ja v.m jc] ∧ Box (wh59.alloc (.cells #[.int .i64 fp, .int .i64 fa, .int .i64 fw, .int .i64 lg, .slice (some ⟨bq, 0, none⟩) nb nb] 33)) (w.heap.size + 1) 53 #[.int .i64 fp, .int .i64 fa, .int .i64 fw, .int .i64 lg, .slice ba nb bk] ∧ Box (wh59.alloc (.cells #[.int .i64 fp, .int .i64 fa, .int .i64 fw, .int .i64 lg, .slice (some ⟨bq, 0, none⟩) nb nb] 33)) (w.heap.size + 1 + 1) 53 #[.int .i64 gp, .int .i64 ga, .int .i64 gw, .int .i64 gl, .slice ca mb ck] ∧ PsAt 0 (wh59.alloc (.cells #[.int .i64 fp, .int .i64 fa, .int .i64 fw, .int .i64 lg, .slice (some ⟨bq, 0, none⟩) nb nb] 33)) pa2 v.n v.P ∧ JsAt 0 (wh59.alloc (.cells #[.int .i64 fp, .int .i64 fa, .int .i64 fw, .int .i64 lg, .slice (some ⟨bq, 0, none⟩) nb nb] 33)) ja2 v.m v.J ∧ Box (wh59.alloc (.cells #[.int .i64 fp, .int .i64 fa, .int .i64 fw, .int .i64 lg, .slice (some ⟨bq, 0, none⟩) nb nb] 33)) (xb) 40 #[.slice pa2 v.n v.n, .slice ja2 v.m v.m] ∧ NsAt 2 0 (wh59.alloc (.cells #[.int .i64 fp, .int .i64 fa, .int .i64 fw, .int .i64 lg, .slice (some ⟨bq, 0, none⟩) nb nb] 33)) (some ⟨bq, 0, none⟩) nb B ∧ Box (wh59.alloc (.cells #[.int .i64 fp, .int .i64 fa, .int .i64 fw, .int .i64 lg, .slice (some ⟨bq, 0, none⟩) nb nb] 33)) (wh59.heap.size) 33 #[.int .i64 fp, .int .i64 fa, .int .i64 fw, .int .i64 lg, .slice (some ⟨bq, 0, none⟩) nb nb]) := ⟨MA60.out.1.alloc MA60.out.1.size _, MA60.out.2.1.alloc _, MA60.out.2.2.1.alloc _, MA60.out.2.2.2.1.alloc _, MA60.out.2.2.2.2.1.mono (Nat.le_refl _) (bel1 _ _) (Nat.le_refl _), MA60.out.2.2.2.2.2.1.mono (Nat.le_refl _) (bel1 _ _) (Nat.le_refl _), MA60.out.2.2.2.2.2.2.1.alloc _, MA60.out.2.2.2.2.2.2.2.mono (Nat.le_refl _) (bel1 _ _) (Nat.le_refl _), Box.new _ _ _⟩
  have HL62 : Hid (w.heap.size ≤ wh59.heap.size) := MA60.out.1.size
  go_upto_region 14 with fail
  clear MA60
  generalize wh59.alloc (.cells #[.int .i64 fp, .int .i64 fa, .int .i64 fw, .int .i64 lg, .slice (some ⟨bq, 0, none⟩) nb nb] 33) = V9 at MA61 ⊢
  generalize wh59.heap.size = yb at MA61 HL62 ⊢
  have x0 : V9.cell? ⟨w.heap.size, 0, none⟩ = some (.slice pa v.n pc) := MA61.out.2.1.cell 0
  have x1 : V9.cell? ⟨w.heap.size, 1, none⟩ = some (.slice ja v.m jc) := MA61.out.2.1.cell 1
  have y0 : V9.cell? ⟨w.heap.size + 1, 0, none⟩ = some (.int .i64 fp) := MA61.out.2.2.1.cell 0
  have y1 : V9.cell? ⟨w.heap.size + 1, 1, none⟩ = some (.int .i64 fa) := MA61.out.2.2.1.cell 1
  have y2 : V9.cell? ⟨w.heap.size + 1, 2, none⟩ = some (.int .i64 fw) := MA61.out.2.2.1.cell 2
  have y3 : V9.cell? ⟨w.heap.size + 1, 3, none⟩ = some (.int .i64 lg) := MA61.out.2.2.1.cell 3
  have y4 : V9.cell? ⟨w.heap.size + 1, 4, none⟩ = some (.slice ba nb bk) := MA61.out.2.2.1.cell 4
  have z0 : V9.cell? ⟨w.heap.size + 1 + 1, 0, none⟩ = some (.int .i64 gp) := MA61.out.2.2.2.1.cell 0
  have z1 : V9.cell? ⟨w.heap.size + 1 + 1, 1, none⟩ = some (.int .i64 ga) := MA61.out.2.2.2.1.cell 1
  have z2 : V9.cell? ⟨w.heap.size + 1 + 1, 2, none⟩ = some (.int .i64 gw) := MA61.out.2.2.2.1.cell 2
  have z3 : V9.cell? ⟨w.heap.size + 1 + 1, 3, none⟩ = some (.int .i64 gl) := MA61.out.2.2.2.1.cell 3
  have z4 : V9.cell? ⟨w.heap.size + 1 + 1, 4, none⟩ = some (.slice ca mb ck) := MA61.out.2.2.2.1.cell 4
  go_wp2_with fail
  clear x0 x1 y0 y1 y2 y3 y4 z0 z1 z2 z3 z4
  refine (toTrain16 gp ga gw gl mb C ca ck _ hmb1 (H.out.2.2.2.1.mono (Nat.le_refl _) MA61.out.1 (Nat.le_refl _))).mono ?_
  rintro e wh63 ⟨cq, rfl, hB4, hb⟩
  have MA64 : Hid (Below w.heap.size w wh63 ∧ Box wh63 (w.heap.size) 25 #[.slice pa v.n pc, .slice ja v.m jc] ∧ Box wh63 (w.heap.size + 1) 53 #[.int .i64 fp, .int .i64 fa, .int .i64 fw, .int .i64 lg, .slice ba nb bk] ∧ Box wh63 (w.heap.size + 1 + 1) 53 #[.int .i64 gp, .int .i64 ga, .int .i64 gw, .int .i64 gl, .slice ca mb ck] ∧ PsAt 0 wh63 pa2 v.n v.P ∧ JsAt 0 wh63 ja2 v.m v.J ∧ Box wh63 (xb) 40 #[.slice pa2 v.n v.n, .slice ja2 v.m v.m] ∧ NsAt 2 0 wh63 (some ⟨bq, 0, none⟩) nb B ∧ Box wh63 (yb) 33 #[.int .i64 fp, .int .i64 fa, .int .i64 fw, .int .i64 lg, .slice (some ⟨bq, 0, none⟩) nb nb] ∧ NsAt 2 0 wh63 (some ⟨cq, 0, none⟩) mb C) := ⟨MA61.out.1.trans (hb.mono MA61.out.1.size), MA61.out.2.1.mono hb (Nat.le_refl _), MA61.out.2.2.1.mono hb (Nat.le_refl _), MA61.out.2.2.2.1.mono hb (Nat.le_refl _), MA61.out.2.2.2.2.1.mono (Nat.le_refl _) hb (Nat.le_refl _), MA61.out.2.2.2.2.2.1.mono (Nat.le_refl _) hb (Nat.le_refl _), MA61.out.2.2.2.2.2.2.1.mono hb (Nat.le_refl _), MA61.out.2.2.2.2.2.2.2.1.mono (Nat.le_refl _) hb (Nat.le_refl _), MA61.out.2.2.2.2.2.2.2.2.mono hb (Nat.le_refl _), (hB4.keep (Nat.zero_le _) (Nat.le_refl _) fun _ _ _ => rfl)⟩
  clear hb hB4 MA61
  have MA65 : Hid (Below w.heap.size w (wh63.alloc (.cells #[.int .i64 gp, .int .i64 ga, .int .i64 gw, .int .i64 gl, .slice (some ⟨cq, 0, none⟩) mb mb] 33)) ∧ Box (wh63.alloc (.cells #[.int .i64 gp, .int .i64 ga, .int .i64 gw, .int .i64 gl, .slice (some ⟨cq, 0, none⟩) mb mb] 33)) (w.heap.size) 25 #[.slice pa v.n pc, .slice ja v.m jc] ∧ Box (wh63.alloc (.cells #[.int .i64 gp, .int .i64 ga, .int .i64 gw, .int .i64 gl, .slice (some ⟨cq, 0, none⟩) mb mb] 33)) (w.heap.size + 1) 53 #[.int .i64 fp, .int .i64 fa, .int .i64 fw, .int .i64 lg, .slice ba nb bk] ∧ Box (wh63.alloc (.cells #[.int .i64 gp, .int .i64 ga, .int .i64 gw, .int .i64 gl, .slice (some ⟨cq, 0, none⟩) mb mb] 33)) (w.heap.size + 1 + 1) 53 #[.int .i64 gp, .int .i64 ga, .int .i64 gw, .int .i64 gl, .slice ca mb ck] ∧ PsAt 0 (wh63.alloc (.cells #[.int .i64 gp, .int .i64 ga, .int .i64 gw, .int .i64 gl, .slice (some ⟨cq, 0, none⟩) mb mb] 33)) pa2 v.n v.P ∧ JsAt 0 (wh63.alloc (.cells #[.int .i64 gp, .int .i64 ga, .int .i64 gw, .int .i64 gl, .slice (some ⟨cq, 0, none⟩) mb mb] 33)) ja2 v.m v.J ∧ Box (wh63.alloc (.cells #[.int .i64 gp, .int .i64 ga, .int .i64 gw, .int .i64 gl, .slice (some ⟨cq, 0, none⟩) mb mb] 33)) (xb) 40 #[.slice pa2 v.n v.n, .slice ja2 v.m v.m] ∧ NsAt 2 0 (wh63.alloc (.cells #[.int .i64 gp, .int .i64 ga, .int .i64 gw, .int .i64 gl, .slice (some ⟨cq, 0, none⟩) mb mb] 33)) (some ⟨bq, 0, none⟩) nb B ∧ Box (wh63.alloc (.cells #[.int .i64 gp, .int .i64 ga, .int .i64 gw, .int .i64 gl, .slice (some ⟨cq, 0, none⟩) mb mb] 33)) (yb) 33 #[.int .i64 fp, .int .i64 fa, .int .i64 fw, .int .i64 lg, .slice (some ⟨bq, 0, none⟩) nb nb] ∧ NsAt 2 0 (wh63.alloc (.cells #[.int .i64 gp, .int .i64 ga, .int .i64 gw, .int .i64 gl, .slice (some ⟨cq, 0, none⟩) mb mb] 33)) (some ⟨cq, 0, none⟩) mb C ∧ Box (wh63.alloc (.cells #[.int .i64 gp, .int .i64 ga, .int .i64 gw, .int .i64 gl, .slice (some ⟨cq, 0, none⟩) mb mb] 33)) (wh63.heap.size) 33 #[.int .i64 gp, .int .i64 ga, .int .i64 gw, .int .i64 gl, .slice (some ⟨cq, 0, none⟩) mb mb]) := ⟨MA64.out.1.alloc MA64.out.1.size _, MA64.out.2.1.alloc _, MA64.out.2.2.1.alloc _, MA64.out.2.2.2.1.alloc _, MA64.out.2.2.2.2.1.mono (Nat.le_refl _) (bel1 _ _) (Nat.le_refl _), MA64.out.2.2.2.2.2.1.mono (Nat.le_refl _) (bel1 _ _) (Nat.le_refl _), MA64.out.2.2.2.2.2.2.1.alloc _, MA64.out.2.2.2.2.2.2.2.1.mono (Nat.le_refl _) (bel1 _ _) (Nat.le_refl _), MA64.out.2.2.2.2.2.2.2.2.1.alloc _, MA64.out.2.2.2.2.2.2.2.2.2.mono (Nat.le_refl _) (bel1 _ _) (Nat.le_refl _), Box.new _ _ _⟩
  have HL66 : Hid (w.heap.size ≤ wh63.heap.size) := MA64.out.1.size
  have HE67 : Hid (yb ≠ wh63.heap.size) := by have h9 := MA64.out.2.2.2.2.2.2.2.2.1.lt; show _ ≠ _; omega
  go_upto_region 15 with fail
  clear MA64
  generalize wh63.alloc (.cells #[.int .i64 gp, .int .i64 ga, .int .i64 gw, .int .i64 gl, .slice (some ⟨cq, 0, none⟩) mb mb] 33) = V10 at MA65 ⊢
  generalize wh63.heap.size = zb at MA65 HL66 HE67 ⊢
  have x0 : V10.cell? ⟨xb, 0, none⟩ = some (.slice pa2 v.n v.n) := MA65.out.2.2.2.2.2.2.1.cell 0
  have x1 : V10.cell? ⟨xb, 1, none⟩ = some (.slice ja2 v.m v.m) := MA65.out.2.2.2.2.2.2.1.cell 1
  have y0 : V10.cell? ⟨yb, 0, none⟩ = some (.int .i64 fp) := MA65.out.2.2.2.2.2.2.2.2.1.cell 0
  have y1 : V10.cell? ⟨yb, 1, none⟩ = some (.int .i64 fa) := MA65.out.2.2.2.2.2.2.2.2.1.cell 1
  have y2 : V10.cell? ⟨yb, 2, none⟩ = some (.int .i64 fw) := MA65.out.2.2.2.2.2.2.2.2.1.cell 2
  have y3 : V10.cell? ⟨yb, 3, none⟩ = some (.int .i64 lg) := MA65.out.2.2.2.2.2.2.2.2.1.cell 3
  have y4 : V10.cell? ⟨yb, 4, none⟩ = some (.slice (some ⟨bq, 0, none⟩) nb nb) := MA65.out.2.2.2.2.2.2.2.2.1.cell 4
  have z0 : V10.cell? ⟨zb, 0, none⟩ = some (.int .i64 gp) := MA65.out.2.2.2.2.2.2.2.2.2.2.cell 0
  have z1 : V10.cell? ⟨zb, 1, none⟩ = some (.int .i64 ga) := MA65.out.2.2.2.2.2.2.2.2.2.2.cell 1
  have z2 : V10.cell? ⟨zb, 2, none⟩ = some (.int .i64 gw) := MA65.out.2.2.2.2.2.2.2.2.2.2.cell 2
  have z3 : V10.cell? ⟨zb, 3, none⟩ = some (.int .i64 gl) := MA65.out.2.2.2.2.2.2.2.2.2.2.cell 3
  have z4 : V10.cell? ⟨zb, 4, none⟩ = some (.slice (some ⟨cq, 0, none⟩) mb mb) := MA65.out.2.2.2.2.2.2.2.2.2.2.cell 4
  go_wp2_with fail
  clear x0 x1 y0 y1 y2 y3 y4 z0 z1 z2 z3 z4
  refine (implMeet22 pa2 v.n ja2 v.m fp fa fw lg nb B bq 0 nb gp ga gw gl mb C cq 0 mb V10 hn1 hm1 hnb1 hmb1 (Nat.le_refl _) hn (Nat.le_refl _) hm MA65.out.2.2.2.2.1 MA65.out.2.2.2.2.2.1 H.out.2.2.2.2.1 HNE2.out MA65.out.2.2.2.2.2.2.2.1 MA65.out.2.2.2.2.2.2.2.2.2.1).mono ?_
  rintro e w11 ⟨t', rfl, ht', hb⟩
  have hte : t' = t := Bool.eq_iff_iff.mpr (ht'.trans HT.out.symm)
  subst hte
  clear ht' HT
  have MA68 : Hid (Below w.heap.size w w11 ∧ Box w11 (w.heap.size) 25 #[.slice pa v.n pc, .slice ja v.m jc] ∧ Box w11 (w.heap.size + 1) 53 #[.int .i64 fp, .int .i64 fa, .int .i64 fw, .int .i64 lg, .slice ba nb bk] ∧ Box w11 (w.heap.size + 1 + 1) 53 #[.int .i64 gp, .int .i64 ga, .int .i64 gw, .int .i64 gl, .slice ca mb ck] ∧ PsAt 0 w11 pa2 v.n v.P ∧ JsAt 0 w11 ja2 v.m v.J ∧ Box w11 (xb) 40 #[.slice pa2 v.n v.n, .slice ja2 v.m v.m] ∧ NsAt 2 0 w11 (some ⟨bq, 0, none⟩) nb B ∧ Box w11 (yb) 33 #[.int .i64 fp, .int .i64 fa, .int .i64 fw, .int .i64 lg, .slice (some ⟨bq, 0, none⟩) nb nb] ∧ NsAt 2 0 w11 (some ⟨cq, 0, none⟩) mb C ∧ Box w11 (zb) 33 #[.int .i64 gp, .int .i64 ga, .int .i64 gw, .int .i64 gl, .slice (some ⟨cq, 0, none⟩) mb mb]) := ⟨MA65.out.1.trans (hb.mono MA65.out.1.size), MA65.out.2.1.mono hb (Nat.le_refl _), MA65.out.2.2.1.mono hb (Nat.le_refl _), MA65.out.2.2.2.1.mono hb (Nat.le_refl _), MA65.out.2.2.2.2.1.mono (Nat.le_refl _) hb (Nat.le_refl _), MA65.out.2.2.2.2.2.1.mono (Nat.le_refl _) hb (Nat.le_refl _), MA65.out.2.2.2.2.2.2.1.mono hb (Nat.le_refl _), MA65.out.2.2.2.2.2.2.2.1.mono (Nat.le_refl _) hb (Nat.le_refl _), MA65.out.2.2.2.2.2.2.2.2.1.mono hb (Nat.le_refl _), MA65.out.2.2.2.2.2.2.2.2.2.1.mono (Nat.le_refl _) hb (Nat.le_refl _), MA65.out.2.2.2.2.2.2.2.2.2.2.mono hb (Nat.le_refl _)⟩
  clear hb MA65
  have htt : (t' != t') = false := by simp
  go_upto_region 18 with fail
  have x0 : w11.cell? ⟨w.heap.size, 0, none⟩ = some (.slice pa v.n pc) := MA68.out.2.1.cell 0
  have x1 : w11.cell? ⟨w.heap.size, 1, none⟩ = some (.slice ja v.m jc) := MA68.out.2.1.cell 1
  have y0 : w11.cell? ⟨xb, 0, none⟩ = some (.slice pa2 v.n v.n) := MA68.out.2.2.2.2.2.2.1.cell 0
  have y1 : w11.cell? ⟨xb, 1, none⟩ = some (.slice ja2 v.m v.m) := MA68.out.2.2.2.2.2.2.1.cell 1
  go_wp2_with fail
  refine wp_region_held_drew (S := (fun wx : World => wx.cell? ⟨w.heap.size, 0, none⟩ = some (.slice pa v.n pc) ∧ wx.cell? ⟨w.heap.size, 1, none⟩ = some (.slice ja v.m jc) ∧ wx.cell? ⟨xb, 0, none⟩ = some (.slice pa2 v.n v.n) ∧ wx.cell? ⟨xb, 1, none⟩ = some (.slice ja2 v.m v.m))) (by kernel_rfl) ?_ (fun hHeld => ?_)
  · exact ⟨x0, x1, y0, y1⟩
  have MD69 : Hid (Below w.heap.size w w11.drew ∧ Box w11.drew (w.heap.size) 25 #[.slice pa v.n pc, .slice ja v.m jc] ∧ Box w11.drew (w.heap.size + 1) 53 #[.int .i64 fp, .int .i64 fa, .int .i64 fw, .int .i64 lg, .slice ba nb bk] ∧ Box w11.drew (w.heap.size + 1 + 1) 53 #[.int .i64 gp, .int .i64 ga, .int .i64 gw, .int .i64 gl, .slice ca mb ck] ∧ PsAt 0 w11.drew pa2 v.n v.P ∧ JsAt 0 w11.drew ja2 v.m v.J ∧ Box w11.drew (xb) 40 #[.slice pa2 v.n v.n, .slice ja2 v.m v.m] ∧ NsAt 2 0 w11.drew (some ⟨bq, 0, none⟩) nb B ∧ Box w11.drew (yb) 33 #[.int .i64 fp, .int .i64 fa, .int .i64 fw, .int .i64 lg, .slice (some ⟨bq, 0, none⟩) nb nb] ∧ NsAt 2 0 w11.drew (some ⟨cq, 0, none⟩) mb C ∧ Box w11.drew (zb) 33 #[.int .i64 gp, .int .i64 ga, .int .i64 gw, .int .i64 gl, .slice (some ⟨cq, 0, none⟩) mb mb]) := ⟨MA68.out.1.drew, MA68.out.2.1.drew, MA68.out.2.2.1.drew, MA68.out.2.2.2.1.drew, MA68.out.2.2.2.2.1.mono (Nat.le_refl _) (Below.refl _ _).drew (Nat.le_refl _), MA68.out.2.2.2.2.2.1.mono (Nat.le_refl _) (Below.refl _ _).drew (Nat.le_refl _), MA68.out.2.2.2.2.2.2.1.drew, MA68.out.2.2.2.2.2.2.2.1.mono (Nat.le_refl _) (Below.refl _ _).drew (Nat.le_refl _), MA68.out.2.2.2.2.2.2.2.2.1.drew, MA68.out.2.2.2.2.2.2.2.2.2.1.mono (Nat.le_refl _) (Below.refl _ _).drew (Nat.le_refl _), MA68.out.2.2.2.2.2.2.2.2.2.2.drew⟩
  clear x0 x1 y0 y1 MA68
  generalize w11.drew = VD6 at MD69 hHeld ⊢
  refine tk 0 ?_
  refine tk 1 ?_
  refine rl 2 fun K hK => ?_
  go_simp
  refine (toNetR pa pc ja jc _ hn1 hm1 (H.out.1.mono (Nat.le_refl _) MD69.out.1 (Nat.le_refl _)) (H.out.2.1.mono (Nat.le_refl _) MD69.out.1 (Nat.le_refl _)) HNE.out).mono ?_
  rintro e wh70 ⟨pa3, ja3, rfl, hP3, hJ3, hb⟩
  have MA71 : Hid (Below w.heap.size w wh70 ∧ Box wh70 (w.heap.size) 25 #[.slice pa v.n pc, .slice ja v.m jc] ∧ Box wh70 (w.heap.size + 1) 53 #[.int .i64 fp, .int .i64 fa, .int .i64 fw, .int .i64 lg, .slice ba nb bk] ∧ Box wh70 (w.heap.size + 1 + 1) 53 #[.int .i64 gp, .int .i64 ga, .int .i64 gw, .int .i64 gl, .slice ca mb ck] ∧ PsAt 0 wh70 pa2 v.n v.P ∧ JsAt 0 wh70 ja2 v.m v.J ∧ Box wh70 (xb) 40 #[.slice pa2 v.n v.n, .slice ja2 v.m v.m] ∧ NsAt 2 0 wh70 (some ⟨bq, 0, none⟩) nb B ∧ Box wh70 (yb) 33 #[.int .i64 fp, .int .i64 fa, .int .i64 fw, .int .i64 lg, .slice (some ⟨bq, 0, none⟩) nb nb] ∧ NsAt 2 0 wh70 (some ⟨cq, 0, none⟩) mb C ∧ Box wh70 (zb) 33 #[.int .i64 gp, .int .i64 ga, .int .i64 gw, .int .i64 gl, .slice (some ⟨cq, 0, none⟩) mb mb] ∧ PsAt 0 wh70 pa3 v.n v.P ∧ JsAt 0 wh70 ja3 v.m v.J) := ⟨MD69.out.1.trans (hb.mono MD69.out.1.size), MD69.out.2.1.mono hb (Nat.le_refl _), MD69.out.2.2.1.mono hb (Nat.le_refl _), MD69.out.2.2.2.1.mono hb (Nat.le_refl _), MD69.out.2.2.2.2.1.mono (Nat.le_refl _) hb (Nat.le_refl _), MD69.out.2.2.2.2.2.1.mono (Nat.le_refl _) hb (Nat.le_refl _), MD69.out.2.2.2.2.2.2.1.mono hb (Nat.le_refl _), MD69.out.2.2.2.2.2.2.2.1.mono (Nat.le_refl _) hb (Nat.le_refl _), MD69.out.2.2.2.2.2.2.2.2.1.mono hb (Nat.le_refl _), MD69.out.2.2.2.2.2.2.2.2.2.1.mono (Nat.le_refl _) hb (Nat.le_refl _), MD69.out.2.2.2.2.2.2.2.2.2.2.mono hb (Nat.le_refl _), hP3, hJ3⟩
  clear hb hP3 hJ3 MD69
  go_wp2_with fail
  refine hK.out _ _ ?_ (fun hHeld => ?_)
  · exact ⟨MA71.out.2.1.cell 0, MA71.out.2.1.cell 1, MA71.out.2.2.2.2.2.2.1.cell 0, MA71.out.2.2.2.2.2.2.1.cell 1⟩
  clear hK K
  refine rl 3 fun K hK => ?_
  go_simp
  refine (eqNet10 pa2 pa3 v.n v.n v.n v.P ja2 ja3 v.m v.m v.m v.J _ hn1 hm1 MA71.out.2.2.2.2.1 MA71.out.2.2.2.2.2.2.2.2.2.2.2.1 MA71.out.2.2.2.2.2.1 MA71.out.2.2.2.2.2.2.2.2.2.2.2.2 HNE.out).mono ?_
  rintro e wh72 ⟨rfl, hb⟩
  have MA73 : Hid (Below w.heap.size w wh72 ∧ Box wh72 (w.heap.size) 25 #[.slice pa v.n pc, .slice ja v.m jc] ∧ Box wh72 (w.heap.size + 1) 53 #[.int .i64 fp, .int .i64 fa, .int .i64 fw, .int .i64 lg, .slice ba nb bk] ∧ Box wh72 (w.heap.size + 1 + 1) 53 #[.int .i64 gp, .int .i64 ga, .int .i64 gw, .int .i64 gl, .slice ca mb ck] ∧ Box wh72 (xb) 40 #[.slice pa2 v.n v.n, .slice ja2 v.m v.m] ∧ NsAt 2 0 wh72 (some ⟨bq, 0, none⟩) nb B ∧ Box wh72 (yb) 33 #[.int .i64 fp, .int .i64 fa, .int .i64 fw, .int .i64 lg, .slice (some ⟨bq, 0, none⟩) nb nb] ∧ NsAt 2 0 wh72 (some ⟨cq, 0, none⟩) mb C ∧ Box wh72 (zb) 33 #[.int .i64 gp, .int .i64 ga, .int .i64 gw, .int .i64 gl, .slice (some ⟨cq, 0, none⟩) mb mb]) := ⟨MA71.out.1.trans (hb.mono MA71.out.1.size), MA71.out.2.1.mono hb (Nat.le_refl _), MA71.out.2.2.1.mono hb (Nat.le_refl _), MA71.out.2.2.2.1.mono hb (Nat.le_refl _), MA71.out.2.2.2.2.2.2.1.mono hb (Nat.le_refl _), MA71.out.2.2.2.2.2.2.2.1.mono (Nat.le_refl _) hb (Nat.le_refl _), MA71.out.2.2.2.2.2.2.2.2.1.mono hb (Nat.le_refl _), MA71.out.2.2.2.2.2.2.2.2.2.1.mono (Nat.le_refl _) hb (Nat.le_refl _), MA71.out.2.2.2.2.2.2.2.2.2.2.1.mono hb (Nat.le_refl _)⟩
  clear hb MA71
  go_wp2_with fail
  refine hK.out _ _ ?_ (fun hHeld => ?_)
  · exact ⟨MA73.out.2.1.cell 0, MA73.out.2.1.cell 1, MA73.out.2.2.2.2.1.cell 0, MA73.out.2.2.2.2.1.cell 1⟩
  clear hK K
  refine tk 4 ?_
  refine wpAnyH_done (by kernel_rfl) ?_ _
  clear hHeld
  have x0 : wh72.cell? ⟨w.heap.size + 1, 0, none⟩ = some (.int .i64 fp) := MA73.out.2.2.1.cell 0
  have x1 : wh72.cell? ⟨w.heap.size + 1, 1, none⟩ = some (.int .i64 fa) := MA73.out.2.2.1.cell 1
  have x2 : wh72.cell? ⟨w.heap.size + 1, 2, none⟩ = some (.int .i64 fw) := MA73.out.2.2.1.cell 2
  have x3 : wh72.cell? ⟨w.heap.size + 1, 3, none⟩ = some (.int .i64 lg) := MA73.out.2.2.1.cell 3
  have x4 : wh72.cell? ⟨w.heap.size + 1, 4, none⟩ = some (.slice ba nb bk) := MA73.out.2.2.1.cell 4
  have y0 : wh72.cell? ⟨yb, 0, none⟩ = some (.int .i64 fp) := MA73.out.2.2.2.2.2.2.1.cell 0
  have y1 : wh72.cell? ⟨yb, 1, none⟩ = some (.int .i64 fa) := MA73.out.2.2.2.2.2.2.1.cell 1
  have y2 : wh72.cell? ⟨yb, 2, none⟩ = some (.int .i64 fw) := MA73.out.2.2.2.2.2.2.1.cell 2
  have y3 : wh72.cell? ⟨yb, 3, none⟩ = some (.int .i64 lg) := MA73.out.2.2.2.2.2.2.1.cell 3
  have y4 : wh72.cell? ⟨yb, 4, none⟩ = some (.slice (some ⟨bq, 0, none⟩) nb nb) := MA73.out.2.2.2.2.2.2.1.cell 4
  go_wp2_with fail
  refine wp_region_held_drew (S := (fun wx : World => wx.cell? ⟨w.heap.size + 1, 0, none⟩ = some (.int .i64 fp) ∧ wx.cell? ⟨w.heap.size + 1, 1, none⟩ = some (.int .i64 fa) ∧ wx.cell? ⟨w.heap.size + 1, 2, none⟩ = some (.int .i64 fw) ∧ wx.cell? ⟨w.heap.size + 1, 3, none⟩ = some (.int .i64 lg) ∧ wx.cell? ⟨w.heap.size + 1, 4, none⟩ = some (.slice ba nb bk) ∧ wx.cell? ⟨yb, 0, none⟩ = some (.int .i64 fp) ∧ wx.cell? ⟨yb, 1, none⟩ = some (.int .i64 fa) ∧ wx.cell? ⟨yb, 2, none⟩ = some (.int .i64 fw) ∧ wx.cell? ⟨yb, 3, none⟩ = some (.int .i64 lg) ∧ wx.cell? ⟨yb, 4, none⟩ = some (.slice (some ⟨bq, 0, none⟩) nb nb))) (by kernel_rfl) ?_ (fun hHeld => ?_)
  · exact ⟨x0, x1, x2, x3, x4, y0, y1, y2, y3, y4⟩
  have MD74 : Hid (Below w.heap.size w wh72.drew ∧ Box wh72.drew (w.heap.size) 25 #[.slice pa v.n pc, .slice ja v.m jc] ∧ Box wh72.drew (w.heap.size + 1) 53 #[.int .i64 fp, .int .i64 fa, .int .i64 fw, .int .i64 lg, .slice ba nb bk] ∧ Box wh72.drew (w.heap.size + 1 + 1) 53 #[.int .i64 gp, .int .i64 ga, .int .i64 gw, .int .i64 gl, .slice ca mb ck] ∧ Box wh72.drew (xb) 40 #[.slice pa2 v.n v.n, .slice ja2 v.m v.m] ∧ NsAt 2 0 wh72.drew (some ⟨bq, 0, none⟩) nb B ∧ Box wh72.drew (yb) 33 #[.int .i64 fp, .int .i64 fa, .int .i64 fw, .int .i64 lg, .slice (some ⟨bq, 0, none⟩) nb nb] ∧ NsAt 2 0 wh72.drew (some ⟨cq, 0, none⟩) mb C ∧ Box wh72.drew (zb) 33 #[.int .i64 gp, .int .i64 ga, .int .i64 gw, .int .i64 gl, .slice (some ⟨cq, 0, none⟩) mb mb]) := ⟨MA73.out.1.drew, MA73.out.2.1.drew, MA73.out.2.2.1.drew, MA73.out.2.2.2.1.drew, MA73.out.2.2.2.2.1.drew, MA73.out.2.2.2.2.2.1.mono (Nat.le_refl _) (Below.refl _ _).drew (Nat.le_refl _), MA73.out.2.2.2.2.2.2.1.drew, MA73.out.2.2.2.2.2.2.2.1.mono (Nat.le_refl _) (Below.refl _ _).drew (Nat.le_refl _), MA73.out.2.2.2.2.2.2.2.2.drew⟩
  clear x0 x1 x2 x3 x4 y0 y1 y2 y3 y4 MA73
  generalize wh72.drew = VD7 at MD74 hHeld ⊢
  refine tk 0 ?_
  refine tk 1 ?_
  refine rl 2 fun K hK => ?_
  go_simp
  refine (toTrain16 fp fa fw lg nb B ba bk _ hnb1 (H.out.2.2.1.mono (Nat.le_refl _) MD74.out.1 (Nat.le_refl _))).mono ?_
  rintro e wh75 ⟨bz, rfl, hB4, hb⟩
  have MA76 : Hid (Below w.heap.size w wh75 ∧ Box wh75 (w.heap.size) 25 #[.slice pa v.n pc, .slice ja v.m jc] ∧ Box wh75 (w.heap.size + 1) 53 #[.int .i64 fp, .int .i64 fa, .int .i64 fw, .int .i64 lg, .slice ba nb bk] ∧ Box wh75 (w.heap.size + 1 + 1) 53 #[.int .i64 gp, .int .i64 ga, .int .i64 gw, .int .i64 gl, .slice ca mb ck] ∧ Box wh75 (xb) 40 #[.slice pa2 v.n v.n, .slice ja2 v.m v.m] ∧ NsAt 2 0 wh75 (some ⟨bq, 0, none⟩) nb B ∧ Box wh75 (yb) 33 #[.int .i64 fp, .int .i64 fa, .int .i64 fw, .int .i64 lg, .slice (some ⟨bq, 0, none⟩) nb nb] ∧ NsAt 2 0 wh75 (some ⟨cq, 0, none⟩) mb C ∧ Box wh75 (zb) 33 #[.int .i64 gp, .int .i64 ga, .int .i64 gw, .int .i64 gl, .slice (some ⟨cq, 0, none⟩) mb mb] ∧ NsAt 2 0 wh75 (some ⟨bz, 0, none⟩) nb B) := ⟨MD74.out.1.trans (hb.mono MD74.out.1.size), MD74.out.2.1.mono hb (Nat.le_refl _), MD74.out.2.2.1.mono hb (Nat.le_refl _), MD74.out.2.2.2.1.mono hb (Nat.le_refl _), MD74.out.2.2.2.2.1.mono hb (Nat.le_refl _), MD74.out.2.2.2.2.2.1.mono (Nat.le_refl _) hb (Nat.le_refl _), MD74.out.2.2.2.2.2.2.1.mono hb (Nat.le_refl _), MD74.out.2.2.2.2.2.2.2.1.mono (Nat.le_refl _) hb (Nat.le_refl _), MD74.out.2.2.2.2.2.2.2.2.mono hb (Nat.le_refl _), (hB4.keep (Nat.zero_le _) (Nat.le_refl _) fun _ _ _ => rfl)⟩
  clear hb hB4 MD74
  go_wp2_with fail
  refine hK.out _ _ ?_ (fun hHeld => ?_)
  · exact ⟨MA76.out.2.2.1.cell 0, MA76.out.2.2.1.cell 1, MA76.out.2.2.1.cell 2, MA76.out.2.2.1.cell 3, MA76.out.2.2.1.cell 4, MA76.out.2.2.2.2.2.2.1.cell 0, MA76.out.2.2.2.2.2.2.1.cell 1, MA76.out.2.2.2.2.2.2.1.cell 2, MA76.out.2.2.2.2.2.2.1.cell 3, MA76.out.2.2.2.2.2.2.1.cell 4⟩
  clear hK K
  refine rl 3 fun K hK => ?_
  go_simp
  refine (eqTrain18 fp fa fw lg nb B (some ⟨bq, 0, none⟩) (some ⟨bz, 0, none⟩) nb nb _ hnb1 MA76.out.2.2.2.2.2.1 MA76.out.2.2.2.2.2.2.2.2.2).mono ?_
  rintro e wh77 ⟨rfl, hb⟩
  have MA78 : Hid (Below w.heap.size w wh77 ∧ Box wh77 (w.heap.size) 25 #[.slice pa v.n pc, .slice ja v.m jc] ∧ Box wh77 (w.heap.size + 1) 53 #[.int .i64 fp, .int .i64 fa, .int .i64 fw, .int .i64 lg, .slice ba nb bk] ∧ Box wh77 (w.heap.size + 1 + 1) 53 #[.int .i64 gp, .int .i64 ga, .int .i64 gw, .int .i64 gl, .slice ca mb ck] ∧ Box wh77 (xb) 40 #[.slice pa2 v.n v.n, .slice ja2 v.m v.m] ∧ Box wh77 (yb) 33 #[.int .i64 fp, .int .i64 fa, .int .i64 fw, .int .i64 lg, .slice (some ⟨bq, 0, none⟩) nb nb] ∧ NsAt 2 0 wh77 (some ⟨cq, 0, none⟩) mb C ∧ Box wh77 (zb) 33 #[.int .i64 gp, .int .i64 ga, .int .i64 gw, .int .i64 gl, .slice (some ⟨cq, 0, none⟩) mb mb]) := ⟨MA76.out.1.trans (hb.mono MA76.out.1.size), MA76.out.2.1.mono hb (Nat.le_refl _), MA76.out.2.2.1.mono hb (Nat.le_refl _), MA76.out.2.2.2.1.mono hb (Nat.le_refl _), MA76.out.2.2.2.2.1.mono hb (Nat.le_refl _), MA76.out.2.2.2.2.2.2.1.mono hb (Nat.le_refl _), MA76.out.2.2.2.2.2.2.2.1.mono (Nat.le_refl _) hb (Nat.le_refl _), MA76.out.2.2.2.2.2.2.2.2.1.mono hb (Nat.le_refl _)⟩
  clear hb MA76
  go_wp2_with fail
  refine hK.out _ _ ?_ (fun hHeld => ?_)
  · exact ⟨MA78.out.2.2.1.cell 0, MA78.out.2.2.1.cell 1, MA78.out.2.2.1.cell 2, MA78.out.2.2.1.cell 3, MA78.out.2.2.1.cell 4, MA78.out.2.2.2.2.2.1.cell 0, MA78.out.2.2.2.2.2.1.cell 1, MA78.out.2.2.2.2.2.1.cell 2, MA78.out.2.2.2.2.2.1.cell 3, MA78.out.2.2.2.2.2.1.cell 4⟩
  clear hK K
  refine tk 4 ?_
  refine wpAnyH_done (by kernel_rfl) ?_ _
  clear hHeld
  have x0 : wh77.cell? ⟨w.heap.size + 1 + 1, 0, none⟩ = some (.int .i64 gp) := MA78.out.2.2.2.1.cell 0
  have x1 : wh77.cell? ⟨w.heap.size + 1 + 1, 1, none⟩ = some (.int .i64 ga) := MA78.out.2.2.2.1.cell 1
  have x2 : wh77.cell? ⟨w.heap.size + 1 + 1, 2, none⟩ = some (.int .i64 gw) := MA78.out.2.2.2.1.cell 2
  have x3 : wh77.cell? ⟨w.heap.size + 1 + 1, 3, none⟩ = some (.int .i64 gl) := MA78.out.2.2.2.1.cell 3
  have x4 : wh77.cell? ⟨w.heap.size + 1 + 1, 4, none⟩ = some (.slice ca mb ck) := MA78.out.2.2.2.1.cell 4
  have y0 : wh77.cell? ⟨zb, 0, none⟩ = some (.int .i64 gp) := MA78.out.2.2.2.2.2.2.2.cell 0
  have y1 : wh77.cell? ⟨zb, 1, none⟩ = some (.int .i64 ga) := MA78.out.2.2.2.2.2.2.2.cell 1
  have y2 : wh77.cell? ⟨zb, 2, none⟩ = some (.int .i64 gw) := MA78.out.2.2.2.2.2.2.2.cell 2
  have y3 : wh77.cell? ⟨zb, 3, none⟩ = some (.int .i64 gl) := MA78.out.2.2.2.2.2.2.2.cell 3
  have y4 : wh77.cell? ⟨zb, 4, none⟩ = some (.slice (some ⟨cq, 0, none⟩) mb mb) := MA78.out.2.2.2.2.2.2.2.cell 4
  go_wp2_with fail
  refine wp_region_held_drew (S := (fun wx : World => wx.cell? ⟨w.heap.size + 1 + 1, 0, none⟩ = some (.int .i64 gp) ∧ wx.cell? ⟨w.heap.size + 1 + 1, 1, none⟩ = some (.int .i64 ga) ∧ wx.cell? ⟨w.heap.size + 1 + 1, 2, none⟩ = some (.int .i64 gw) ∧ wx.cell? ⟨w.heap.size + 1 + 1, 3, none⟩ = some (.int .i64 gl) ∧ wx.cell? ⟨w.heap.size + 1 + 1, 4, none⟩ = some (.slice ca mb ck) ∧ wx.cell? ⟨zb, 0, none⟩ = some (.int .i64 gp) ∧ wx.cell? ⟨zb, 1, none⟩ = some (.int .i64 ga) ∧ wx.cell? ⟨zb, 2, none⟩ = some (.int .i64 gw) ∧ wx.cell? ⟨zb, 3, none⟩ = some (.int .i64 gl) ∧ wx.cell? ⟨zb, 4, none⟩ = some (.slice (some ⟨cq, 0, none⟩) mb mb))) (by kernel_rfl) ?_ (fun hHeld => ?_)
  · exact ⟨x0, x1, x2, x3, x4, y0, y1, y2, y3, y4⟩
  have MD79 : Hid (Below w.heap.size w wh77.drew ∧ Box wh77.drew (w.heap.size) 25 #[.slice pa v.n pc, .slice ja v.m jc] ∧ Box wh77.drew (w.heap.size + 1) 53 #[.int .i64 fp, .int .i64 fa, .int .i64 fw, .int .i64 lg, .slice ba nb bk] ∧ Box wh77.drew (w.heap.size + 1 + 1) 53 #[.int .i64 gp, .int .i64 ga, .int .i64 gw, .int .i64 gl, .slice ca mb ck] ∧ Box wh77.drew (xb) 40 #[.slice pa2 v.n v.n, .slice ja2 v.m v.m] ∧ Box wh77.drew (yb) 33 #[.int .i64 fp, .int .i64 fa, .int .i64 fw, .int .i64 lg, .slice (some ⟨bq, 0, none⟩) nb nb] ∧ NsAt 2 0 wh77.drew (some ⟨cq, 0, none⟩) mb C ∧ Box wh77.drew (zb) 33 #[.int .i64 gp, .int .i64 ga, .int .i64 gw, .int .i64 gl, .slice (some ⟨cq, 0, none⟩) mb mb]) := ⟨MA78.out.1.drew, MA78.out.2.1.drew, MA78.out.2.2.1.drew, MA78.out.2.2.2.1.drew, MA78.out.2.2.2.2.1.drew, MA78.out.2.2.2.2.2.1.drew, MA78.out.2.2.2.2.2.2.1.mono (Nat.le_refl _) (Below.refl _ _).drew (Nat.le_refl _), MA78.out.2.2.2.2.2.2.2.drew⟩
  clear x0 x1 x2 x3 x4 y0 y1 y2 y3 y4 MA78
  generalize wh77.drew = VD8 at MD79 hHeld ⊢
  refine tk 0 ?_
  refine tk 1 ?_
  refine rl 2 fun K hK => ?_
  go_simp
  refine (toTrain16 gp ga gw gl mb C ca ck _ hmb1 (H.out.2.2.2.1.mono (Nat.le_refl _) MD79.out.1 (Nat.le_refl _))).mono ?_
  rintro e wh80 ⟨cz, rfl, hB4, hb⟩
  have MA81 : Hid (Below w.heap.size w wh80 ∧ Box wh80 (w.heap.size) 25 #[.slice pa v.n pc, .slice ja v.m jc] ∧ Box wh80 (w.heap.size + 1) 53 #[.int .i64 fp, .int .i64 fa, .int .i64 fw, .int .i64 lg, .slice ba nb bk] ∧ Box wh80 (w.heap.size + 1 + 1) 53 #[.int .i64 gp, .int .i64 ga, .int .i64 gw, .int .i64 gl, .slice ca mb ck] ∧ Box wh80 (xb) 40 #[.slice pa2 v.n v.n, .slice ja2 v.m v.m] ∧ Box wh80 (yb) 33 #[.int .i64 fp, .int .i64 fa, .int .i64 fw, .int .i64 lg, .slice (some ⟨bq, 0, none⟩) nb nb] ∧ NsAt 2 0 wh80 (some ⟨cq, 0, none⟩) mb C ∧ Box wh80 (zb) 33 #[.int .i64 gp, .int .i64 ga, .int .i64 gw, .int .i64 gl, .slice (some ⟨cq, 0, none⟩) mb mb] ∧ NsAt 2 0 wh80 (some ⟨cz, 0, none⟩) mb C) := ⟨MD79.out.1.trans (hb.mono MD79.out.1.size), MD79.out.2.1.mono hb (Nat.le_refl _), MD79.out.2.2.1.mono hb (Nat.le_refl _), MD79.out.2.2.2.1.mono hb (Nat.le_refl _), MD79.out.2.2.2.2.1.mono hb (Nat.le_refl _), MD79.out.2.2.2.2.2.1.mono hb (Nat.le_refl _), MD79.out.2.2.2.2.2.2.1.mono (Nat.le_refl _) hb (Nat.le_refl _), MD79.out.2.2.2.2.2.2.2.mono hb (Nat.le_refl _), (hB4.keep (Nat.zero_le _) (Nat.le_refl _) fun _ _ _ => rfl)⟩
  clear hb hB4 MD79
  go_wp2_with fail
  refine hK.out _ _ ?_ (fun hHeld => ?_)
  · exact ⟨MA81.out.2.2.2.1.cell 0, MA81.out.2.2.2.1.cell 1, MA81.out.2.2.2.1.cell 2, MA81.out.2.2.2.1.cell 3, MA81.out.2.2.2.1.cell 4, MA81.out.2.2.2.2.2.2.2.1.cell 0, MA81.out.2.2.2.2.2.2.2.1.cell 1, MA81.out.2.2.2.2.2.2.2.1.cell 2, MA81.out.2.2.2.2.2.2.2.1.cell 3, MA81.out.2.2.2.2.2.2.2.1.cell 4⟩
  clear hK K
  refine rl 3 fun K hK => ?_
  go_simp
  refine (eqTrain18 gp ga gw gl mb C (some ⟨cq, 0, none⟩) (some ⟨cz, 0, none⟩) mb mb _ hmb1 MA81.out.2.2.2.2.2.2.1 MA81.out.2.2.2.2.2.2.2.2).mono ?_
  rintro e wh82 ⟨rfl, hb⟩
  have MA83 : Hid (Below w.heap.size w wh82 ∧ Box wh82 (w.heap.size) 25 #[.slice pa v.n pc, .slice ja v.m jc] ∧ Box wh82 (w.heap.size + 1) 53 #[.int .i64 fp, .int .i64 fa, .int .i64 fw, .int .i64 lg, .slice ba nb bk] ∧ Box wh82 (w.heap.size + 1 + 1) 53 #[.int .i64 gp, .int .i64 ga, .int .i64 gw, .int .i64 gl, .slice ca mb ck] ∧ Box wh82 (xb) 40 #[.slice pa2 v.n v.n, .slice ja2 v.m v.m] ∧ Box wh82 (yb) 33 #[.int .i64 fp, .int .i64 fa, .int .i64 fw, .int .i64 lg, .slice (some ⟨bq, 0, none⟩) nb nb] ∧ Box wh82 (zb) 33 #[.int .i64 gp, .int .i64 ga, .int .i64 gw, .int .i64 gl, .slice (some ⟨cq, 0, none⟩) mb mb]) := ⟨MA81.out.1.trans (hb.mono MA81.out.1.size), MA81.out.2.1.mono hb (Nat.le_refl _), MA81.out.2.2.1.mono hb (Nat.le_refl _), MA81.out.2.2.2.1.mono hb (Nat.le_refl _), MA81.out.2.2.2.2.1.mono hb (Nat.le_refl _), MA81.out.2.2.2.2.2.1.mono hb (Nat.le_refl _), MA81.out.2.2.2.2.2.2.2.1.mono hb (Nat.le_refl _)⟩
  clear hb MA81
  go_wp2_with fail
  refine hK.out _ _ ?_ (fun hHeld => ?_)
  · exact ⟨MA83.out.2.2.2.1.cell 0, MA83.out.2.2.2.1.cell 1, MA83.out.2.2.2.1.cell 2, MA83.out.2.2.2.1.cell 3, MA83.out.2.2.2.1.cell 4, MA83.out.2.2.2.2.2.2.cell 0, MA83.out.2.2.2.2.2.2.cell 1, MA83.out.2.2.2.2.2.2.cell 2, MA83.out.2.2.2.2.2.2.cell 3, MA83.out.2.2.2.2.2.2.cell 4⟩
  clear hK K
  refine tk 4 ?_
  refine wpAnyH_done (by kernel_rfl) ?_ _
  clear hHeld
  go_wp2_with fail
  go_ret
  exact ⟨rfl, MA83.out.1⟩

end Go.Proofs.YtjhmaofjmalglaaGreat
