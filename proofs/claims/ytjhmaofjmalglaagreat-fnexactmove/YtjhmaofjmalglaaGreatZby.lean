import Derived.Test.YtjhmaofjmalglaaGreatZbv
namespace Go.Proofs.YtjhmaofjmalglaaGreat
open Go.RowKit Go.Lib
set_option maxRecDepth 100000 in
set_option maxHeartbeats 64000000 in
theorem move66 {v : Nv} (pa : Option Addr) (pc : Nat) (ja : Option Addr) (jc : Nat) (la : Option Addr) (lc : Nat) (L : Nat → Int) (fq : Nat) (ga gw lg : Int) (mb : Nat) (C : Nat → Nat → Int) (ba : Option Addr) (bk : Nat) (T : Int) (w : World) (ok : v.Ok) (hl : ∀ i, i < v.m → lieB v.J L i = true) (ht : Trn v (fq : Int) ga gw lg mb C) (hT : 0 ≤ T ∧ T ≤ 10000) (hP : PsAt 0 w pa v.n v.P) (hJ : JsAt 0 w ja v.m v.J) (hB : NsAt 2 0 w ba mb C) (hL : IsAt 0 w la v.m L) :
  Calls Tryz.prog 66 #[.agg #[.slice pa v.n pc, .slice ja v.m jc], .slice la v.m lc, .agg #[.int .i64 (fq : Int), .int .i64 ga, .int .i64 gw, .int .i64 lg, .slice ba mb bk], .int .i64 T] w fun e w' => MvR w v L lg T (mv0 fq ga gw mb C) e w' := by
 have H : Hid (PsAt 0 w pa v.n v.P ∧ JsAt 0 w ja v.m v.J ∧ NsAt 2 0 w ba mb C ∧ IsAt 0 w la v.m L) := ⟨hP, hJ, hB, hL⟩
 have OK : Hid (v.Ok ∧ ∀ i, i < v.m → lieB v.J L i = true) := ⟨ok, hl⟩
 have HT : Hid (Trn v (fq : Int) ga gw lg mb C) := ht
 obtain ⟨i0, hi0, hz0, hs0, hb0⟩ := info_parts infoStepZ
 obtain ⟨i1, hi1, hz1, hs1, hb1⟩ := info_parts infoPart
 obtain ⟨rb, HRB⟩ : ∃ u, Hid (railedB v L (fq : Int) gw mb C = u) := ⟨_, rfl⟩
 have hvn := ok.n1
 have S0 : Hid (Below w.heap.size w (((w.alloc (.cells #[.slice pa v.n pc, .slice ja v.m jc] 40)).alloc (.cells #[.int .i64 (fq : Int), .int .i64 ga, .int .i64 gw, .int .i64 lg, .slice ba mb bk] 33)).alloc (.cells #[.int .i64 0, .int .i64 0, .int .i64 0, .int .i64 0, .int .i64 0, .int .i64 0, .int .i64 0, .slice none 0 0, .slice none 0 0] 61)) ∧ Box (((w.alloc (.cells #[.slice pa v.n pc, .slice ja v.m jc] 40)).alloc (.cells #[.int .i64 (fq : Int), .int .i64 ga, .int .i64 gw, .int .i64 lg, .slice ba mb bk] 33)).alloc (.cells #[.int .i64 0, .int .i64 0, .int .i64 0, .int .i64 0, .int .i64 0, .int .i64 0, .int .i64 0, .slice none 0 0, .slice none 0 0] 61)) (w.heap.size) 40 #[.slice pa v.n pc, .slice ja v.m jc] ∧ Box (((w.alloc (.cells #[.slice pa v.n pc, .slice ja v.m jc] 40)).alloc (.cells #[.int .i64 (fq : Int), .int .i64 ga, .int .i64 gw, .int .i64 lg, .slice ba mb bk] 33)).alloc (.cells #[.int .i64 0, .int .i64 0, .int .i64 0, .int .i64 0, .int .i64 0, .int .i64 0, .int .i64 0, .slice none 0 0, .slice none 0 0] 61)) (w.heap.size + 1) 33 #[.int .i64 (fq : Int), .int .i64 ga, .int .i64 gw, .int .i64 lg, .slice ba mb bk] ∧ Box (((w.alloc (.cells #[.slice pa v.n pc, .slice ja v.m jc] 40)).alloc (.cells #[.int .i64 (fq : Int), .int .i64 ga, .int .i64 gw, .int .i64 lg, .slice ba mb bk] 33)).alloc (.cells #[.int .i64 0, .int .i64 0, .int .i64 0, .int .i64 0, .int .i64 0, .int .i64 0, .int .i64 0, .slice none 0 0, .slice none 0 0] 61)) (w.heap.size + 1 + 1) 61 #[.int .i64 0, .int .i64 0, .int .i64 0, .int .i64 0, .int .i64 0, .int .i64 0, .int .i64 0, .slice none 0 0, .slice none 0 0]) := ⟨((Below.refl _ _).alloc nr _ |>.alloc (by simp) _ |>.alloc (by simp; omega) _), (((Box.new w 40 #[.slice pa v.n pc, .slice ja v.m jc]).alloc (.cells #[.int .i64 (fq : Int), .int .i64 ga, .int .i64 gw, .int .i64 lg, .slice ba mb bk] 33)).alloc (.cells #[.int .i64 0, .int .i64 0, .int .i64 0, .int .i64 0, .int .i64 0, .int .i64 0, .int .i64 0, .slice none 0 0, .slice none 0 0] 61)), by have := ((Box.new (w.alloc (.cells #[.slice pa v.n pc, .slice ja v.m jc] 40)) 33 #[.int .i64 (fq : Int), .int .i64 ga, .int .i64 gw, .int .i64 lg, .slice ba mb bk]).alloc (.cells #[.int .i64 0, .int .i64 0, .int .i64 0, .int .i64 0, .int .i64 0, .int .i64 0, .int .i64 0, .slice none 0 0, .slice none 0 0] 61)); simpa using this, by have := (Box.new ((w.alloc (.cells #[.slice pa v.n pc, .slice ja v.m jc] 40)).alloc (.cells #[.int .i64 (fq : Int), .int .i64 ga, .int .i64 gw, .int .i64 lg, .slice ba mb bk] 33)) 61 #[.int .i64 0, .int .i64 0, .int .i64 0, .int .i64 0, .int .i64 0, .int .i64 0, .int .i64 0, .slice none 0 0, .slice none 0 0]); simpa using this⟩
 clear hP hJ hB hL ok hl ht
 go_enter Tryz.func66, Tryz.ntmps66
 go_upto_region 1 with fail
 generalize (((w.alloc (.cells #[.slice pa v.n pc, .slice ja v.m jc] 40)).alloc (.cells #[.int .i64 (fq : Int), .int .i64 ga, .int .i64 gw, .int .i64 lg, .slice ba mb bk] 33)).alloc (.cells #[.int .i64 0, .int .i64 0, .int .i64 0, .int .i64 0, .int .i64 0, .int .i64 0, .int .i64 0, .slice none 0 0, .slice none 0 0] 61)) = V0 at S0 ⊢
 have x0 : V0.cell? ⟨w.heap.size, 0, none⟩ = some (.slice pa v.n pc) := S0.out.2.1.cell 0
 have x1 : V0.cell? ⟨w.heap.size, 1, none⟩ = some (.slice ja v.m jc) := S0.out.2.1.cell 1
 have y0 : V0.cell? ⟨w.heap.size + 1, 0, none⟩ = some (.int .i64 (fq : Int)) := S0.out.2.2.1.cell 0
 have y1 : V0.cell? ⟨w.heap.size + 1, 1, none⟩ = some (.int .i64 ga) := S0.out.2.2.1.cell 1
 have y2 : V0.cell? ⟨w.heap.size + 1, 2, none⟩ = some (.int .i64 gw) := S0.out.2.2.1.cell 2
 have y3 : V0.cell? ⟨w.heap.size + 1, 3, none⟩ = some (.int .i64 lg) := S0.out.2.2.1.cell 3
 have y4 : V0.cell? ⟨w.heap.size + 1, 4, none⟩ = some (.slice ba mb bk) := S0.out.2.2.1.cell 4
 go_wp2_with fail
 clear x0 x1 y0 y1 y2 y3 y4
 refine (trim108 OK.out.1 pa pc ja jc fq ga gw lg mb C ba bk V0 (H.out.1.mono nr S0.out.1 nr) HT.out.spot ⟨HT.out.lg0, HT.out.lg1⟩ (Nat.le_trans HT.out.nb1 (by decide)) HT.out.step (H.out.2.2.1.mono nr S0.out.1 nr)).mono ?_
 rintro e w1 ⟨z, oa, oc, rfl, hz, hoz, hb⟩
 have hzn : z = mb := trim_all hz HT.out.lt
 rw [hzn] at hoz
 rw [hzn]
 clear hz hzn
 have S1 : Hid (Below w.heap.size w w1 ∧ Box w1 (w.heap.size) 40 #[.slice pa v.n pc, .slice ja v.m jc] ∧ Box w1 (w.heap.size + 1) 33 #[.int .i64 (fq : Int), .int .i64 ga, .int .i64 gw, .int .i64 lg, .slice ba mb bk] ∧ Box w1 (w.heap.size + 1 + 1) 61 #[.int .i64 0, .int .i64 0, .int .i64 0, .int .i64 0, .int .i64 0, .int .i64 0, .int .i64 0, .slice none 0 0, .slice none 0 0] ∧ VOwn w.heap.size 74 2 w1 (.slice oa mb oc) mb (intF C)) := ⟨S0.out.1.trans (hb.mono S0.out.1.size), S0.out.2.1.mono hb nr, S0.out.2.2.1.mono hb nr, S0.out.2.2.2.mono hb nr, hoz.keep S0.out.1.size (fun _ _ => rfl)⟩
 clear hb hoz S0
 have S2 : Hid (Below w.heap.size w (w1.alloc (.cells #[.int .i64 0, .int .i64 0, .int .i64 (-1), .int .i64 (fq : Int), .int .i64 ga, .int .i64 gw, .int .i64 lg, .slice oa mb oc, .slice none 0 0] 61)) ∧ Box (w1.alloc (.cells #[.int .i64 0, .int .i64 0, .int .i64 (-1), .int .i64 (fq : Int), .int .i64 ga, .int .i64 gw, .int .i64 lg, .slice oa mb oc, .slice none 0 0] 61)) (w.heap.size) 40 #[.slice pa v.n pc, .slice ja v.m jc] ∧ Box (w1.alloc (.cells #[.int .i64 0, .int .i64 0, .int .i64 (-1), .int .i64 (fq : Int), .int .i64 ga, .int .i64 gw, .int .i64 lg, .slice oa mb oc, .slice none 0 0] 61)) (w.heap.size + 1) 33 #[.int .i64 (fq : Int), .int .i64 ga, .int .i64 gw, .int .i64 lg, .slice ba mb bk] ∧ Box (w1.alloc (.cells #[.int .i64 0, .int .i64 0, .int .i64 (-1), .int .i64 (fq : Int), .int .i64 ga, .int .i64 gw, .int .i64 lg, .slice oa mb oc, .slice none 0 0] 61)) (w.heap.size + 1 + 1) 61 #[.int .i64 0, .int .i64 0, .int .i64 0, .int .i64 0, .int .i64 0, .int .i64 0, .int .i64 0, .slice none 0 0, .slice none 0 0] ∧ VOwn w.heap.size 74 2 (w1.alloc (.cells #[.int .i64 0, .int .i64 0, .int .i64 (-1), .int .i64 (fq : Int), .int .i64 ga, .int .i64 gw, .int .i64 lg, .slice oa mb oc, .slice none 0 0] 61)) (.slice oa mb oc) mb (intF C) ∧ Box (w1.alloc (.cells #[.int .i64 0, .int .i64 0, .int .i64 (-1), .int .i64 (fq : Int), .int .i64 ga, .int .i64 gw, .int .i64 lg, .slice oa mb oc, .slice none 0 0] 61)) (w1.heap.size) 61 #[.int .i64 0, .int .i64 0, .int .i64 (-1), .int .i64 (fq : Int), .int .i64 ga, .int .i64 gw, .int .i64 lg, .slice oa mb oc, .slice none 0 0]) := ⟨S1.out.1.alloc S1.out.1.size _, S1.out.2.1.alloc _, S1.out.2.2.1.alloc _, S1.out.2.2.2.1.alloc _, S1.out.2.2.2.2.alloc _, Box.new _ _ _⟩
 have HL73 : Hid (w.heap.size ≤ w1.heap.size) := S1.out.1.size
 have HE74 : Hid (w.heap.size + 1 + 1 ≠ w1.heap.size) := by have h9 := S1.out.2.2.2.1.lt; show _ ≠ _; omega
 go_upto_region 2 with fail
 clear S1
 generalize w1.alloc (.cells #[.int .i64 0, .int .i64 0, .int .i64 (-1), .int .i64 (fq : Int), .int .i64 ga, .int .i64 gw, .int .i64 lg, .slice oa mb oc, .slice none 0 0] 61) = V2 at S2 ⊢
 generalize w1.heap.size = ob at S2 HL73 HE74 ⊢
 have x0 : V2.cell? ⟨w.heap.size, 0, none⟩ = some (.slice pa v.n pc) := S2.out.2.1.cell 0
 have x1 : V2.cell? ⟨w.heap.size, 1, none⟩ = some (.slice ja v.m jc) := S2.out.2.1.cell 1
 have y0 : V2.cell? ⟨w.heap.size + 1, 0, none⟩ = some (.int .i64 (fq : Int)) := S2.out.2.2.1.cell 0
 have y1 : V2.cell? ⟨w.heap.size + 1, 1, none⟩ = some (.int .i64 ga) := S2.out.2.2.1.cell 1
 have y2 : V2.cell? ⟨w.heap.size + 1, 2, none⟩ = some (.int .i64 gw) := S2.out.2.2.1.cell 2
 have y3 : V2.cell? ⟨w.heap.size + 1, 3, none⟩ = some (.int .i64 lg) := S2.out.2.2.1.cell 3
 have y4 : V2.cell? ⟨w.heap.size + 1, 4, none⟩ = some (.slice ba mb bk) := S2.out.2.2.1.cell 4
 go_wp2_with fail
 clear x0 x1 y0 y1 y2 y3 y4
 refine (sits45 OK.out.1 pa pc ja jc (fq : Int) ga gw lg mb C ba bk la lc L V2 HT.out.spot HT.out.nb1 HT.out.step (H.out.2.1.mono nr S2.out.1 nr) (H.out.2.2.1.mono nr S2.out.1 nr) (H.out.2.2.2.mono nr S2.out.1 nr) OK.out.2).mono ?_
 rintro e w3 ⟨he, hb⟩
 rw [HRB.out] at he
 subst he
 have S3 : Hid (Below w.heap.size w w3 ∧ Box w3 (w.heap.size) 40 #[.slice pa v.n pc, .slice ja v.m jc] ∧ Box w3 (w.heap.size + 1) 33 #[.int .i64 (fq : Int), .int .i64 ga, .int .i64 gw, .int .i64 lg, .slice ba mb bk] ∧ Box w3 (w.heap.size + 1 + 1) 61 #[.int .i64 0, .int .i64 0, .int .i64 0, .int .i64 0, .int .i64 0, .int .i64 0, .int .i64 0, .slice none 0 0, .slice none 0 0] ∧ VOwn w.heap.size 74 2 w3 (.slice oa mb oc) mb (intF C) ∧ Box w3 (ob) 61 #[.int .i64 0, .int .i64 0, .int .i64 (-1), .int .i64 (fq : Int), .int .i64 ga, .int .i64 gw, .int .i64 lg, .slice oa mb oc, .slice none 0 0]) := ⟨S2.out.1.trans (hb.mono S2.out.1.size), S2.out.2.1.mono hb nr, S2.out.2.2.1.mono hb nr, S2.out.2.2.2.1.mono hb nr, S2.out.2.2.2.2.1.mono nr hb nr, S2.out.2.2.2.2.2.mono hb nr⟩
 clear hb S2
 cases rb with
 | false =>
  have m0 : w3.cell? ⟨ob, 0, none⟩ = some (.int .i64 0) := S3.out.2.2.2.2.2.cell 0
  have m1 : w3.cell? ⟨ob, 1, none⟩ = some (.int .i64 0) := S3.out.2.2.2.2.2.cell 1
  have m2 : w3.cell? ⟨ob, 2, none⟩ = some (.int .i64 (-1)) := S3.out.2.2.2.2.2.cell 2
  have m3 : w3.cell? ⟨ob, 3, none⟩ = some (.int .i64 (fq : Int)) := S3.out.2.2.2.2.2.cell 3
  have m4 : w3.cell? ⟨ob, 4, none⟩ = some (.int .i64 ga) := S3.out.2.2.2.2.2.cell 4
  have m5 : w3.cell? ⟨ob, 5, none⟩ = some (.int .i64 gw) := S3.out.2.2.2.2.2.cell 5
  have m6 : w3.cell? ⟨ob, 6, none⟩ = some (.int .i64 lg) := S3.out.2.2.2.2.2.cell 6
  have m7 : w3.cell? ⟨ob, 7, none⟩ = some (.slice oa mb oc) := S3.out.2.2.2.2.2.cell 7
  have m8 : w3.cell? ⟨ob, 8, none⟩ = some (.slice none 0 0) := S3.out.2.2.2.2.2.cell 8
  have mf0 := S3.out.2.2.2.2.2.free 0
  have mf1 := S3.out.2.2.2.2.2.free 1
  have mf2 := S3.out.2.2.2.2.2.free 2
  have mf3 := S3.out.2.2.2.2.2.free 3
  have mf4 := S3.out.2.2.2.2.2.free 4
  have mf5 := S3.out.2.2.2.2.2.free 5
  have mf6 := S3.out.2.2.2.2.2.free 6
  have mf7 := S3.out.2.2.2.2.2.free 7
  have mf8 := S3.out.2.2.2.2.2.free 8
  have MA75 : Hid (Below w.heap.size w (w3.setCell ⟨ob, 0, none⟩ (.int .i64 4)) ∧ Box (w3.setCell ⟨ob, 0, none⟩ (.int .i64 4)) (w.heap.size) 40 #[.slice pa v.n pc, .slice ja v.m jc] ∧ Box (w3.setCell ⟨ob, 0, none⟩ (.int .i64 4)) (w.heap.size + 1) 33 #[.int .i64 (fq : Int), .int .i64 ga, .int .i64 gw, .int .i64 lg, .slice ba mb bk] ∧ Box (w3.setCell ⟨ob, 0, none⟩ (.int .i64 4)) (w.heap.size + 1 + 1) 61 #[.int .i64 0, .int .i64 0, .int .i64 0, .int .i64 0, .int .i64 0, .int .i64 0, .int .i64 0, .slice none 0 0, .slice none 0 0] ∧ VOwn w.heap.size 74 2 (w3.setCell ⟨ob, 0, none⟩ (.int .i64 4)) (.slice oa mb oc) mb (intF C) ∧ Box (w3.setCell ⟨ob, 0, none⟩ (.int .i64 4)) (ob) 61 #[.int .i64 4, .int .i64 0, .int .i64 (-1), .int .i64 (fq : Int), .int .i64 ga, .int .i64 gw, .int .i64 lg, .slice oa mb oc, .slice none 0 0]) := ⟨(S3.out.1.setCell HL73.out _), (S3.out.2.1.other (box_ne S3.out.2.1 S3.out.2.2.2.2.2 (by decide)) _), (S3.out.2.2.1.other (box_ne S3.out.2.2.1 S3.out.2.2.2.2.2 (by decide)) _), (S3.out.2.2.2.1.other HE74.out _), (S3.out.2.2.2.2.1.set S3.out.2.2.2.2.2 (by decide) 0 _), by have h9 := (S3.out.2.2.2.2.2.set 0 (.int .i64 4)); exact h9⟩
  clear S3
  go_upto_region 4 with fail
  clear m0 m1 m2 m3 m4 m5 m6 m7 m8 mf0 mf1 mf2 mf3 mf4 mf5 mf6 mf7 mf8
  generalize (w3.setCell ⟨ob, 0, none⟩ (.int .i64 4)) = WA at MA75 ⊢
  have m0 : WA.cell? ⟨ob, 0, none⟩ = some (.int .i64 4) := MA75.out.2.2.2.2.2.cell 0
  have m1 : WA.cell? ⟨ob, 1, none⟩ = some (.int .i64 0) := MA75.out.2.2.2.2.2.cell 1
  have m2 : WA.cell? ⟨ob, 2, none⟩ = some (.int .i64 (-1)) := MA75.out.2.2.2.2.2.cell 2
  have m3 : WA.cell? ⟨ob, 3, none⟩ = some (.int .i64 (fq : Int)) := MA75.out.2.2.2.2.2.cell 3
  have m4 : WA.cell? ⟨ob, 4, none⟩ = some (.int .i64 ga) := MA75.out.2.2.2.2.2.cell 4
  have m5 : WA.cell? ⟨ob, 5, none⟩ = some (.int .i64 gw) := MA75.out.2.2.2.2.2.cell 5
  have m6 : WA.cell? ⟨ob, 6, none⟩ = some (.int .i64 lg) := MA75.out.2.2.2.2.2.cell 6
  have m7 : WA.cell? ⟨ob, 7, none⟩ = some (.slice oa mb oc) := MA75.out.2.2.2.2.2.cell 7
  have m8 : WA.cell? ⟨ob, 8, none⟩ = some (.slice none 0 0) := MA75.out.2.2.2.2.2.cell 8
  have z0 : WA.cell? ⟨w.heap.size + 1 + 1, 0, none⟩ = some (.int .i64 0) := MA75.out.2.2.2.1.cell 0
  have z1 : WA.cell? ⟨w.heap.size + 1 + 1, 1, none⟩ = some (.int .i64 0) := MA75.out.2.2.2.1.cell 1
  have z2 : WA.cell? ⟨w.heap.size + 1 + 1, 2, none⟩ = some (.int .i64 0) := MA75.out.2.2.2.1.cell 2
  have z3 : WA.cell? ⟨w.heap.size + 1 + 1, 3, none⟩ = some (.int .i64 0) := MA75.out.2.2.2.1.cell 3
  have z4 : WA.cell? ⟨w.heap.size + 1 + 1, 4, none⟩ = some (.int .i64 0) := MA75.out.2.2.2.1.cell 4
  have z5 : WA.cell? ⟨w.heap.size + 1 + 1, 5, none⟩ = some (.int .i64 0) := MA75.out.2.2.2.1.cell 5
  have z6 : WA.cell? ⟨w.heap.size + 1 + 1, 6, none⟩ = some (.int .i64 0) := MA75.out.2.2.2.1.cell 6
  have z7 : WA.cell? ⟨w.heap.size + 1 + 1, 7, none⟩ = some (.slice none 0 0) := MA75.out.2.2.2.1.cell 7
  have z8 : WA.cell? ⟨w.heap.size + 1 + 1, 8, none⟩ = some (.slice none 0 0) := MA75.out.2.2.2.1.cell 8
  have zf0 := MA75.out.2.2.2.1.free 0
  have zf1 := MA75.out.2.2.2.1.free 1
  have zf2 := MA75.out.2.2.2.1.free 2
  have zf3 := MA75.out.2.2.2.1.free 3
  have zf4 := MA75.out.2.2.2.1.free 4
  have zf5 := MA75.out.2.2.2.1.free 5
  have zf6 := MA75.out.2.2.2.1.free 6
  have zf7 := MA75.out.2.2.2.1.free 7
  have zf8 := MA75.out.2.2.2.1.free 8
  have MA76 : Hid (Below w.heap.size w (((((((((WA.setCell ⟨w.heap.size + 1 + 1, 0, none⟩ (.int .i64 4)).setCell ⟨w.heap.size + 1 + 1, 1, none⟩ (.int .i64 0)).setCell ⟨w.heap.size + 1 + 1, 2, none⟩ (.int .i64 (-1))).setCell ⟨w.heap.size + 1 + 1, 3, none⟩ (.int .i64 (fq : Int))).setCell ⟨w.heap.size + 1 + 1, 4, none⟩ (.int .i64 ga)).setCell ⟨w.heap.size + 1 + 1, 5, none⟩ (.int .i64 gw)).setCell ⟨w.heap.size + 1 + 1, 6, none⟩ (.int .i64 lg)).setCell ⟨w.heap.size + 1 + 1, 7, none⟩ (.slice oa mb oc)).setCell ⟨w.heap.size + 1 + 1, 8, none⟩ (.slice none 0 0)) ∧ Box (((((((((WA.setCell ⟨w.heap.size + 1 + 1, 0, none⟩ (.int .i64 4)).setCell ⟨w.heap.size + 1 + 1, 1, none⟩ (.int .i64 0)).setCell ⟨w.heap.size + 1 + 1, 2, none⟩ (.int .i64 (-1))).setCell ⟨w.heap.size + 1 + 1, 3, none⟩ (.int .i64 (fq : Int))).setCell ⟨w.heap.size + 1 + 1, 4, none⟩ (.int .i64 ga)).setCell ⟨w.heap.size + 1 + 1, 5, none⟩ (.int .i64 gw)).setCell ⟨w.heap.size + 1 + 1, 6, none⟩ (.int .i64 lg)).setCell ⟨w.heap.size + 1 + 1, 7, none⟩ (.slice oa mb oc)).setCell ⟨w.heap.size + 1 + 1, 8, none⟩ (.slice none 0 0)) (w.heap.size) 40 #[.slice pa v.n pc, .slice ja v.m jc] ∧ Box (((((((((WA.setCell ⟨w.heap.size + 1 + 1, 0, none⟩ (.int .i64 4)).setCell ⟨w.heap.size + 1 + 1, 1, none⟩ (.int .i64 0)).setCell ⟨w.heap.size + 1 + 1, 2, none⟩ (.int .i64 (-1))).setCell ⟨w.heap.size + 1 + 1, 3, none⟩ (.int .i64 (fq : Int))).setCell ⟨w.heap.size + 1 + 1, 4, none⟩ (.int .i64 ga)).setCell ⟨w.heap.size + 1 + 1, 5, none⟩ (.int .i64 gw)).setCell ⟨w.heap.size + 1 + 1, 6, none⟩ (.int .i64 lg)).setCell ⟨w.heap.size + 1 + 1, 7, none⟩ (.slice oa mb oc)).setCell ⟨w.heap.size + 1 + 1, 8, none⟩ (.slice none 0 0)) (w.heap.size + 1) 33 #[.int .i64 (fq : Int), .int .i64 ga, .int .i64 gw, .int .i64 lg, .slice ba mb bk] ∧ Box (((((((((WA.setCell ⟨w.heap.size + 1 + 1, 0, none⟩ (.int .i64 4)).setCell ⟨w.heap.size + 1 + 1, 1, none⟩ (.int .i64 0)).setCell ⟨w.heap.size + 1 + 1, 2, none⟩ (.int .i64 (-1))).setCell ⟨w.heap.size + 1 + 1, 3, none⟩ (.int .i64 (fq : Int))).setCell ⟨w.heap.size + 1 + 1, 4, none⟩ (.int .i64 ga)).setCell ⟨w.heap.size + 1 + 1, 5, none⟩ (.int .i64 gw)).setCell ⟨w.heap.size + 1 + 1, 6, none⟩ (.int .i64 lg)).setCell ⟨w.heap.size + 1 + 1, 7, none⟩ (.slice oa mb oc)).setCell ⟨w.heap.size + 1 + 1, 8, none⟩ (.slice none 0 0)) (w.heap.size + 1 + 1) 61 #[.int .i64 4, .int .i64 0, .int .i64 (-1), .int .i64 (fq : Int), .int .i64 ga, .int .i64 gw, .int .i64 lg, .slice oa mb oc, .slice none 0 0] ∧ VOwn w.heap.size 74 2 (((((((((WA.setCell ⟨w.heap.size + 1 + 1, 0, none⟩ (.int .i64 4)).setCell ⟨w.heap.size + 1 + 1, 1, none⟩ (.int .i64 0)).setCell ⟨w.heap.size + 1 + 1, 2, none⟩ (.int .i64 (-1))).setCell ⟨w.heap.size + 1 + 1, 3, none⟩ (.int .i64 (fq : Int))).setCell ⟨w.heap.size + 1 + 1, 4, none⟩ (.int .i64 ga)).setCell ⟨w.heap.size + 1 + 1, 5, none⟩ (.int .i64 gw)).setCell ⟨w.heap.size + 1 + 1, 6, none⟩ (.int .i64 lg)).setCell ⟨w.heap.size + 1 + 1, 7, none⟩ (.slice oa mb oc)).setCell ⟨w.heap.size + 1 + 1, 8, none⟩ (.slice none 0 0)) (.slice oa mb oc) mb (intF C) ∧ Box (((((((((WA.setCell ⟨w.heap.size + 1 + 1, 0, none⟩ (.int .i64 4)).setCell ⟨w.heap.size + 1 + 1, 1, none⟩ (.int .i64 0)).setCell ⟨w.heap.size + 1 + 1, 2, none⟩ (.int .i64 (-1))).setCell ⟨w.heap.size + 1 + 1, 3, none⟩ (.int .i64 (fq : Int))).setCell ⟨w.heap.size + 1 + 1, 4, none⟩ (.int .i64 ga)).setCell ⟨w.heap.size + 1 + 1, 5, none⟩ (.int .i64 gw)).setCell ⟨w.heap.size + 1 + 1, 6, none⟩ (.int .i64 lg)).setCell ⟨w.heap.size + 1 + 1, 7, none⟩ (.slice oa mb oc)).setCell ⟨w.heap.size + 1 + 1, 8, none⟩ (.slice none 0 0)) (ob) 61 #[.int .i64 4, .int .i64 0, .int .i64 (-1), .int .i64 (fq : Int), .int .i64 ga, .int .i64 gw, .int .i64 lg, .slice oa mb oc, .slice none 0 0]) := ⟨(((((((((MA75.out.1.setCell (Nat.le_add_right _ 2) _).setCell (Nat.le_add_right _ 2) _).setCell (Nat.le_add_right _ 2) _).setCell (Nat.le_add_right _ 2) _).setCell (Nat.le_add_right _ 2) _).setCell (Nat.le_add_right _ 2) _).setCell (Nat.le_add_right _ 2) _).setCell (Nat.le_add_right _ 2) _).setCell (Nat.le_add_right _ 2) _), (((((((((MA75.out.2.1.other (box_ne MA75.out.2.1 MA75.out.2.2.2.1 (by decide)) _).other (box_ne MA75.out.2.1 MA75.out.2.2.2.1 (by decide)) _).other (box_ne MA75.out.2.1 MA75.out.2.2.2.1 (by decide)) _).other (box_ne MA75.out.2.1 MA75.out.2.2.2.1 (by decide)) _).other (box_ne MA75.out.2.1 MA75.out.2.2.2.1 (by decide)) _).other (box_ne MA75.out.2.1 MA75.out.2.2.2.1 (by decide)) _).other (box_ne MA75.out.2.1 MA75.out.2.2.2.1 (by decide)) _).other (box_ne MA75.out.2.1 MA75.out.2.2.2.1 (by decide)) _).other (box_ne MA75.out.2.1 MA75.out.2.2.2.1 (by decide)) _), (((((((((MA75.out.2.2.1.other (box_ne MA75.out.2.2.1 MA75.out.2.2.2.1 (by decide)) _).other (box_ne MA75.out.2.2.1 MA75.out.2.2.2.1 (by decide)) _).other (box_ne MA75.out.2.2.1 MA75.out.2.2.2.1 (by decide)) _).other (box_ne MA75.out.2.2.1 MA75.out.2.2.2.1 (by decide)) _).other (box_ne MA75.out.2.2.1 MA75.out.2.2.2.1 (by decide)) _).other (box_ne MA75.out.2.2.1 MA75.out.2.2.2.1 (by decide)) _).other (box_ne MA75.out.2.2.1 MA75.out.2.2.2.1 (by decide)) _).other (box_ne MA75.out.2.2.1 MA75.out.2.2.2.1 (by decide)) _).other (box_ne MA75.out.2.2.1 MA75.out.2.2.2.1 (by decide)) _), by have h9 := (((((((((MA75.out.2.2.2.1.set 0 (.int .i64 4)).set 1 (.int .i64 0)).set 2 (.int .i64 (-1))).set 3 (.int .i64 (fq : Int))).set 4 (.int .i64 ga)).set 5 (.int .i64 gw)).set 6 (.int .i64 lg)).set 7 (.slice oa mb oc)).set 8 (.slice none 0 0)); exact h9, (((((((((MA75.out.2.2.2.2.1.set MA75.out.2.2.2.1 (by decide) 0 _).set (MA75.out.2.2.2.1.set 0 (.int .i64 4)) (by decide) 1 _).set ((MA75.out.2.2.2.1.set 0 (.int .i64 4)).set 1 (.int .i64 0)) (by decide) 2 _).set (((MA75.out.2.2.2.1.set 0 (.int .i64 4)).set 1 (.int .i64 0)).set 2 (.int .i64 (-1))) (by decide) 3 _).set ((((MA75.out.2.2.2.1.set 0 (.int .i64 4)).set 1 (.int .i64 0)).set 2 (.int .i64 (-1))).set 3 (.int .i64 (fq : Int))) (by decide) 4 _).set (((((MA75.out.2.2.2.1.set 0 (.int .i64 4)).set 1 (.int .i64 0)).set 2 (.int .i64 (-1))).set 3 (.int .i64 (fq : Int))).set 4 (.int .i64 ga)) (by decide) 5 _).set ((((((MA75.out.2.2.2.1.set 0 (.int .i64 4)).set 1 (.int .i64 0)).set 2 (.int .i64 (-1))).set 3 (.int .i64 (fq : Int))).set 4 (.int .i64 ga)).set 5 (.int .i64 gw)) (by decide) 6 _).set (((((((MA75.out.2.2.2.1.set 0 (.int .i64 4)).set 1 (.int .i64 0)).set 2 (.int .i64 (-1))).set 3 (.int .i64 (fq : Int))).set 4 (.int .i64 ga)).set 5 (.int .i64 gw)).set 6 (.int .i64 lg)) (by decide) 7 _).set ((((((((MA75.out.2.2.2.1.set 0 (.int .i64 4)).set 1 (.int .i64 0)).set 2 (.int .i64 (-1))).set 3 (.int .i64 (fq : Int))).set 4 (.int .i64 ga)).set 5 (.int .i64 gw)).set 6 (.int .i64 lg)).set 7 (.slice oa mb oc)) (by decide) 8 _), (((((((((MA75.out.2.2.2.2.2.other HE74.out.symm _).other HE74.out.symm _).other HE74.out.symm _).other HE74.out.symm _).other HE74.out.symm _).other HE74.out.symm _).other HE74.out.symm _).other HE74.out.symm _).other HE74.out.symm _)⟩
  clear MA75
  go_wp2_with fail
  clear m0 m1 m2 m3 m4 m5 m6 m7 m8 z0 z1 z2 z3 z4 z5 z6 z7 z8 zf0 zf1 zf2 zf3 zf4 zf5 zf6 zf7 zf8
  generalize (((((((((WA.setCell ⟨w.heap.size + 1 + 1, 0, none⟩ (.int .i64 4)).setCell ⟨w.heap.size + 1 + 1, 1, none⟩ (.int .i64 0)).setCell ⟨w.heap.size + 1 + 1, 2, none⟩ (.int .i64 (-1))).setCell ⟨w.heap.size + 1 + 1, 3, none⟩ (.int .i64 (fq : Int))).setCell ⟨w.heap.size + 1 + 1, 4, none⟩ (.int .i64 ga)).setCell ⟨w.heap.size + 1 + 1, 5, none⟩ (.int .i64 gw)).setCell ⟨w.heap.size + 1 + 1, 6, none⟩ (.int .i64 lg)).setCell ⟨w.heap.size + 1 + 1, 7, none⟩ (.slice oa mb oc)).setCell ⟨w.heap.size + 1 + 1, 8, none⟩ (.slice none 0 0)) = W9 at MA76 ⊢
  have z0 : W9.cell? ⟨w.heap.size + 1 + 1, 0, none⟩ = some (.int .i64 4) := MA76.out.2.2.2.1.cell 0
  have z1 : W9.cell? ⟨w.heap.size + 1 + 1, 1, none⟩ = some (.int .i64 0) := MA76.out.2.2.2.1.cell 1
  have z2 : W9.cell? ⟨w.heap.size + 1 + 1, 2, none⟩ = some (.int .i64 (-1)) := MA76.out.2.2.2.1.cell 2
  have z3 : W9.cell? ⟨w.heap.size + 1 + 1, 3, none⟩ = some (.int .i64 (fq : Int)) := MA76.out.2.2.2.1.cell 3
  have z4 : W9.cell? ⟨w.heap.size + 1 + 1, 4, none⟩ = some (.int .i64 ga) := MA76.out.2.2.2.1.cell 4
  have z5 : W9.cell? ⟨w.heap.size + 1 + 1, 5, none⟩ = some (.int .i64 gw) := MA76.out.2.2.2.1.cell 5
  have z6 : W9.cell? ⟨w.heap.size + 1 + 1, 6, none⟩ = some (.int .i64 lg) := MA76.out.2.2.2.1.cell 6
  have z7 : W9.cell? ⟨w.heap.size + 1 + 1, 7, none⟩ = some (.slice oa mb oc) := MA76.out.2.2.2.1.cell 7
  have z8 : W9.cell? ⟨w.heap.size + 1 + 1, 8, none⟩ = some (.slice none 0 0) := MA76.out.2.2.2.1.cell 8
  exact bodyPost_ret (v := .agg #[.int .i64 4, .int .i64 0, .int .i64 (-1), .int .i64 (fq : Int), .int .i64 ga, .int .i64 gw, .int .i64 lg, .slice oa mb oc, .slice none 0 0]) (by simp [results, Tryz.results66, go_sem, z0, z1, z2, z3, z4, z5, z6, z7, z8]) rfl (⟨(mv0 fq ga gw mb C), 4, -1, oa, oc, none, 0, ⟨fun h => absurd (h.symm.trans HRB.out) (by decide), fun _ => ⟨rfl, rfl, rfl⟩⟩, rfl, MA76.out.2.2.2.2.1, VOwn.nil _ _ _ _ _, MA76.out.1⟩)
 | true =>
 go_upto_block 0 with fail
 go_cut [] from 10 (fun wx => ∃ (cc j2 : Int) (s : Mv) (oa : Option Addr) (oc : Nat) (xa : Option Addr) (xc : Nat), Hid (MvF v L lg T (mv0 fq ga gw mb C) s cc j2) ∧ Hid (MvOk v lg s) ∧ Hid (Below w.heap.size w wx ∧ Box wx (w.heap.size) 40 #[.slice pa v.n pc, .slice ja v.m jc] ∧ Box wx (w.heap.size + 1) 33 #[.int .i64 (fq : Int), .int .i64 ga, .int .i64 gw, .int .i64 lg, .slice ba mb bk] ∧ Box wx (w.heap.size + 1 + 1) 61 #[.int .i64 0, .int .i64 0, .int .i64 0, .int .i64 0, .int .i64 0, .int .i64 0, .int .i64 0, .slice none 0 0, .slice none 0 0] ∧ Box wx (ob) 61 #[.int .i64 cc, .int .i64 s.far, .int .i64 j2, .int .i64 (s.fp : Int), .int .i64 s.fa, .int .i64 s.fw, .int .i64 lg, .slice oa s.nb oc, .slice xa s.no xc] ∧ VOwn w.heap.size 74 2 wx (.slice oa s.nb oc) s.nb (intF s.B) ∧ VOwn w.heap.size 112 3 wx (.slice xa s.no xc) s.no (intF s.O)))
 case rest =>
  clear S3
  obtain ⟨cc, j2, ⟨fp, fa, fw, nb, B, far, no, O⟩, oa, oc, xa, xc, HMF, HOK, T0⟩ := hcut
  generalize wc = WB at T0 ⊢
  have D : Hid (Below w.heap.size w WB ∧ Box WB (w.heap.size) 40 #[.slice pa v.n pc, .slice ja v.m jc] ∧ Box WB (w.heap.size + 1) 33 #[.int .i64 (fq : Int), .int .i64 ga, .int .i64 gw, .int .i64 lg, .slice ba mb bk] ∧ Box WB (w.heap.size + 1 + 1) 61 #[.int .i64 0, .int .i64 0, .int .i64 0, .int .i64 0, .int .i64 0, .int .i64 0, .int .i64 0, .slice none 0 0, .slice none 0 0] ∧ Box WB (ob) 61 #[.int .i64 cc, .int .i64 far, .int .i64 j2, .int .i64 (fp : Int), .int .i64 fa, .int .i64 fw, .int .i64 lg, .slice oa nb oc, .slice xa no xc] ∧ VOwn w.heap.size 74 2 WB (.slice oa nb oc) nb (intF B) ∧ VOwn w.heap.size 112 3 WB (.slice xa no xc) no (intF O)) := T0
  clear T0
  have x0 : WB.cell? ⟨w.heap.size, 0, none⟩ = some (.slice pa v.n pc) := D.out.2.1.cell 0
  have x1 : WB.cell? ⟨w.heap.size, 1, none⟩ = some (.slice ja v.m jc) := D.out.2.1.cell 1
  have m0 : WB.cell? ⟨ob, 0, none⟩ = some (.int .i64 cc) := D.out.2.2.2.2.1.cell 0
  have m1 : WB.cell? ⟨ob, 1, none⟩ = some (.int .i64 far) := D.out.2.2.2.2.1.cell 1
  have m2 : WB.cell? ⟨ob, 2, none⟩ = some (.int .i64 j2) := D.out.2.2.2.2.1.cell 2
  have m3 : WB.cell? ⟨ob, 3, none⟩ = some (.int .i64 (fp : Int)) := D.out.2.2.2.2.1.cell 3
  have m4 : WB.cell? ⟨ob, 4, none⟩ = some (.int .i64 fa) := D.out.2.2.2.2.1.cell 4
  have m5 : WB.cell? ⟨ob, 5, none⟩ = some (.int .i64 fw) := D.out.2.2.2.2.1.cell 5
  have m6 : WB.cell? ⟨ob, 6, none⟩ = some (.int .i64 lg) := D.out.2.2.2.2.1.cell 6
  have m7 : WB.cell? ⟨ob, 7, none⟩ = some (.slice oa nb oc) := D.out.2.2.2.2.1.cell 7
  have m8 : WB.cell? ⟨ob, 8, none⟩ = some (.slice xa no xc) := D.out.2.2.2.2.1.cell 8
  go_wp2_with fail
  clear x0 x1 m0 m1 m2 m3 m4 m5 m6 m7 m8
  refine (trim108 OK.out.1 pa pc ja jc fp fa fw lg nb B oa oc WB (H.out.1.mono nr D.out.1 nr) HOK.out.spot ⟨HOK.out.lg0, HOK.out.lg1⟩ (Nat.le_trans HOK.out.nb1 (by decide)) HOK.out.step (D.out.2.2.2.2.2.1.vs.le (Nat.zero_le _))).mono ?_
  rintro e wT ⟨z, ta, tc, rfl, hz, hoz, hb⟩
  have hzn : z = nb := trim_all hz HOK.out.lt
  rw [hzn] at hoz
  rw [hzn]
  clear hz hzn
  have MT : Hid (Below w.heap.size w wT ∧ Box wT (w.heap.size) 40 #[.slice pa v.n pc, .slice ja v.m jc] ∧ Box wT (w.heap.size + 1) 33 #[.int .i64 (fq : Int), .int .i64 ga, .int .i64 gw, .int .i64 lg, .slice ba mb bk] ∧ Box wT (w.heap.size + 1 + 1) 61 #[.int .i64 0, .int .i64 0, .int .i64 0, .int .i64 0, .int .i64 0, .int .i64 0, .int .i64 0, .slice none 0 0, .slice none 0 0] ∧ Box wT (ob) 61 #[.int .i64 cc, .int .i64 far, .int .i64 j2, .int .i64 (fp : Int), .int .i64 fa, .int .i64 fw, .int .i64 lg, .slice oa nb oc, .slice xa no xc] ∧ VOwn w.heap.size 112 3 wT (.slice xa no xc) no (intF O) ∧ VOwn w.heap.size 74 2 wT (.slice ta nb tc) nb (intF B)) := ⟨D.out.1.trans (hb.mono D.out.1.size), D.out.2.1.mono hb nr, D.out.2.2.1.mono hb nr, D.out.2.2.2.1.mono hb nr, D.out.2.2.2.2.1.mono hb nr, D.out.2.2.2.2.2.2.mono nr hb nr, hoz.keep D.out.1.size (fun _ _ => rfl)⟩
  clear hb hoz D
  have m0 : wT.cell? ⟨ob, 0, none⟩ = some (.int .i64 cc) := MT.out.2.2.2.2.1.cell 0
  have m1 : wT.cell? ⟨ob, 1, none⟩ = some (.int .i64 far) := MT.out.2.2.2.2.1.cell 1
  have m2 : wT.cell? ⟨ob, 2, none⟩ = some (.int .i64 j2) := MT.out.2.2.2.2.1.cell 2
  have m3 : wT.cell? ⟨ob, 3, none⟩ = some (.int .i64 (fp : Int)) := MT.out.2.2.2.2.1.cell 3
  have m4 : wT.cell? ⟨ob, 4, none⟩ = some (.int .i64 fa) := MT.out.2.2.2.2.1.cell 4
  have m5 : wT.cell? ⟨ob, 5, none⟩ = some (.int .i64 fw) := MT.out.2.2.2.2.1.cell 5
  have m6 : wT.cell? ⟨ob, 6, none⟩ = some (.int .i64 lg) := MT.out.2.2.2.2.1.cell 6
  have m7 : wT.cell? ⟨ob, 7, none⟩ = some (.slice oa nb oc) := MT.out.2.2.2.2.1.cell 7
  have m8 : wT.cell? ⟨ob, 8, none⟩ = some (.slice xa no xc) := MT.out.2.2.2.2.1.cell 8
  have mf0 := MT.out.2.2.2.2.1.free 0
  have mf1 := MT.out.2.2.2.2.1.free 1
  have mf2 := MT.out.2.2.2.2.1.free 2
  have mf3 := MT.out.2.2.2.2.1.free 3
  have mf4 := MT.out.2.2.2.2.1.free 4
  have mf5 := MT.out.2.2.2.2.1.free 5
  have mf6 := MT.out.2.2.2.2.1.free 6
  have mf7 := MT.out.2.2.2.2.1.free 7
  have mf8 := MT.out.2.2.2.2.1.free 8
  have MA138 : Hid (Below w.heap.size w (((((wT.setCell ⟨ob, 3, none⟩ (.int .i64 (fp : Int))).setCell ⟨ob, 4, none⟩ (.int .i64 fa)).setCell ⟨ob, 5, none⟩ (.int .i64 fw)).setCell ⟨ob, 6, none⟩ (.int .i64 lg)).setCell ⟨ob, 7, none⟩ (.slice ta nb tc)) ∧ Box (((((wT.setCell ⟨ob, 3, none⟩ (.int .i64 (fp : Int))).setCell ⟨ob, 4, none⟩ (.int .i64 fa)).setCell ⟨ob, 5, none⟩ (.int .i64 fw)).setCell ⟨ob, 6, none⟩ (.int .i64 lg)).setCell ⟨ob, 7, none⟩ (.slice ta nb tc)) (w.heap.size) 40 #[.slice pa v.n pc, .slice ja v.m jc] ∧ Box (((((wT.setCell ⟨ob, 3, none⟩ (.int .i64 (fp : Int))).setCell ⟨ob, 4, none⟩ (.int .i64 fa)).setCell ⟨ob, 5, none⟩ (.int .i64 fw)).setCell ⟨ob, 6, none⟩ (.int .i64 lg)).setCell ⟨ob, 7, none⟩ (.slice ta nb tc)) (w.heap.size + 1) 33 #[.int .i64 (fq : Int), .int .i64 ga, .int .i64 gw, .int .i64 lg, .slice ba mb bk] ∧ Box (((((wT.setCell ⟨ob, 3, none⟩ (.int .i64 (fp : Int))).setCell ⟨ob, 4, none⟩ (.int .i64 fa)).setCell ⟨ob, 5, none⟩ (.int .i64 fw)).setCell ⟨ob, 6, none⟩ (.int .i64 lg)).setCell ⟨ob, 7, none⟩ (.slice ta nb tc)) (w.heap.size + 1 + 1) 61 #[.int .i64 0, .int .i64 0, .int .i64 0, .int .i64 0, .int .i64 0, .int .i64 0, .int .i64 0, .slice none 0 0, .slice none 0 0] ∧ Box (((((wT.setCell ⟨ob, 3, none⟩ (.int .i64 (fp : Int))).setCell ⟨ob, 4, none⟩ (.int .i64 fa)).setCell ⟨ob, 5, none⟩ (.int .i64 fw)).setCell ⟨ob, 6, none⟩ (.int .i64 lg)).setCell ⟨ob, 7, none⟩ (.slice ta nb tc)) (ob) 61 #[.int .i64 cc, .int .i64 far, .int .i64 j2, .int .i64 (fp : Int), .int .i64 fa, .int .i64 fw, .int .i64 lg, .slice ta nb tc, .slice xa no xc] ∧ VOwn w.heap.size 112 3 (((((wT.setCell ⟨ob, 3, none⟩ (.int .i64 (fp : Int))).setCell ⟨ob, 4, none⟩ (.int .i64 fa)).setCell ⟨ob, 5, none⟩ (.int .i64 fw)).setCell ⟨ob, 6, none⟩ (.int .i64 lg)).setCell ⟨ob, 7, none⟩ (.slice ta nb tc)) (.slice xa no xc) no (intF O) ∧ VOwn w.heap.size 74 2 (((((wT.setCell ⟨ob, 3, none⟩ (.int .i64 (fp : Int))).setCell ⟨ob, 4, none⟩ (.int .i64 fa)).setCell ⟨ob, 5, none⟩ (.int .i64 fw)).setCell ⟨ob, 6, none⟩ (.int .i64 lg)).setCell ⟨ob, 7, none⟩ (.slice ta nb tc)) (.slice ta nb tc) nb (intF B)) := ⟨(((((MT.out.1.setCell HL73.out _).setCell HL73.out _).setCell HL73.out _).setCell HL73.out _).setCell HL73.out _), (((((MT.out.2.1.other (box_ne MT.out.2.1 MT.out.2.2.2.2.1 (by decide)) _).other (box_ne MT.out.2.1 MT.out.2.2.2.2.1 (by decide)) _).other (box_ne MT.out.2.1 MT.out.2.2.2.2.1 (by decide)) _).other (box_ne MT.out.2.1 MT.out.2.2.2.2.1 (by decide)) _).other (box_ne MT.out.2.1 MT.out.2.2.2.2.1 (by decide)) _), (((((MT.out.2.2.1.other (box_ne MT.out.2.2.1 MT.out.2.2.2.2.1 (by decide)) _).other (box_ne MT.out.2.2.1 MT.out.2.2.2.2.1 (by decide)) _).other (box_ne MT.out.2.2.1 MT.out.2.2.2.2.1 (by decide)) _).other (box_ne MT.out.2.2.1 MT.out.2.2.2.2.1 (by decide)) _).other (box_ne MT.out.2.2.1 MT.out.2.2.2.2.1 (by decide)) _), (((((MT.out.2.2.2.1.other HE74.out _).other HE74.out _).other HE74.out _).other HE74.out _).other HE74.out _), by have h9 := (((((MT.out.2.2.2.2.1.set 3 (.int .i64 (fp : Int))).set 4 (.int .i64 fa)).set 5 (.int .i64 fw)).set 6 (.int .i64 lg)).set 7 (.slice ta nb tc)); exact h9, (((((MT.out.2.2.2.2.2.1.set MT.out.2.2.2.2.1 (by decide) 3 _).set (MT.out.2.2.2.2.1.set 3 (.int .i64 (fp : Int))) (by decide) 4 _).set ((MT.out.2.2.2.2.1.set 3 (.int .i64 (fp : Int))).set 4 (.int .i64 fa)) (by decide) 5 _).set (((MT.out.2.2.2.2.1.set 3 (.int .i64 (fp : Int))).set 4 (.int .i64 fa)).set 5 (.int .i64 fw)) (by decide) 6 _).set ((((MT.out.2.2.2.2.1.set 3 (.int .i64 (fp : Int))).set 4 (.int .i64 fa)).set 5 (.int .i64 fw)).set 6 (.int .i64 lg)) (by decide) 7 _), (((((MT.out.2.2.2.2.2.2.set MT.out.2.2.2.2.1 (by decide) 3 _).set (MT.out.2.2.2.2.1.set 3 (.int .i64 (fp : Int))) (by decide) 4 _).set ((MT.out.2.2.2.2.1.set 3 (.int .i64 (fp : Int))).set 4 (.int .i64 fa)) (by decide) 5 _).set (((MT.out.2.2.2.2.1.set 3 (.int .i64 (fp : Int))).set 4 (.int .i64 fa)).set 5 (.int .i64 fw)) (by decide) 6 _).set ((((MT.out.2.2.2.2.1.set 3 (.int .i64 (fp : Int))).set 4 (.int .i64 fa)).set 5 (.int .i64 fw)).set 6 (.int .i64 lg)) (by decide) 7 _)⟩
  clear MT
  go_upto_region 28 with fail
  clear m0 m1 m2 m3 m4 m5 m6 m7 m8 mf0 mf1 mf2 mf3 mf4 mf5 mf6 mf7 mf8
  generalize (((((wT.setCell ⟨ob, 3, none⟩ (.int .i64 (fp : Int))).setCell ⟨ob, 4, none⟩ (.int .i64 fa)).setCell ⟨ob, 5, none⟩ (.int .i64 fw)).setCell ⟨ob, 6, none⟩ (.int .i64 lg)).setCell ⟨ob, 7, none⟩ (.slice ta nb tc)) = WU at MA138 ⊢
  have m0 : WU.cell? ⟨ob, 0, none⟩ = some (.int .i64 cc) := MA138.out.2.2.2.2.1.cell 0
  have m1 : WU.cell? ⟨ob, 1, none⟩ = some (.int .i64 far) := MA138.out.2.2.2.2.1.cell 1
  have m2 : WU.cell? ⟨ob, 2, none⟩ = some (.int .i64 j2) := MA138.out.2.2.2.2.1.cell 2
  have m3 : WU.cell? ⟨ob, 3, none⟩ = some (.int .i64 (fp : Int)) := MA138.out.2.2.2.2.1.cell 3
  have m4 : WU.cell? ⟨ob, 4, none⟩ = some (.int .i64 fa) := MA138.out.2.2.2.2.1.cell 4
  have m5 : WU.cell? ⟨ob, 5, none⟩ = some (.int .i64 fw) := MA138.out.2.2.2.2.1.cell 5
  have m6 : WU.cell? ⟨ob, 6, none⟩ = some (.int .i64 lg) := MA138.out.2.2.2.2.1.cell 6
  have m7 : WU.cell? ⟨ob, 7, none⟩ = some (.slice ta nb tc) := MA138.out.2.2.2.2.1.cell 7
  have m8 : WU.cell? ⟨ob, 8, none⟩ = some (.slice xa no xc) := MA138.out.2.2.2.2.1.cell 8
  have z0 : WU.cell? ⟨w.heap.size + 1 + 1, 0, none⟩ = some (.int .i64 0) := MA138.out.2.2.2.1.cell 0
  have z1 : WU.cell? ⟨w.heap.size + 1 + 1, 1, none⟩ = some (.int .i64 0) := MA138.out.2.2.2.1.cell 1
  have z2 : WU.cell? ⟨w.heap.size + 1 + 1, 2, none⟩ = some (.int .i64 0) := MA138.out.2.2.2.1.cell 2
  have z3 : WU.cell? ⟨w.heap.size + 1 + 1, 3, none⟩ = some (.int .i64 0) := MA138.out.2.2.2.1.cell 3
  have z4 : WU.cell? ⟨w.heap.size + 1 + 1, 4, none⟩ = some (.int .i64 0) := MA138.out.2.2.2.1.cell 4
  have z5 : WU.cell? ⟨w.heap.size + 1 + 1, 5, none⟩ = some (.int .i64 0) := MA138.out.2.2.2.1.cell 5
  have z6 : WU.cell? ⟨w.heap.size + 1 + 1, 6, none⟩ = some (.int .i64 0) := MA138.out.2.2.2.1.cell 6
  have z7 : WU.cell? ⟨w.heap.size + 1 + 1, 7, none⟩ = some (.slice none 0 0) := MA138.out.2.2.2.1.cell 7
  have z8 : WU.cell? ⟨w.heap.size + 1 + 1, 8, none⟩ = some (.slice none 0 0) := MA138.out.2.2.2.1.cell 8
  have zf0 := MA138.out.2.2.2.1.free 0
  have zf1 := MA138.out.2.2.2.1.free 1
  have zf2 := MA138.out.2.2.2.1.free 2
  have zf3 := MA138.out.2.2.2.1.free 3
  have zf4 := MA138.out.2.2.2.1.free 4
  have zf5 := MA138.out.2.2.2.1.free 5
  have zf6 := MA138.out.2.2.2.1.free 6
  have zf7 := MA138.out.2.2.2.1.free 7
  have zf8 := MA138.out.2.2.2.1.free 8
  have MA139 : Hid (Below w.heap.size w (((((((((WU.setCell ⟨w.heap.size + 1 + 1, 0, none⟩ (.int .i64 cc)).setCell ⟨w.heap.size + 1 + 1, 1, none⟩ (.int .i64 far)).setCell ⟨w.heap.size + 1 + 1, 2, none⟩ (.int .i64 j2)).setCell ⟨w.heap.size + 1 + 1, 3, none⟩ (.int .i64 (fp : Int))).setCell ⟨w.heap.size + 1 + 1, 4, none⟩ (.int .i64 fa)).setCell ⟨w.heap.size + 1 + 1, 5, none⟩ (.int .i64 fw)).setCell ⟨w.heap.size + 1 + 1, 6, none⟩ (.int .i64 lg)).setCell ⟨w.heap.size + 1 + 1, 7, none⟩ (.slice ta nb tc)).setCell ⟨w.heap.size + 1 + 1, 8, none⟩ (.slice xa no xc)) ∧ Box (((((((((WU.setCell ⟨w.heap.size + 1 + 1, 0, none⟩ (.int .i64 cc)).setCell ⟨w.heap.size + 1 + 1, 1, none⟩ (.int .i64 far)).setCell ⟨w.heap.size + 1 + 1, 2, none⟩ (.int .i64 j2)).setCell ⟨w.heap.size + 1 + 1, 3, none⟩ (.int .i64 (fp : Int))).setCell ⟨w.heap.size + 1 + 1, 4, none⟩ (.int .i64 fa)).setCell ⟨w.heap.size + 1 + 1, 5, none⟩ (.int .i64 fw)).setCell ⟨w.heap.size + 1 + 1, 6, none⟩ (.int .i64 lg)).setCell ⟨w.heap.size + 1 + 1, 7, none⟩ (.slice ta nb tc)).setCell ⟨w.heap.size + 1 + 1, 8, none⟩ (.slice xa no xc)) (w.heap.size) 40 #[.slice pa v.n pc, .slice ja v.m jc] ∧ Box (((((((((WU.setCell ⟨w.heap.size + 1 + 1, 0, none⟩ (.int .i64 cc)).setCell ⟨w.heap.size + 1 + 1, 1, none⟩ (.int .i64 far)).setCell ⟨w.heap.size + 1 + 1, 2, none⟩ (.int .i64 j2)).setCell ⟨w.heap.size + 1 + 1, 3, none⟩ (.int .i64 (fp : Int))).setCell ⟨w.heap.size + 1 + 1, 4, none⟩ (.int .i64 fa)).setCell ⟨w.heap.size + 1 + 1, 5, none⟩ (.int .i64 fw)).setCell ⟨w.heap.size + 1 + 1, 6, none⟩ (.int .i64 lg)).setCell ⟨w.heap.size + 1 + 1, 7, none⟩ (.slice ta nb tc)).setCell ⟨w.heap.size + 1 + 1, 8, none⟩ (.slice xa no xc)) (w.heap.size + 1) 33 #[.int .i64 (fq : Int), .int .i64 ga, .int .i64 gw, .int .i64 lg, .slice ba mb bk] ∧ Box (((((((((WU.setCell ⟨w.heap.size + 1 + 1, 0, none⟩ (.int .i64 cc)).setCell ⟨w.heap.size + 1 + 1, 1, none⟩ (.int .i64 far)).setCell ⟨w.heap.size + 1 + 1, 2, none⟩ (.int .i64 j2)).setCell ⟨w.heap.size + 1 + 1, 3, none⟩ (.int .i64 (fp : Int))).setCell ⟨w.heap.size + 1 + 1, 4, none⟩ (.int .i64 fa)).setCell ⟨w.heap.size + 1 + 1, 5, none⟩ (.int .i64 fw)).setCell ⟨w.heap.size + 1 + 1, 6, none⟩ (.int .i64 lg)).setCell ⟨w.heap.size + 1 + 1, 7, none⟩ (.slice ta nb tc)).setCell ⟨w.heap.size + 1 + 1, 8, none⟩ (.slice xa no xc)) (w.heap.size + 1 + 1) 61 #[.int .i64 cc, .int .i64 far, .int .i64 j2, .int .i64 (fp : Int), .int .i64 fa, .int .i64 fw, .int .i64 lg, .slice ta nb tc, .slice xa no xc] ∧ Box (((((((((WU.setCell ⟨w.heap.size + 1 + 1, 0, none⟩ (.int .i64 cc)).setCell ⟨w.heap.size + 1 + 1, 1, none⟩ (.int .i64 far)).setCell ⟨w.heap.size + 1 + 1, 2, none⟩ (.int .i64 j2)).setCell ⟨w.heap.size + 1 + 1, 3, none⟩ (.int .i64 (fp : Int))).setCell ⟨w.heap.size + 1 + 1, 4, none⟩ (.int .i64 fa)).setCell ⟨w.heap.size + 1 + 1, 5, none⟩ (.int .i64 fw)).setCell ⟨w.heap.size + 1 + 1, 6, none⟩ (.int .i64 lg)).setCell ⟨w.heap.size + 1 + 1, 7, none⟩ (.slice ta nb tc)).setCell ⟨w.heap.size + 1 + 1, 8, none⟩ (.slice xa no xc)) (ob) 61 #[.int .i64 cc, .int .i64 far, .int .i64 j2, .int .i64 (fp : Int), .int .i64 fa, .int .i64 fw, .int .i64 lg, .slice ta nb tc, .slice xa no xc] ∧ VOwn w.heap.size 112 3 (((((((((WU.setCell ⟨w.heap.size + 1 + 1, 0, none⟩ (.int .i64 cc)).setCell ⟨w.heap.size + 1 + 1, 1, none⟩ (.int .i64 far)).setCell ⟨w.heap.size + 1 + 1, 2, none⟩ (.int .i64 j2)).setCell ⟨w.heap.size + 1 + 1, 3, none⟩ (.int .i64 (fp : Int))).setCell ⟨w.heap.size + 1 + 1, 4, none⟩ (.int .i64 fa)).setCell ⟨w.heap.size + 1 + 1, 5, none⟩ (.int .i64 fw)).setCell ⟨w.heap.size + 1 + 1, 6, none⟩ (.int .i64 lg)).setCell ⟨w.heap.size + 1 + 1, 7, none⟩ (.slice ta nb tc)).setCell ⟨w.heap.size + 1 + 1, 8, none⟩ (.slice xa no xc)) (.slice xa no xc) no (intF O) ∧ VOwn w.heap.size 74 2 (((((((((WU.setCell ⟨w.heap.size + 1 + 1, 0, none⟩ (.int .i64 cc)).setCell ⟨w.heap.size + 1 + 1, 1, none⟩ (.int .i64 far)).setCell ⟨w.heap.size + 1 + 1, 2, none⟩ (.int .i64 j2)).setCell ⟨w.heap.size + 1 + 1, 3, none⟩ (.int .i64 (fp : Int))).setCell ⟨w.heap.size + 1 + 1, 4, none⟩ (.int .i64 fa)).setCell ⟨w.heap.size + 1 + 1, 5, none⟩ (.int .i64 fw)).setCell ⟨w.heap.size + 1 + 1, 6, none⟩ (.int .i64 lg)).setCell ⟨w.heap.size + 1 + 1, 7, none⟩ (.slice ta nb tc)).setCell ⟨w.heap.size + 1 + 1, 8, none⟩ (.slice xa no xc)) (.slice ta nb tc) nb (intF B)) := ⟨(((((((((MA138.out.1.setCell (Nat.le_add_right _ 2) _).setCell (Nat.le_add_right _ 2) _).setCell (Nat.le_add_right _ 2) _).setCell (Nat.le_add_right _ 2) _).setCell (Nat.le_add_right _ 2) _).setCell (Nat.le_add_right _ 2) _).setCell (Nat.le_add_right _ 2) _).setCell (Nat.le_add_right _ 2) _).setCell (Nat.le_add_right _ 2) _), (((((((((MA138.out.2.1.other (box_ne MA138.out.2.1 MA138.out.2.2.2.1 (by decide)) _).other (box_ne MA138.out.2.1 MA138.out.2.2.2.1 (by decide)) _).other (box_ne MA138.out.2.1 MA138.out.2.2.2.1 (by decide)) _).other (box_ne MA138.out.2.1 MA138.out.2.2.2.1 (by decide)) _).other (box_ne MA138.out.2.1 MA138.out.2.2.2.1 (by decide)) _).other (box_ne MA138.out.2.1 MA138.out.2.2.2.1 (by decide)) _).other (box_ne MA138.out.2.1 MA138.out.2.2.2.1 (by decide)) _).other (box_ne MA138.out.2.1 MA138.out.2.2.2.1 (by decide)) _).other (box_ne MA138.out.2.1 MA138.out.2.2.2.1 (by decide)) _), (((((((((MA138.out.2.2.1.other (box_ne MA138.out.2.2.1 MA138.out.2.2.2.1 (by decide)) _).other (box_ne MA138.out.2.2.1 MA138.out.2.2.2.1 (by decide)) _).other (box_ne MA138.out.2.2.1 MA138.out.2.2.2.1 (by decide)) _).other (box_ne MA138.out.2.2.1 MA138.out.2.2.2.1 (by decide)) _).other (box_ne MA138.out.2.2.1 MA138.out.2.2.2.1 (by decide)) _).other (box_ne MA138.out.2.2.1 MA138.out.2.2.2.1 (by decide)) _).other (box_ne MA138.out.2.2.1 MA138.out.2.2.2.1 (by decide)) _).other (box_ne MA138.out.2.2.1 MA138.out.2.2.2.1 (by decide)) _).other (box_ne MA138.out.2.2.1 MA138.out.2.2.2.1 (by decide)) _), by have h9 := (((((((((MA138.out.2.2.2.1.set 0 (.int .i64 cc)).set 1 (.int .i64 far)).set 2 (.int .i64 j2)).set 3 (.int .i64 (fp : Int))).set 4 (.int .i64 fa)).set 5 (.int .i64 fw)).set 6 (.int .i64 lg)).set 7 (.slice ta nb tc)).set 8 (.slice xa no xc)); exact h9, (((((((((MA138.out.2.2.2.2.1.other HE74.out.symm _).other HE74.out.symm _).other HE74.out.symm _).other HE74.out.symm _).other HE74.out.symm _).other HE74.out.symm _).other HE74.out.symm _).other HE74.out.symm _).other HE74.out.symm _), (((((((((MA138.out.2.2.2.2.2.1.set MA138.out.2.2.2.1 (by decide) 0 _).set (MA138.out.2.2.2.1.set 0 (.int .i64 cc)) (by decide) 1 _).set ((MA138.out.2.2.2.1.set 0 (.int .i64 cc)).set 1 (.int .i64 far)) (by decide) 2 _).set (((MA138.out.2.2.2.1.set 0 (.int .i64 cc)).set 1 (.int .i64 far)).set 2 (.int .i64 j2)) (by decide) 3 _).set ((((MA138.out.2.2.2.1.set 0 (.int .i64 cc)).set 1 (.int .i64 far)).set 2 (.int .i64 j2)).set 3 (.int .i64 (fp : Int))) (by decide) 4 _).set (((((MA138.out.2.2.2.1.set 0 (.int .i64 cc)).set 1 (.int .i64 far)).set 2 (.int .i64 j2)).set 3 (.int .i64 (fp : Int))).set 4 (.int .i64 fa)) (by decide) 5 _).set ((((((MA138.out.2.2.2.1.set 0 (.int .i64 cc)).set 1 (.int .i64 far)).set 2 (.int .i64 j2)).set 3 (.int .i64 (fp : Int))).set 4 (.int .i64 fa)).set 5 (.int .i64 fw)) (by decide) 6 _).set (((((((MA138.out.2.2.2.1.set 0 (.int .i64 cc)).set 1 (.int .i64 far)).set 2 (.int .i64 j2)).set 3 (.int .i64 (fp : Int))).set 4 (.int .i64 fa)).set 5 (.int .i64 fw)).set 6 (.int .i64 lg)) (by decide) 7 _).set ((((((((MA138.out.2.2.2.1.set 0 (.int .i64 cc)).set 1 (.int .i64 far)).set 2 (.int .i64 j2)).set 3 (.int .i64 (fp : Int))).set 4 (.int .i64 fa)).set 5 (.int .i64 fw)).set 6 (.int .i64 lg)).set 7 (.slice ta nb tc)) (by decide) 8 _), (((((((((MA138.out.2.2.2.2.2.2.set MA138.out.2.2.2.1 (by decide) 0 _).set (MA138.out.2.2.2.1.set 0 (.int .i64 cc)) (by decide) 1 _).set ((MA138.out.2.2.2.1.set 0 (.int .i64 cc)).set 1 (.int .i64 far)) (by decide) 2 _).set (((MA138.out.2.2.2.1.set 0 (.int .i64 cc)).set 1 (.int .i64 far)).set 2 (.int .i64 j2)) (by decide) 3 _).set ((((MA138.out.2.2.2.1.set 0 (.int .i64 cc)).set 1 (.int .i64 far)).set 2 (.int .i64 j2)).set 3 (.int .i64 (fp : Int))) (by decide) 4 _).set (((((MA138.out.2.2.2.1.set 0 (.int .i64 cc)).set 1 (.int .i64 far)).set 2 (.int .i64 j2)).set 3 (.int .i64 (fp : Int))).set 4 (.int .i64 fa)) (by decide) 5 _).set ((((((MA138.out.2.2.2.1.set 0 (.int .i64 cc)).set 1 (.int .i64 far)).set 2 (.int .i64 j2)).set 3 (.int .i64 (fp : Int))).set 4 (.int .i64 fa)).set 5 (.int .i64 fw)) (by decide) 6 _).set (((((((MA138.out.2.2.2.1.set 0 (.int .i64 cc)).set 1 (.int .i64 far)).set 2 (.int .i64 j2)).set 3 (.int .i64 (fp : Int))).set 4 (.int .i64 fa)).set 5 (.int .i64 fw)).set 6 (.int .i64 lg)) (by decide) 7 _).set ((((((((MA138.out.2.2.2.1.set 0 (.int .i64 cc)).set 1 (.int .i64 far)).set 2 (.int .i64 j2)).set 3 (.int .i64 (fp : Int))).set 4 (.int .i64 fa)).set 5 (.int .i64 fw)).set 6 (.int .i64 lg)).set 7 (.slice ta nb tc)) (by decide) 8 _)⟩
  clear MA138
  go_wp2_with fail
  clear m0 m1 m2 m3 m4 m5 m6 m7 m8 z0 z1 z2 z3 z4 z5 z6 z7 z8 zf0 zf1 zf2 zf3 zf4 zf5 zf6 zf7 zf8
  generalize (((((((((WU.setCell ⟨w.heap.size + 1 + 1, 0, none⟩ (.int .i64 cc)).setCell ⟨w.heap.size + 1 + 1, 1, none⟩ (.int .i64 far)).setCell ⟨w.heap.size + 1 + 1, 2, none⟩ (.int .i64 j2)).setCell ⟨w.heap.size + 1 + 1, 3, none⟩ (.int .i64 (fp : Int))).setCell ⟨w.heap.size + 1 + 1, 4, none⟩ (.int .i64 fa)).setCell ⟨w.heap.size + 1 + 1, 5, none⟩ (.int .i64 fw)).setCell ⟨w.heap.size + 1 + 1, 6, none⟩ (.int .i64 lg)).setCell ⟨w.heap.size + 1 + 1, 7, none⟩ (.slice ta nb tc)).setCell ⟨w.heap.size + 1 + 1, 8, none⟩ (.slice xa no xc)) = W9 at MA139 ⊢
  have z0 : W9.cell? ⟨w.heap.size + 1 + 1, 0, none⟩ = some (.int .i64 cc) := MA139.out.2.2.2.1.cell 0
  have z1 : W9.cell? ⟨w.heap.size + 1 + 1, 1, none⟩ = some (.int .i64 far) := MA139.out.2.2.2.1.cell 1
  have z2 : W9.cell? ⟨w.heap.size + 1 + 1, 2, none⟩ = some (.int .i64 j2) := MA139.out.2.2.2.1.cell 2
  have z3 : W9.cell? ⟨w.heap.size + 1 + 1, 3, none⟩ = some (.int .i64 (fp : Int)) := MA139.out.2.2.2.1.cell 3
  have z4 : W9.cell? ⟨w.heap.size + 1 + 1, 4, none⟩ = some (.int .i64 fa) := MA139.out.2.2.2.1.cell 4
  have z5 : W9.cell? ⟨w.heap.size + 1 + 1, 5, none⟩ = some (.int .i64 fw) := MA139.out.2.2.2.1.cell 5
  have z6 : W9.cell? ⟨w.heap.size + 1 + 1, 6, none⟩ = some (.int .i64 lg) := MA139.out.2.2.2.1.cell 6
  have z7 : W9.cell? ⟨w.heap.size + 1 + 1, 7, none⟩ = some (.slice ta nb tc) := MA139.out.2.2.2.1.cell 7
  have z8 : W9.cell? ⟨w.heap.size + 1 + 1, 8, none⟩ = some (.slice xa no xc) := MA139.out.2.2.2.1.cell 8
  exact bodyPost_ret (v := .agg #[.int .i64 cc, .int .i64 far, .int .i64 j2, .int .i64 (fp : Int), .int .i64 fa, .int .i64 fw, .int .i64 lg, .slice ta nb tc, .slice xa no xc]) (by simp [results, Tryz.results66, go_sem, z0, z1, z2, z3, z4, z5, z6, z7, z8]) rfl (⟨⟨fp, fa, fw, nb, B, far, no, O⟩, cc, j2, ta, tc, xa, xc, HMF.out, rfl, MA139.out.2.2.2.2.2.2, MA139.out.2.2.2.2.2.1, MA139.out.1⟩)
 case first =>
 go_wp2_with fail
 go_loopw [] (fun wr => ∃ (s : Mv) (oa : Option Addr) (oc : Nat) (xa : Option Addr) (xc : Nat), Hid (∀ r c j, MvTo v L lg T s r c j → MvTo v L lg T (mv0 fq ga gw mb C) r c j) ∧ Hid (MvOk v lg s) ∧ ((s.no : Int) ≤ s.far ∧ s.far ≤ T) ∧ Hid (Below w.heap.size w wr ∧ Box wr (w.heap.size) 40 #[.slice pa v.n pc, .slice ja v.m jc] ∧ Box wr (w.heap.size + 1) 33 #[.int .i64 (fq : Int), .int .i64 ga, .int .i64 gw, .int .i64 lg, .slice ba mb bk] ∧ Box wr (w.heap.size + 1 + 1) 61 #[.int .i64 0, .int .i64 0, .int .i64 0, .int .i64 0, .int .i64 0, .int .i64 0, .int .i64 0, .slice none 0 0, .slice none 0 0] ∧ Box wr (ob) 61 #[.int .i64 0, .int .i64 s.far, .int .i64 (-1), .int .i64 (s.fp : Int), .int .i64 s.fa, .int .i64 s.fw, .int .i64 lg, .slice oa s.nb oc, .slice xa s.no xc] ∧ VOwn w.heap.size 74 2 wr (.slice oa s.nb oc) s.nb (intF s.B) ∧ VOwn w.heap.size 112 3 wr (.slice xa s.no xc) s.no (intF s.O))) (fun wr => mvM v T (wr.cell? ⟨ob, 1, none⟩) (wr.cell? ⟨ob, 3, none⟩) (wr.cell? ⟨ob, 4, none⟩) (wr.cell? ⟨ob, 5, none⟩))
 case atStart => exact ⟨(mv0 fq ga gw mb C), oa, oc, none, 0, fun _ _ _ h => h, HT.out, ⟨by simp [mv0], hT.1⟩, ⟨S3.out.1, S3.out.2.1, S3.out.2.2.1, S3.out.2.2.2.1, S3.out.2.2.2.2.2, S3.out.2.2.2.2.1, VOwn.nil _ _ _ _ _⟩⟩
 case round =>
  clear S3
  obtain ⟨⟨fp, fa, fw, nb, B, far, no, O⟩, oa, oc, xa, xc, HS, HOK, hno, T0⟩ := hrel
  have D : Hid (Below w.heap.size w wr ∧ Box wr (w.heap.size) 40 #[.slice pa v.n pc, .slice ja v.m jc] ∧ Box wr (w.heap.size + 1) 33 #[.int .i64 (fq : Int), .int .i64 ga, .int .i64 gw, .int .i64 lg, .slice ba mb bk] ∧ Box wr (w.heap.size + 1 + 1) 61 #[.int .i64 0, .int .i64 0, .int .i64 0, .int .i64 0, .int .i64 0, .int .i64 0, .int .i64 0, .slice none 0 0, .slice none 0 0] ∧ Box wr (ob) 61 #[.int .i64 0, .int .i64 far, .int .i64 (-1), .int .i64 (fp : Int), .int .i64 fa, .int .i64 fw, .int .i64 lg, .slice oa nb oc, .slice xa no xc] ∧ VOwn w.heap.size 74 2 wr (.slice oa nb oc) nb (intF B) ∧ VOwn w.heap.size 112 3 wr (.slice xa no xc) no (intF O)) := T0
  have hno : (no : Int) ≤ far ∧ far ≤ T := hno
  clear T0
  have HMT0 : Hid (mvM v T (wr.cell? ⟨ob, 1, none⟩) (wr.cell? ⟨ob, 3, none⟩) (wr.cell? ⟨ob, 4, none⟩) (wr.cell? ⟨ob, 5, none⟩) = 2 * (T - far).toNat + (if mvR v (⟨fp, fa, fw, nb, B, far, no, O⟩ : Mv) = 0 then 1 else 0)) := mvM_at (⟨fp, fa, fw, nb, B, far, no, O⟩ : Mv) (D.out.2.2.2.2.1.cell 1) (D.out.2.2.2.2.1.cell 3) (D.out.2.2.2.2.1.cell 4) (D.out.2.2.2.2.1.cell 5)
  obtain ⟨hfp, hfw, hfa⟩ : fp < v.n ∧ (fw = 1 ∨ fw = -1) ∧ 0 ≤ fa ∧ fa ≤ (v.P fp).ln := mv_spot HOK.out
  have hln := OK.out.1.ln fp hfp
  by_cases hlt : far < T
  ·
   obtain ⟨rm, HRM⟩ : ∃ r, Hid ((if fw = 1 then (v.P fp).ln - fa else fa) = r) := ⟨_, rfl⟩
   have HRS : Hid (mvR v (⟨fp, fa, fw, nb, B, far, no, O⟩ : Mv) = rm) := HRM.out
   have x0 : wr.cell? ⟨w.heap.size, 0, none⟩ = some (.slice pa v.n pc) := D.out.2.1.cell 0
   have x1 : wr.cell? ⟨w.heap.size, 1, none⟩ = some (.slice ja v.m jc) := D.out.2.1.cell 1
   have m0 : wr.cell? ⟨ob, 0, none⟩ = some (.int .i64 0) := D.out.2.2.2.2.1.cell 0
   have m1 : wr.cell? ⟨ob, 1, none⟩ = some (.int .i64 far) := D.out.2.2.2.2.1.cell 1
   have m2 : wr.cell? ⟨ob, 2, none⟩ = some (.int .i64 (-1)) := D.out.2.2.2.2.1.cell 2
   have m3 : wr.cell? ⟨ob, 3, none⟩ = some (.int .i64 (fp : Int)) := D.out.2.2.2.2.1.cell 3
   have m4 : wr.cell? ⟨ob, 4, none⟩ = some (.int .i64 fa) := D.out.2.2.2.2.1.cell 4
   have m5 : wr.cell? ⟨ob, 5, none⟩ = some (.int .i64 fw) := D.out.2.2.2.2.1.cell 5
   have m6 : wr.cell? ⟨ob, 6, none⟩ = some (.int .i64 lg) := D.out.2.2.2.2.1.cell 6
   have m7 : wr.cell? ⟨ob, 7, none⟩ = some (.slice oa nb oc) := D.out.2.2.2.2.1.cell 7
   have m8 : wr.cell? ⟨ob, 8, none⟩ = some (.slice xa no xc) := D.out.2.2.2.2.1.cell 8
   go_wp2_with fail
   clear x0 x1 m0 m1 m2 m3 m4 m5 m6 m7 m8
   refine (room90 OK.out.1 pa pc ja jc fp fa fw wr hfp hfa (H.out.1.mono nr D.out.1 nr)).mono ?_
   rintro e w7 ⟨he, hb⟩
   rw [HRM.out] at he
   subst he
   have M7 : Hid (Below w.heap.size w w7 ∧ Box w7 (w.heap.size) 40 #[.slice pa v.n pc, .slice ja v.m jc] ∧ Box w7 (w.heap.size + 1) 33 #[.int .i64 (fq : Int), .int .i64 ga, .int .i64 gw, .int .i64 lg, .slice ba mb bk] ∧ Box w7 (w.heap.size + 1 + 1) 61 #[.int .i64 0, .int .i64 0, .int .i64 0, .int .i64 0, .int .i64 0, .int .i64 0, .int .i64 0, .slice none 0 0, .slice none 0 0] ∧ Box w7 (ob) 61 #[.int .i64 0, .int .i64 far, .int .i64 (-1), .int .i64 (fp : Int), .int .i64 fa, .int .i64 fw, .int .i64 lg, .slice oa nb oc, .slice xa no xc] ∧ VOwn w.heap.size 74 2 w7 (.slice oa nb oc) nb (intF B) ∧ VOwn w.heap.size 112 3 w7 (.slice xa no xc) no (intF O)) := ⟨D.out.1.trans (hb.mono D.out.1.size), D.out.2.1.mono hb nr, D.out.2.2.1.mono hb nr, D.out.2.2.2.1.mono hb nr, D.out.2.2.2.2.1.mono hb nr, D.out.2.2.2.2.2.1.mono nr hb nr, D.out.2.2.2.2.2.2.mono nr hb nr⟩
   clear hb D
   by_cases hr0 : rm = 0
   ·
    subst hr0
    have HR0 : Hid (mvR v (⟨fp, fa, fw, nb, B, far, no, O⟩ : Mv) = 0) := HRS.out
    obtain ⟨cd, HCD⟩ : ∃ c, Hid ((exitAt v L fp fw).2 = c) := ⟨_, rfl⟩
    obtain ⟨jj, HJJ⟩ : ∃ j : Int, Hid (((v.at (headE (fp : Int) fw)).1 : Int) = j) := ⟨_, rfl⟩
    have HJS : Hid (mvJ v (⟨fp, fa, fw, nb, B, far, no, O⟩ : Mv) = jj) := HJJ.out
    have m0 : w7.cell? ⟨ob, 0, none⟩ = some (.int .i64 0) := M7.out.2.2.2.2.1.cell 0
    have m1 : w7.cell? ⟨ob, 1, none⟩ = some (.int .i64 far) := M7.out.2.2.2.2.1.cell 1
    have m2 : w7.cell? ⟨ob, 2, none⟩ = some (.int .i64 (-1)) := M7.out.2.2.2.2.1.cell 2
    have m3 : w7.cell? ⟨ob, 3, none⟩ = some (.int .i64 (fp : Int)) := M7.out.2.2.2.2.1.cell 3
    have m4 : w7.cell? ⟨ob, 4, none⟩ = some (.int .i64 fa) := M7.out.2.2.2.2.1.cell 4
    have m5 : w7.cell? ⟨ob, 5, none⟩ = some (.int .i64 fw) := M7.out.2.2.2.2.1.cell 5
    have m6 : w7.cell? ⟨ob, 6, none⟩ = some (.int .i64 lg) := M7.out.2.2.2.2.1.cell 6
    have m7 : w7.cell? ⟨ob, 7, none⟩ = some (.slice oa nb oc) := M7.out.2.2.2.2.1.cell 7
    have m8 : w7.cell? ⟨ob, 8, none⟩ = some (.slice xa no xc) := M7.out.2.2.2.2.1.cell 8
    have M8 : Hid (Below w.heap.size w (w7.alloc (.cells #[.int .i64 (fp : Int), .int .i64 fa, .int .i64 fw] 30)) ∧ Box (w7.alloc (.cells #[.int .i64 (fp : Int), .int .i64 fa, .int .i64 fw] 30)) (w.heap.size) 40 #[.slice pa v.n pc, .slice ja v.m jc] ∧ Box (w7.alloc (.cells #[.int .i64 (fp : Int), .int .i64 fa, .int .i64 fw] 30)) (w.heap.size + 1) 33 #[.int .i64 (fq : Int), .int .i64 ga, .int .i64 gw, .int .i64 lg, .slice ba mb bk] ∧ Box (w7.alloc (.cells #[.int .i64 (fp : Int), .int .i64 fa, .int .i64 fw] 30)) (w.heap.size + 1 + 1) 61 #[.int .i64 0, .int .i64 0, .int .i64 0, .int .i64 0, .int .i64 0, .int .i64 0, .int .i64 0, .slice none 0 0, .slice none 0 0] ∧ Box (w7.alloc (.cells #[.int .i64 (fp : Int), .int .i64 fa, .int .i64 fw] 30)) (ob) 61 #[.int .i64 0, .int .i64 far, .int .i64 (-1), .int .i64 (fp : Int), .int .i64 fa, .int .i64 fw, .int .i64 lg, .slice oa nb oc, .slice xa no xc] ∧ VOwn w.heap.size 74 2 (w7.alloc (.cells #[.int .i64 (fp : Int), .int .i64 fa, .int .i64 fw] 30)) (.slice oa nb oc) nb (intF B) ∧ VOwn w.heap.size 112 3 (w7.alloc (.cells #[.int .i64 (fp : Int), .int .i64 fa, .int .i64 fw] 30)) (.slice xa no xc) no (intF O) ∧ Box (w7.alloc (.cells #[.int .i64 (fp : Int), .int .i64 fa, .int .i64 fw] 30)) (w7.heap.size) 30 #[.int .i64 (fp : Int), .int .i64 fa, .int .i64 fw]) := ⟨M7.out.1.alloc M7.out.1.size _, M7.out.2.1.alloc _, M7.out.2.2.1.alloc _, M7.out.2.2.2.1.alloc _, M7.out.2.2.2.2.1.alloc _, M7.out.2.2.2.2.2.1.alloc _, M7.out.2.2.2.2.2.2.alloc _, Box.new _ _ _⟩
    have HL77 : Hid (w.heap.size ≤ w7.heap.size) := M7.out.1.size
    go_upto_region 9 with fail
    clear m0 m1 m2 m3 m4 m5 m6 m7 m8 M7
    generalize w7.alloc (.cells #[.int .i64 (fp : Int), .int .i64 fa, .int .i64 fw] 30) = V8 at M8 ⊢
    generalize w7.heap.size = fb at M8 HL77 ⊢
    go_cut [12, 13, 14] from 28 to 142 (fun s12 s13 s14 wx => ∃ (eb : Nat) (a b : Int), s12 = .pointer (some ⟨eb, 0, none⟩) ∧ s13 = .int .i64 cd ∧ s14 = .int .i64 jj ∧ Hid (cd = 0 → a = (nextAt v L fp fw).pc ∧ b = (nextAt v L fp fw).sd) ∧ Hid (Below w.heap.size w wx ∧ Box wx (w.heap.size) 40 #[.slice pa v.n pc, .slice ja v.m jc] ∧ Box wx (w.heap.size + 1) 33 #[.int .i64 (fq : Int), .int .i64 ga, .int .i64 gw, .int .i64 lg, .slice ba mb bk] ∧ Box wx (w.heap.size + 1 + 1) 61 #[.int .i64 0, .int .i64 0, .int .i64 0, .int .i64 0, .int .i64 0, .int .i64 0, .int .i64 0, .slice none 0 0, .slice none 0 0] ∧ Box wx (ob) 61 #[.int .i64 0, .int .i64 far, .int .i64 (-1), .int .i64 (fp : Int), .int .i64 fa, .int .i64 fw, .int .i64 lg, .slice oa nb oc, .slice xa no xc] ∧ VOwn w.heap.size 74 2 wx (.slice oa nb oc) nb (intF B) ∧ VOwn w.heap.size 112 3 wx (.slice xa no xc) no (intF O) ∧ Box wx (fb) 30 #[.int .i64 (fp : Int), .int .i64 fa, .int .i64 fw] ∧ Box wx (eb) 76 #[.int .i64 a, .int .i64 b]))
    case first =>
     have x0 : V8.cell? ⟨w.heap.size, 0, none⟩ = some (.slice pa v.n pc) := M8.out.2.1.cell 0
     have x1 : V8.cell? ⟨w.heap.size, 1, none⟩ = some (.slice ja v.m jc) := M8.out.2.1.cell 1
     have u0 : V8.cell? ⟨fb, 0, none⟩ = some (.int .i64 (fp : Int)) := M8.out.2.2.2.2.2.2.2.cell 0
     have u1 : V8.cell? ⟨fb, 1, none⟩ = some (.int .i64 fa) := M8.out.2.2.2.2.2.2.2.cell 1
     have u2 : V8.cell? ⟨fb, 2, none⟩ = some (.int .i64 fw) := M8.out.2.2.2.2.2.2.2.cell 2
     go_wp2_with fail
     refine wp_region_held_drew (S := (fun wx : World => wx.cell? ⟨w.heap.size, 0, none⟩ = some (.slice pa v.n pc) ∧ wx.cell? ⟨w.heap.size, 1, none⟩ = some (.slice ja v.m jc) ∧ wx.cell? ⟨fb, 0, none⟩ = some (.int .i64 (fp : Int)) ∧ wx.cell? ⟨fb, 1, none⟩ = some (.int .i64 fa) ∧ wx.cell? ⟨fb, 2, none⟩ = some (.int .i64 fw))) (by kernel_rfl) ?_ (fun hHeld => ?_)
     ·
      exact ⟨x0, x1, u0, u1, u2⟩
     have MD140 : Hid (Below w.heap.size w V8.drew ∧ Box V8.drew (w.heap.size) 40 #[.slice pa v.n pc, .slice ja v.m jc] ∧ Box V8.drew (w.heap.size + 1) 33 #[.int .i64 (fq : Int), .int .i64 ga, .int .i64 gw, .int .i64 lg, .slice ba mb bk] ∧ Box V8.drew (w.heap.size + 1 + 1) 61 #[.int .i64 0, .int .i64 0, .int .i64 0, .int .i64 0, .int .i64 0, .int .i64 0, .int .i64 0, .slice none 0 0, .slice none 0 0] ∧ Box V8.drew (ob) 61 #[.int .i64 0, .int .i64 far, .int .i64 (-1), .int .i64 (fp : Int), .int .i64 fa, .int .i64 fw, .int .i64 lg, .slice oa nb oc, .slice xa no xc] ∧ VOwn w.heap.size 74 2 V8.drew (.slice oa nb oc) nb (intF B) ∧ VOwn w.heap.size 112 3 V8.drew (.slice xa no xc) no (intF O) ∧ Box V8.drew (fb) 30 #[.int .i64 (fp : Int), .int .i64 fa, .int .i64 fw]) := ⟨M8.out.1.drew, M8.out.2.1.drew, M8.out.2.2.1.drew, M8.out.2.2.2.1.drew, M8.out.2.2.2.2.1.drew, M8.out.2.2.2.2.2.1, M8.out.2.2.2.2.2.2.1, M8.out.2.2.2.2.2.2.2.drew⟩
     clear x0 x1 u0 u1 u2 M8
     generalize V8.drew = VD at MD140 hHeld ⊢
     refine tk 0 ?_
     refine tk 1 ?_
     refine tk 2 ?_
     refine tk 3 ?_
     refine tk 4 ?_
     refine tk 5 ?_
     refine ready2_lit (i := 6) (j := 12) (by kernel_rfl) rfl rfl (fun K hK => ?_) (fun K hK => ?_)
     ·
      go_simp
      refine (l12head79 (fp : Int) fw _).mono ?_
      rintro e wh141 ⟨rfl, hb⟩
      have MA142 : Hid (Below w.heap.size w wh141 ∧ Box wh141 (w.heap.size) 40 #[.slice pa v.n pc, .slice ja v.m jc] ∧ Box wh141 (w.heap.size + 1) 33 #[.int .i64 (fq : Int), .int .i64 ga, .int .i64 gw, .int .i64 lg, .slice ba mb bk] ∧ Box wh141 (w.heap.size + 1 + 1) 61 #[.int .i64 0, .int .i64 0, .int .i64 0, .int .i64 0, .int .i64 0, .int .i64 0, .int .i64 0, .slice none 0 0, .slice none 0 0] ∧ Box wh141 (ob) 61 #[.int .i64 0, .int .i64 far, .int .i64 (-1), .int .i64 (fp : Int), .int .i64 fa, .int .i64 fw, .int .i64 lg, .slice oa nb oc, .slice xa no xc] ∧ VOwn w.heap.size 74 2 wh141 (.slice oa nb oc) nb (intF B) ∧ VOwn w.heap.size 112 3 wh141 (.slice xa no xc) no (intF O) ∧ Box wh141 (fb) 30 #[.int .i64 (fp : Int), .int .i64 fa, .int .i64 fw]) := ⟨MD140.out.1.trans (hb.mono MD140.out.1.size), MD140.out.2.1.mono hb nr, MD140.out.2.2.1.mono hb nr, MD140.out.2.2.2.1.mono hb nr, MD140.out.2.2.2.2.1.mono hb nr, MD140.out.2.2.2.2.2.1.mono nr hb nr, MD140.out.2.2.2.2.2.2.1.mono nr hb nr, MD140.out.2.2.2.2.2.2.2.mono hb nr⟩
      clear hb MD140
      go_wp2_with fail
      refine hK.out _ _ ?_ (fun hHeld => ?_)
      ·
       exact ⟨MA142.out.2.1.cell 0, MA142.out.2.1.cell 1, MA142.out.2.2.2.2.2.2.2.cell 0, MA142.out.2.2.2.2.2.2.2.cell 1, MA142.out.2.2.2.2.2.2.2.cell 2⟩
      clear hK K
      refine ready2_lit (i := 7) (j := 12) (by kernel_rfl) rfl rfl (fun K hK => ?_) (fun K hK => ?_)
      ·
       go_simp
       refine (over36j OK.out.1 pa pc ja jc fp fw la lc L _ hfp (H.out.2.1.mono nr MA142.out.1 nr) (H.out.2.2.2.mono nr MA142.out.1 nr) OK.out.2).mono ?_
       rintro e wh143 ⟨a, b, he, hab, hb⟩
       have HAB : Hid (cd = 0 → a = (nextAt v L fp fw).pc ∧ b = (nextAt v L fp fw).sd) := by rw [HCD.out] at hab; exact hab
       rw [HCD.out, HJJ.out] at he
       subst he
       clear hab
       have MA144 : Hid (Below w.heap.size w wh143 ∧ Box wh143 (w.heap.size) 40 #[.slice pa v.n pc, .slice ja v.m jc] ∧ Box wh143 (w.heap.size + 1) 33 #[.int .i64 (fq : Int), .int .i64 ga, .int .i64 gw, .int .i64 lg, .slice ba mb bk] ∧ Box wh143 (w.heap.size + 1 + 1) 61 #[.int .i64 0, .int .i64 0, .int .i64 0, .int .i64 0, .int .i64 0, .int .i64 0, .int .i64 0, .slice none 0 0, .slice none 0 0] ∧ Box wh143 (ob) 61 #[.int .i64 0, .int .i64 far, .int .i64 (-1), .int .i64 (fp : Int), .int .i64 fa, .int .i64 fw, .int .i64 lg, .slice oa nb oc, .slice xa no xc] ∧ VOwn w.heap.size 74 2 wh143 (.slice oa nb oc) nb (intF B) ∧ VOwn w.heap.size 112 3 wh143 (.slice xa no xc) no (intF O) ∧ Box wh143 (fb) 30 #[.int .i64 (fp : Int), .int .i64 fa, .int .i64 fw]) := ⟨MA142.out.1.trans (hb.mono MA142.out.1.size), MA142.out.2.1.mono hb nr, MA142.out.2.2.1.mono hb nr, MA142.out.2.2.2.1.mono hb nr, MA142.out.2.2.2.2.1.mono hb nr, MA142.out.2.2.2.2.2.1.mono nr hb nr, MA142.out.2.2.2.2.2.2.1.mono nr hb nr, MA142.out.2.2.2.2.2.2.2.mono hb nr⟩
       clear hb MA142
       go_wp2_with fail
       refine hK.out _ _ ?_ (fun hHeld => ?_)
       ·
        exact ⟨MA144.out.2.1.cell 0, MA144.out.2.1.cell 1, MA144.out.2.2.2.2.2.2.2.cell 0, MA144.out.2.2.2.2.2.2.2.cell 1, MA144.out.2.2.2.2.2.2.2.cell 2⟩
       clear hK K
       refine tk 8 ?_
       refine tk 9 ?_
       refine tk 10 ?_
       refine tk 11 ?_
       refine rl 12 fun K hK => ?_
       have MA146 : Hid (Below w.heap.size w (wh143.alloc (.cells #[.int .i64 0, .int .i64 0] 76)) ∧ Box (wh143.alloc (.cells #[.int .i64 0, .int .i64 0] 76)) (w.heap.size) 40 #[.slice pa v.n pc, .slice ja v.m jc] ∧ Box (wh143.alloc (.cells #[.int .i64 0, .int .i64 0] 76)) (w.heap.size + 1) 33 #[.int .i64 (fq : Int), .int .i64 ga, .int .i64 gw, .int .i64 lg, .slice ba mb bk] ∧ Box (wh143.alloc (.cells #[.int .i64 0, .int .i64 0] 76)) (w.heap.size + 1 + 1) 61 #[.int .i64 0, .int .i64 0, .int .i64 0, .int .i64 0, .int .i64 0, .int .i64 0, .int .i64 0, .slice none 0 0, .slice none 0 0] ∧ Box (wh143.alloc (.cells #[.int .i64 0, .int .i64 0] 76)) (ob) 61 #[.int .i64 0, .int .i64 far, .int .i64 (-1), .int .i64 (fp : Int), .int .i64 fa, .int .i64 fw, .int .i64 lg, .slice oa nb oc, .slice xa no xc] ∧ VOwn w.heap.size 74 2 (wh143.alloc (.cells #[.int .i64 0, .int .i64 0] 76)) (.slice oa nb oc) nb (intF B) ∧ VOwn w.heap.size 112 3 (wh143.alloc (.cells #[.int .i64 0, .int .i64 0] 76)) (.slice xa no xc) no (intF O) ∧ Box (wh143.alloc (.cells #[.int .i64 0, .int .i64 0] 76)) (fb) 30 #[.int .i64 (fp : Int), .int .i64 fa, .int .i64 fw] ∧ Box (wh143.alloc (.cells #[.int .i64 0, .int .i64 0] 76)) (wh143.heap.size) 76 #[.int .i64 0, .int .i64 0]) := ⟨MA144.out.1.alloc MA144.out.1.size _, MA144.out.2.1.alloc _, MA144.out.2.2.1.alloc _, MA144.out.2.2.2.1.alloc _, MA144.out.2.2.2.2.1.alloc _, MA144.out.2.2.2.2.2.1.alloc _, MA144.out.2.2.2.2.2.2.1.alloc _, MA144.out.2.2.2.2.2.2.2.alloc _, Box.new _ _ _⟩
       have HL147 : Hid (w.heap.size ≤ wh143.heap.size) := MA144.out.1.size
       clear MA144
       go_simp
       refine hK.out _ _ ?_ (fun hHeld => ?_)
       ·
        exact ⟨MA146.out.2.1.cell 0, MA146.out.2.1.cell 1, MA146.out.2.2.2.2.2.2.2.1.cell 0, MA146.out.2.2.2.2.2.2.2.1.cell 1, MA146.out.2.2.2.2.2.2.2.1.cell 2⟩
       clear hK K
       clear hHeld
       generalize wh143.alloc (.cells #[.int .i64 0, .int .i64 0] 76) = V145 at MA146 ⊢
       generalize wh143.heap.size = eb at MA146 HL147 ⊢
       have z0 : V145.cell? ⟨eb, 0, none⟩ = some (.int .i64 0) := MA146.out.2.2.2.2.2.2.2.2.cell 0
       have z1 : V145.cell? ⟨eb, 1, none⟩ = some (.int .i64 0) := MA146.out.2.2.2.2.2.2.2.2.cell 1
       have zf0 := MA146.out.2.2.2.2.2.2.2.2.free 0
       have zf1 := MA146.out.2.2.2.2.2.2.2.2.free 1
       have MA148 : Hid (Below w.heap.size w ((V145.setCell ⟨eb, 0, none⟩ (.int .i64 a)).setCell ⟨eb, 1, none⟩ (.int .i64 b)) ∧ Box ((V145.setCell ⟨eb, 0, none⟩ (.int .i64 a)).setCell ⟨eb, 1, none⟩ (.int .i64 b)) (w.heap.size) 40 #[.slice pa v.n pc, .slice ja v.m jc] ∧ Box ((V145.setCell ⟨eb, 0, none⟩ (.int .i64 a)).setCell ⟨eb, 1, none⟩ (.int .i64 b)) (w.heap.size + 1) 33 #[.int .i64 (fq : Int), .int .i64 ga, .int .i64 gw, .int .i64 lg, .slice ba mb bk] ∧ Box ((V145.setCell ⟨eb, 0, none⟩ (.int .i64 a)).setCell ⟨eb, 1, none⟩ (.int .i64 b)) (w.heap.size + 1 + 1) 61 #[.int .i64 0, .int .i64 0, .int .i64 0, .int .i64 0, .int .i64 0, .int .i64 0, .int .i64 0, .slice none 0 0, .slice none 0 0] ∧ Box ((V145.setCell ⟨eb, 0, none⟩ (.int .i64 a)).setCell ⟨eb, 1, none⟩ (.int .i64 b)) (ob) 61 #[.int .i64 0, .int .i64 far, .int .i64 (-1), .int .i64 (fp : Int), .int .i64 fa, .int .i64 fw, .int .i64 lg, .slice oa nb oc, .slice xa no xc] ∧ VOwn w.heap.size 74 2 ((V145.setCell ⟨eb, 0, none⟩ (.int .i64 a)).setCell ⟨eb, 1, none⟩ (.int .i64 b)) (.slice oa nb oc) nb (intF B) ∧ VOwn w.heap.size 112 3 ((V145.setCell ⟨eb, 0, none⟩ (.int .i64 a)).setCell ⟨eb, 1, none⟩ (.int .i64 b)) (.slice xa no xc) no (intF O) ∧ Box ((V145.setCell ⟨eb, 0, none⟩ (.int .i64 a)).setCell ⟨eb, 1, none⟩ (.int .i64 b)) (fb) 30 #[.int .i64 (fp : Int), .int .i64 fa, .int .i64 fw] ∧ Box ((V145.setCell ⟨eb, 0, none⟩ (.int .i64 a)).setCell ⟨eb, 1, none⟩ (.int .i64 b)) (eb) 76 #[.int .i64 a, .int .i64 b]) := ⟨((MA146.out.1.setCell HL147.out _).setCell HL147.out _), ((MA146.out.2.1.other (box_ne MA146.out.2.1 MA146.out.2.2.2.2.2.2.2.2 (by decide)) _).other (box_ne MA146.out.2.1 MA146.out.2.2.2.2.2.2.2.2 (by decide)) _), ((MA146.out.2.2.1.other (box_ne MA146.out.2.2.1 MA146.out.2.2.2.2.2.2.2.2 (by decide)) _).other (box_ne MA146.out.2.2.1 MA146.out.2.2.2.2.2.2.2.2 (by decide)) _), ((MA146.out.2.2.2.1.other (box_ne MA146.out.2.2.2.1 MA146.out.2.2.2.2.2.2.2.2 (by decide)) _).other (box_ne MA146.out.2.2.2.1 MA146.out.2.2.2.2.2.2.2.2 (by decide)) _), ((MA146.out.2.2.2.2.1.other (box_ne MA146.out.2.2.2.2.1 MA146.out.2.2.2.2.2.2.2.2 (by decide)) _).other (box_ne MA146.out.2.2.2.2.1 MA146.out.2.2.2.2.2.2.2.2 (by decide)) _), ((MA146.out.2.2.2.2.2.1.set MA146.out.2.2.2.2.2.2.2.2 (by decide) 0 _).set (MA146.out.2.2.2.2.2.2.2.2.set 0 (.int .i64 a)) (by decide) 1 _), ((MA146.out.2.2.2.2.2.2.1.set MA146.out.2.2.2.2.2.2.2.2 (by decide) 0 _).set (MA146.out.2.2.2.2.2.2.2.2.set 0 (.int .i64 a)) (by decide) 1 _), ((MA146.out.2.2.2.2.2.2.2.1.other (box_ne MA146.out.2.2.2.2.2.2.2.1 MA146.out.2.2.2.2.2.2.2.2 (by decide)) _).other (box_ne MA146.out.2.2.2.2.2.2.2.1 MA146.out.2.2.2.2.2.2.2.2 (by decide)) _), by have h9 := ((MA146.out.2.2.2.2.2.2.2.2.set 0 (.int .i64 a)).set 1 (.int .i64 b)); exact h9⟩
       clear MA146
       refine rl 13 fun K hK => ?_
       go_simp
       refine hK.out _ _ ?_ (fun hHeld => ?_)
       ·
        exact ⟨MA148.out.2.1.cell 0, MA148.out.2.1.cell 1, MA148.out.2.2.2.2.2.2.2.1.cell 0, MA148.out.2.2.2.2.2.2.2.1.cell 1, MA148.out.2.2.2.2.2.2.2.1.cell 2⟩
       clear hK K
       refine tk 14 ?_
       refine tk 15 ?_
       refine wpAnyH_done (by kernel_rfl) ?_ _
       clear z0 z1 zf0 zf1 hHeld
       generalize ((V145.setCell ⟨eb, 0, none⟩ (.int .i64 a)).setCell ⟨eb, 1, none⟩ (.int .i64 b)) = W149 at MA148 ⊢
       go_wp2_with fail
       go_meet
       case rel => exact ⟨eb, a, b, rfl, rfl, rfl, HAB, ⟨MA148.out.1, MA148.out.2.1, MA148.out.2.2.1, MA148.out.2.2.2.1, MA148.out.2.2.2.2.1, MA148.out.2.2.2.2.2.1, MA148.out.2.2.2.2.2.2.1, MA148.out.2.2.2.2.2.2.2.1, MA148.out.2.2.2.2.2.2.2.2⟩⟩
      ·
       have MA151 : Hid (Below w.heap.size w (wh141.alloc (.cells #[.int .i64 0, .int .i64 0] 76)) ∧ Box (wh141.alloc (.cells #[.int .i64 0, .int .i64 0] 76)) (w.heap.size) 40 #[.slice pa v.n pc, .slice ja v.m jc] ∧ Box (wh141.alloc (.cells #[.int .i64 0, .int .i64 0] 76)) (w.heap.size + 1) 33 #[.int .i64 (fq : Int), .int .i64 ga, .int .i64 gw, .int .i64 lg, .slice ba mb bk] ∧ Box (wh141.alloc (.cells #[.int .i64 0, .int .i64 0] 76)) (w.heap.size + 1 + 1) 61 #[.int .i64 0, .int .i64 0, .int .i64 0, .int .i64 0, .int .i64 0, .int .i64 0, .int .i64 0, .slice none 0 0, .slice none 0 0] ∧ Box (wh141.alloc (.cells #[.int .i64 0, .int .i64 0] 76)) (ob) 61 #[.int .i64 0, .int .i64 far, .int .i64 (-1), .int .i64 (fp : Int), .int .i64 fa, .int .i64 fw, .int .i64 lg, .slice oa nb oc, .slice xa no xc] ∧ VOwn w.heap.size 74 2 (wh141.alloc (.cells #[.int .i64 0, .int .i64 0] 76)) (.slice oa nb oc) nb (intF B) ∧ VOwn w.heap.size 112 3 (wh141.alloc (.cells #[.int .i64 0, .int .i64 0] 76)) (.slice xa no xc) no (intF O) ∧ Box (wh141.alloc (.cells #[.int .i64 0, .int .i64 0] 76)) (fb) 30 #[.int .i64 (fp : Int), .int .i64 fa, .int .i64 fw] ∧ Box (wh141.alloc (.cells #[.int .i64 0, .int .i64 0] 76)) (wh141.heap.size) 76 #[.int .i64 0, .int .i64 0]) := ⟨MA142.out.1.alloc MA142.out.1.size _, MA142.out.2.1.alloc _, MA142.out.2.2.1.alloc _, MA142.out.2.2.2.1.alloc _, MA142.out.2.2.2.2.1.alloc _, MA142.out.2.2.2.2.2.1.alloc _, MA142.out.2.2.2.2.2.2.1.alloc _, MA142.out.2.2.2.2.2.2.2.alloc _, Box.new _ _ _⟩
       have HL152 : Hid (w.heap.size ≤ wh141.heap.size) := MA142.out.1.size
       clear MA142
       go_simp
       refine hK.out _ _ ?_ (fun hHeld => ?_)
       ·
        exact ⟨MA151.out.2.1.cell 0, MA151.out.2.1.cell 1, MA151.out.2.2.2.2.2.2.2.1.cell 0, MA151.out.2.2.2.2.2.2.2.1.cell 1, MA151.out.2.2.2.2.2.2.2.1.cell 2⟩
       clear hK K
       clear hHeld
       generalize wh141.alloc (.cells #[.int .i64 0, .int .i64 0] 76) = V150 at MA151 ⊢
       generalize wh141.heap.size = eb at MA151 HL152 ⊢
       refine rl 7 fun K hK => ?_
       go_simp
       refine (over36j OK.out.1 pa pc ja jc fp fw la lc L _ hfp (H.out.2.1.mono nr MA151.out.1 nr) (H.out.2.2.2.mono nr MA151.out.1 nr) OK.out.2).mono ?_
       rintro e wh153 ⟨a, b, he, hab, hb⟩
       have HAB : Hid (cd = 0 → a = (nextAt v L fp fw).pc ∧ b = (nextAt v L fp fw).sd) := by rw [HCD.out] at hab; exact hab
       rw [HCD.out, HJJ.out] at he
       subst he
       clear hab
       have MA154 : Hid (Below w.heap.size w wh153 ∧ Box wh153 (w.heap.size) 40 #[.slice pa v.n pc, .slice ja v.m jc] ∧ Box wh153 (w.heap.size + 1) 33 #[.int .i64 (fq : Int), .int .i64 ga, .int .i64 gw, .int .i64 lg, .slice ba mb bk] ∧ Box wh153 (w.heap.size + 1 + 1) 61 #[.int .i64 0, .int .i64 0, .int .i64 0, .int .i64 0, .int .i64 0, .int .i64 0, .int .i64 0, .slice none 0 0, .slice none 0 0] ∧ Box wh153 (ob) 61 #[.int .i64 0, .int .i64 far, .int .i64 (-1), .int .i64 (fp : Int), .int .i64 fa, .int .i64 fw, .int .i64 lg, .slice oa nb oc, .slice xa no xc] ∧ VOwn w.heap.size 74 2 wh153 (.slice oa nb oc) nb (intF B) ∧ VOwn w.heap.size 112 3 wh153 (.slice xa no xc) no (intF O) ∧ Box wh153 (fb) 30 #[.int .i64 (fp : Int), .int .i64 fa, .int .i64 fw] ∧ Box wh153 (eb) 76 #[.int .i64 0, .int .i64 0]) := ⟨MA151.out.1.trans (hb.mono MA151.out.1.size), MA151.out.2.1.mono hb nr, MA151.out.2.2.1.mono hb nr, MA151.out.2.2.2.1.mono hb nr, MA151.out.2.2.2.2.1.mono hb nr, MA151.out.2.2.2.2.2.1.mono nr hb nr, MA151.out.2.2.2.2.2.2.1.mono nr hb nr, MA151.out.2.2.2.2.2.2.2.1.mono hb nr, MA151.out.2.2.2.2.2.2.2.2.mono hb nr⟩
       clear hb MA151
       go_wp2_with fail
       refine hK.out _ _ ?_ (fun hHeld => ?_)
       ·
        exact ⟨MA154.out.2.1.cell 0, MA154.out.2.1.cell 1, MA154.out.2.2.2.2.2.2.2.1.cell 0, MA154.out.2.2.2.2.2.2.2.1.cell 1, MA154.out.2.2.2.2.2.2.2.1.cell 2⟩
       clear hK K
       refine tk 8 ?_
       refine tk 9 ?_
       refine tk 10 ?_
       refine tk 11 ?_
       have z0 : wh153.cell? ⟨eb, 0, none⟩ = some (.int .i64 0) := MA154.out.2.2.2.2.2.2.2.2.cell 0
       have z1 : wh153.cell? ⟨eb, 1, none⟩ = some (.int .i64 0) := MA154.out.2.2.2.2.2.2.2.2.cell 1
       have zf0 := MA154.out.2.2.2.2.2.2.2.2.free 0
       have zf1 := MA154.out.2.2.2.2.2.2.2.2.free 1
       have MA155 : Hid (Below w.heap.size w ((wh153.setCell ⟨eb, 0, none⟩ (.int .i64 a)).setCell ⟨eb, 1, none⟩ (.int .i64 b)) ∧ Box ((wh153.setCell ⟨eb, 0, none⟩ (.int .i64 a)).setCell ⟨eb, 1, none⟩ (.int .i64 b)) (w.heap.size) 40 #[.slice pa v.n pc, .slice ja v.m jc] ∧ Box ((wh153.setCell ⟨eb, 0, none⟩ (.int .i64 a)).setCell ⟨eb, 1, none⟩ (.int .i64 b)) (w.heap.size + 1) 33 #[.int .i64 (fq : Int), .int .i64 ga, .int .i64 gw, .int .i64 lg, .slice ba mb bk] ∧ Box ((wh153.setCell ⟨eb, 0, none⟩ (.int .i64 a)).setCell ⟨eb, 1, none⟩ (.int .i64 b)) (w.heap.size + 1 + 1) 61 #[.int .i64 0, .int .i64 0, .int .i64 0, .int .i64 0, .int .i64 0, .int .i64 0, .int .i64 0, .slice none 0 0, .slice none 0 0] ∧ Box ((wh153.setCell ⟨eb, 0, none⟩ (.int .i64 a)).setCell ⟨eb, 1, none⟩ (.int .i64 b)) (ob) 61 #[.int .i64 0, .int .i64 far, .int .i64 (-1), .int .i64 (fp : Int), .int .i64 fa, .int .i64 fw, .int .i64 lg, .slice oa nb oc, .slice xa no xc] ∧ VOwn w.heap.size 74 2 ((wh153.setCell ⟨eb, 0, none⟩ (.int .i64 a)).setCell ⟨eb, 1, none⟩ (.int .i64 b)) (.slice oa nb oc) nb (intF B) ∧ VOwn w.heap.size 112 3 ((wh153.setCell ⟨eb, 0, none⟩ (.int .i64 a)).setCell ⟨eb, 1, none⟩ (.int .i64 b)) (.slice xa no xc) no (intF O) ∧ Box ((wh153.setCell ⟨eb, 0, none⟩ (.int .i64 a)).setCell ⟨eb, 1, none⟩ (.int .i64 b)) (fb) 30 #[.int .i64 (fp : Int), .int .i64 fa, .int .i64 fw] ∧ Box ((wh153.setCell ⟨eb, 0, none⟩ (.int .i64 a)).setCell ⟨eb, 1, none⟩ (.int .i64 b)) (eb) 76 #[.int .i64 a, .int .i64 b]) := ⟨((MA154.out.1.setCell HL152.out _).setCell HL152.out _), ((MA154.out.2.1.other (box_ne MA154.out.2.1 MA154.out.2.2.2.2.2.2.2.2 (by decide)) _).other (box_ne MA154.out.2.1 MA154.out.2.2.2.2.2.2.2.2 (by decide)) _), ((MA154.out.2.2.1.other (box_ne MA154.out.2.2.1 MA154.out.2.2.2.2.2.2.2.2 (by decide)) _).other (box_ne MA154.out.2.2.1 MA154.out.2.2.2.2.2.2.2.2 (by decide)) _), ((MA154.out.2.2.2.1.other (box_ne MA154.out.2.2.2.1 MA154.out.2.2.2.2.2.2.2.2 (by decide)) _).other (box_ne MA154.out.2.2.2.1 MA154.out.2.2.2.2.2.2.2.2 (by decide)) _), ((MA154.out.2.2.2.2.1.other (box_ne MA154.out.2.2.2.2.1 MA154.out.2.2.2.2.2.2.2.2 (by decide)) _).other (box_ne MA154.out.2.2.2.2.1 MA154.out.2.2.2.2.2.2.2.2 (by decide)) _), ((MA154.out.2.2.2.2.2.1.set MA154.out.2.2.2.2.2.2.2.2 (by decide) 0 _).set (MA154.out.2.2.2.2.2.2.2.2.set 0 (.int .i64 a)) (by decide) 1 _), ((MA154.out.2.2.2.2.2.2.1.set MA154.out.2.2.2.2.2.2.2.2 (by decide) 0 _).set (MA154.out.2.2.2.2.2.2.2.2.set 0 (.int .i64 a)) (by decide) 1 _), ((MA154.out.2.2.2.2.2.2.2.1.other (box_ne MA154.out.2.2.2.2.2.2.2.1 MA154.out.2.2.2.2.2.2.2.2 (by decide)) _).other (box_ne MA154.out.2.2.2.2.2.2.2.1 MA154.out.2.2.2.2.2.2.2.2 (by decide)) _), by have h9 := ((MA154.out.2.2.2.2.2.2.2.2.set 0 (.int .i64 a)).set 1 (.int .i64 b)); exact h9⟩
       clear MA154
       refine rl 13 fun K hK => ?_
       go_simp
       refine hK.out _ _ ?_ (fun hHeld => ?_)
       ·
        exact ⟨MA155.out.2.1.cell 0, MA155.out.2.1.cell 1, MA155.out.2.2.2.2.2.2.2.1.cell 0, MA155.out.2.2.2.2.2.2.2.1.cell 1, MA155.out.2.2.2.2.2.2.2.1.cell 2⟩
       clear hK K
       refine tk 14 ?_
       refine tk 15 ?_
       refine wpAnyH_done (by kernel_rfl) ?_ _
       clear z0 z1 zf0 zf1 hHeld
       generalize ((wh153.setCell ⟨eb, 0, none⟩ (.int .i64 a)).setCell ⟨eb, 1, none⟩ (.int .i64 b)) = W156 at MA155 ⊢
       go_wp2_with fail
       go_meet
       case rel => exact ⟨eb, a, b, rfl, rfl, rfl, HAB, ⟨MA155.out.1, MA155.out.2.1, MA155.out.2.2.1, MA155.out.2.2.2.1, MA155.out.2.2.2.2.1, MA155.out.2.2.2.2.2.1, MA155.out.2.2.2.2.2.2.1, MA155.out.2.2.2.2.2.2.2.1, MA155.out.2.2.2.2.2.2.2.2⟩⟩
     ·
      have MA158 : Hid (Below w.heap.size w (VD.alloc (.cells #[.int .i64 0, .int .i64 0] 76)) ∧ Box (VD.alloc (.cells #[.int .i64 0, .int .i64 0] 76)) (w.heap.size) 40 #[.slice pa v.n pc, .slice ja v.m jc] ∧ Box (VD.alloc (.cells #[.int .i64 0, .int .i64 0] 76)) (w.heap.size + 1) 33 #[.int .i64 (fq : Int), .int .i64 ga, .int .i64 gw, .int .i64 lg, .slice ba mb bk] ∧ Box (VD.alloc (.cells #[.int .i64 0, .int .i64 0] 76)) (w.heap.size + 1 + 1) 61 #[.int .i64 0, .int .i64 0, .int .i64 0, .int .i64 0, .int .i64 0, .int .i64 0, .int .i64 0, .slice none 0 0, .slice none 0 0] ∧ Box (VD.alloc (.cells #[.int .i64 0, .int .i64 0] 76)) (ob) 61 #[.int .i64 0, .int .i64 far, .int .i64 (-1), .int .i64 (fp : Int), .int .i64 fa, .int .i64 fw, .int .i64 lg, .slice oa nb oc, .slice xa no xc] ∧ VOwn w.heap.size 74 2 (VD.alloc (.cells #[.int .i64 0, .int .i64 0] 76)) (.slice oa nb oc) nb (intF B) ∧ VOwn w.heap.size 112 3 (VD.alloc (.cells #[.int .i64 0, .int .i64 0] 76)) (.slice xa no xc) no (intF O) ∧ Box (VD.alloc (.cells #[.int .i64 0, .int .i64 0] 76)) (fb) 30 #[.int .i64 (fp : Int), .int .i64 fa, .int .i64 fw] ∧ Box (VD.alloc (.cells #[.int .i64 0, .int .i64 0] 76)) (VD.heap.size) 76 #[.int .i64 0, .int .i64 0]) := ⟨MD140.out.1.alloc MD140.out.1.size _, MD140.out.2.1.alloc _, MD140.out.2.2.1.alloc _, MD140.out.2.2.2.1.alloc _, MD140.out.2.2.2.2.1.alloc _, MD140.out.2.2.2.2.2.1.alloc _, MD140.out.2.2.2.2.2.2.1.alloc _, MD140.out.2.2.2.2.2.2.2.alloc _, Box.new _ _ _⟩
      have HL159 : Hid (w.heap.size ≤ VD.heap.size) := MD140.out.1.size
      clear MD140
      go_simp
      refine hK.out _ _ ?_ (fun hHeld => ?_)
      ·
       exact ⟨MA158.out.2.1.cell 0, MA158.out.2.1.cell 1, MA158.out.2.2.2.2.2.2.2.1.cell 0, MA158.out.2.2.2.2.2.2.2.1.cell 1, MA158.out.2.2.2.2.2.2.2.1.cell 2⟩
      clear hK K
      clear hHeld
      generalize VD.alloc (.cells #[.int .i64 0, .int .i64 0] 76) = V157 at MA158 ⊢
      generalize VD.heap.size = eb at MA158 HL159 ⊢
      refine rl 6 fun K hK => ?_
      go_simp
      refine (l12head79 (fp : Int) fw _).mono ?_
      rintro e wh160 ⟨rfl, hb⟩
      have MA161 : Hid (Below w.heap.size w wh160 ∧ Box wh160 (w.heap.size) 40 #[.slice pa v.n pc, .slice ja v.m jc] ∧ Box wh160 (w.heap.size + 1) 33 #[.int .i64 (fq : Int), .int .i64 ga, .int .i64 gw, .int .i64 lg, .slice ba mb bk] ∧ Box wh160 (w.heap.size + 1 + 1) 61 #[.int .i64 0, .int .i64 0, .int .i64 0, .int .i64 0, .int .i64 0, .int .i64 0, .int .i64 0, .slice none 0 0, .slice none 0 0] ∧ Box wh160 (ob) 61 #[.int .i64 0, .int .i64 far, .int .i64 (-1), .int .i64 (fp : Int), .int .i64 fa, .int .i64 fw, .int .i64 lg, .slice oa nb oc, .slice xa no xc] ∧ VOwn w.heap.size 74 2 wh160 (.slice oa nb oc) nb (intF B) ∧ VOwn w.heap.size 112 3 wh160 (.slice xa no xc) no (intF O) ∧ Box wh160 (fb) 30 #[.int .i64 (fp : Int), .int .i64 fa, .int .i64 fw] ∧ Box wh160 (eb) 76 #[.int .i64 0, .int .i64 0]) := ⟨MA158.out.1.trans (hb.mono MA158.out.1.size), MA158.out.2.1.mono hb nr, MA158.out.2.2.1.mono hb nr, MA158.out.2.2.2.1.mono hb nr, MA158.out.2.2.2.2.1.mono hb nr, MA158.out.2.2.2.2.2.1.mono nr hb nr, MA158.out.2.2.2.2.2.2.1.mono nr hb nr, MA158.out.2.2.2.2.2.2.2.1.mono hb nr, MA158.out.2.2.2.2.2.2.2.2.mono hb nr⟩
      clear hb MA158
      go_wp2_with fail
      refine hK.out _ _ ?_ (fun hHeld => ?_)
      ·
       exact ⟨MA161.out.2.1.cell 0, MA161.out.2.1.cell 1, MA161.out.2.2.2.2.2.2.2.1.cell 0, MA161.out.2.2.2.2.2.2.2.1.cell 1, MA161.out.2.2.2.2.2.2.2.1.cell 2⟩
      clear hK K
      refine rl 7 fun K hK => ?_
      go_simp
      refine (over36j OK.out.1 pa pc ja jc fp fw la lc L _ hfp (H.out.2.1.mono nr MA161.out.1 nr) (H.out.2.2.2.mono nr MA161.out.1 nr) OK.out.2).mono ?_
      rintro e wh162 ⟨a, b, he, hab, hb⟩
      have HAB : Hid (cd = 0 → a = (nextAt v L fp fw).pc ∧ b = (nextAt v L fp fw).sd) := by rw [HCD.out] at hab; exact hab
      rw [HCD.out, HJJ.out] at he
      subst he
      clear hab
      have MA163 : Hid (Below w.heap.size w wh162 ∧ Box wh162 (w.heap.size) 40 #[.slice pa v.n pc, .slice ja v.m jc] ∧ Box wh162 (w.heap.size + 1) 33 #[.int .i64 (fq : Int), .int .i64 ga, .int .i64 gw, .int .i64 lg, .slice ba mb bk] ∧ Box wh162 (w.heap.size + 1 + 1) 61 #[.int .i64 0, .int .i64 0, .int .i64 0, .int .i64 0, .int .i64 0, .int .i64 0, .int .i64 0, .slice none 0 0, .slice none 0 0] ∧ Box wh162 (ob) 61 #[.int .i64 0, .int .i64 far, .int .i64 (-1), .int .i64 (fp : Int), .int .i64 fa, .int .i64 fw, .int .i64 lg, .slice oa nb oc, .slice xa no xc] ∧ VOwn w.heap.size 74 2 wh162 (.slice oa nb oc) nb (intF B) ∧ VOwn w.heap.size 112 3 wh162 (.slice xa no xc) no (intF O) ∧ Box wh162 (fb) 30 #[.int .i64 (fp : Int), .int .i64 fa, .int .i64 fw] ∧ Box wh162 (eb) 76 #[.int .i64 0, .int .i64 0]) := ⟨MA161.out.1.trans (hb.mono MA161.out.1.size), MA161.out.2.1.mono hb nr, MA161.out.2.2.1.mono hb nr, MA161.out.2.2.2.1.mono hb nr, MA161.out.2.2.2.2.1.mono hb nr, MA161.out.2.2.2.2.2.1.mono nr hb nr, MA161.out.2.2.2.2.2.2.1.mono nr hb nr, MA161.out.2.2.2.2.2.2.2.1.mono hb nr, MA161.out.2.2.2.2.2.2.2.2.mono hb nr⟩
      clear hb MA161
      go_wp2_with fail
      refine hK.out _ _ ?_ (fun hHeld => ?_)
      ·
       exact ⟨MA163.out.2.1.cell 0, MA163.out.2.1.cell 1, MA163.out.2.2.2.2.2.2.2.1.cell 0, MA163.out.2.2.2.2.2.2.2.1.cell 1, MA163.out.2.2.2.2.2.2.2.1.cell 2⟩
      clear hK K
      refine tk 8 ?_
      refine tk 9 ?_
      refine tk 10 ?_
      refine tk 11 ?_
      have z0 : wh162.cell? ⟨eb, 0, none⟩ = some (.int .i64 0) := MA163.out.2.2.2.2.2.2.2.2.cell 0
      have z1 : wh162.cell? ⟨eb, 1, none⟩ = some (.int .i64 0) := MA163.out.2.2.2.2.2.2.2.2.cell 1
      have zf0 := MA163.out.2.2.2.2.2.2.2.2.free 0
      have zf1 := MA163.out.2.2.2.2.2.2.2.2.free 1
      have MA164 : Hid (Below w.heap.size w ((wh162.setCell ⟨eb, 0, none⟩ (.int .i64 a)).setCell ⟨eb, 1, none⟩ (.int .i64 b)) ∧ Box ((wh162.setCell ⟨eb, 0, none⟩ (.int .i64 a)).setCell ⟨eb, 1, none⟩ (.int .i64 b)) (w.heap.size) 40 #[.slice pa v.n pc, .slice ja v.m jc] ∧ Box ((wh162.setCell ⟨eb, 0, none⟩ (.int .i64 a)).setCell ⟨eb, 1, none⟩ (.int .i64 b)) (w.heap.size + 1) 33 #[.int .i64 (fq : Int), .int .i64 ga, .int .i64 gw, .int .i64 lg, .slice ba mb bk] ∧ Box ((wh162.setCell ⟨eb, 0, none⟩ (.int .i64 a)).setCell ⟨eb, 1, none⟩ (.int .i64 b)) (w.heap.size + 1 + 1) 61 #[.int .i64 0, .int .i64 0, .int .i64 0, .int .i64 0, .int .i64 0, .int .i64 0, .int .i64 0, .slice none 0 0, .slice none 0 0] ∧ Box ((wh162.setCell ⟨eb, 0, none⟩ (.int .i64 a)).setCell ⟨eb, 1, none⟩ (.int .i64 b)) (ob) 61 #[.int .i64 0, .int .i64 far, .int .i64 (-1), .int .i64 (fp : Int), .int .i64 fa, .int .i64 fw, .int .i64 lg, .slice oa nb oc, .slice xa no xc] ∧ VOwn w.heap.size 74 2 ((wh162.setCell ⟨eb, 0, none⟩ (.int .i64 a)).setCell ⟨eb, 1, none⟩ (.int .i64 b)) (.slice oa nb oc) nb (intF B) ∧ VOwn w.heap.size 112 3 ((wh162.setCell ⟨eb, 0, none⟩ (.int .i64 a)).setCell ⟨eb, 1, none⟩ (.int .i64 b)) (.slice xa no xc) no (intF O) ∧ Box ((wh162.setCell ⟨eb, 0, none⟩ (.int .i64 a)).setCell ⟨eb, 1, none⟩ (.int .i64 b)) (fb) 30 #[.int .i64 (fp : Int), .int .i64 fa, .int .i64 fw] ∧ Box ((wh162.setCell ⟨eb, 0, none⟩ (.int .i64 a)).setCell ⟨eb, 1, none⟩ (.int .i64 b)) (eb) 76 #[.int .i64 a, .int .i64 b]) := ⟨((MA163.out.1.setCell HL159.out _).setCell HL159.out _), ((MA163.out.2.1.other (box_ne MA163.out.2.1 MA163.out.2.2.2.2.2.2.2.2 (by decide)) _).other (box_ne MA163.out.2.1 MA163.out.2.2.2.2.2.2.2.2 (by decide)) _), ((MA163.out.2.2.1.other (box_ne MA163.out.2.2.1 MA163.out.2.2.2.2.2.2.2.2 (by decide)) _).other (box_ne MA163.out.2.2.1 MA163.out.2.2.2.2.2.2.2.2 (by decide)) _), ((MA163.out.2.2.2.1.other (box_ne MA163.out.2.2.2.1 MA163.out.2.2.2.2.2.2.2.2 (by decide)) _).other (box_ne MA163.out.2.2.2.1 MA163.out.2.2.2.2.2.2.2.2 (by decide)) _), ((MA163.out.2.2.2.2.1.other (box_ne MA163.out.2.2.2.2.1 MA163.out.2.2.2.2.2.2.2.2 (by decide)) _).other (box_ne MA163.out.2.2.2.2.1 MA163.out.2.2.2.2.2.2.2.2 (by decide)) _), ((MA163.out.2.2.2.2.2.1.set MA163.out.2.2.2.2.2.2.2.2 (by decide) 0 _).set (MA163.out.2.2.2.2.2.2.2.2.set 0 (.int .i64 a)) (by decide) 1 _), ((MA163.out.2.2.2.2.2.2.1.set MA163.out.2.2.2.2.2.2.2.2 (by decide) 0 _).set (MA163.out.2.2.2.2.2.2.2.2.set 0 (.int .i64 a)) (by decide) 1 _), ((MA163.out.2.2.2.2.2.2.2.1.other (box_ne MA163.out.2.2.2.2.2.2.2.1 MA163.out.2.2.2.2.2.2.2.2 (by decide)) _).other (box_ne MA163.out.2.2.2.2.2.2.2.1 MA163.out.2.2.2.2.2.2.2.2 (by decide)) _), by have h9 := ((MA163.out.2.2.2.2.2.2.2.2.set 0 (.int .i64 a)).set 1 (.int .i64 b)); exact h9⟩
      clear MA163
      refine rl 13 fun K hK => ?_
      go_simp
      refine hK.out _ _ ?_ (fun hHeld => ?_)
      ·
       exact ⟨MA164.out.2.1.cell 0, MA164.out.2.1.cell 1, MA164.out.2.2.2.2.2.2.2.1.cell 0, MA164.out.2.2.2.2.2.2.2.1.cell 1, MA164.out.2.2.2.2.2.2.2.1.cell 2⟩
      clear hK K
      refine tk 14 ?_
      refine tk 15 ?_
      refine wpAnyH_done (by kernel_rfl) ?_ _
      clear z0 z1 zf0 zf1 hHeld
      generalize ((wh162.setCell ⟨eb, 0, none⟩ (.int .i64 a)).setCell ⟨eb, 1, none⟩ (.int .i64 b)) = W165 at MA164 ⊢
      go_wp2_with fail
      go_meet
      case rel => exact ⟨eb, a, b, rfl, rfl, rfl, HAB, ⟨MA164.out.1, MA164.out.2.1, MA164.out.2.2.1, MA164.out.2.2.2.1, MA164.out.2.2.2.2.1, MA164.out.2.2.2.2.2.1, MA164.out.2.2.2.2.2.2.1, MA164.out.2.2.2.2.2.2.2.1, MA164.out.2.2.2.2.2.2.2.2⟩⟩
    case rest =>
     obtain ⟨eb, a, b, rfl, rfl, rfl, HAB, E⟩ := hcut
     clear M8
     generalize wc = W9a at E ⊢
     by_cases hcd : cd = 0
     ·
      subst hcd
      have HC0 : Hid (mvC v L (⟨fp, fa, fw, nb, B, far, no, O⟩ : Mv) = 0) := HCD.out
      obtain ⟨q2, hq2, hq2n, hsd⟩ := mv_next OK.out.1 OK.out.2 HOK.out HC0.out
      obtain ⟨sd, HSD⟩ : ∃ q, Hid ((nextAt v L fp fw).sd = q) := ⟨_, rfl⟩
      have hq2' : (nextAt v L fp fw).pc = (q2 : Int) := hq2
      have hsd' : (nextAt v L fp fw).sd = 0 ∨ (nextAt v L fp fw).sd = 1 := hsd
      have HE0 : Hid (a = (q2 : Int) ∧ b = sd) := by have h9 := HAB.out rfl; rw [hq2', HSD.out] at h9; exact h9
      have HNX : Hid ((((mvE v L ⟨fp, fa, fw, nb, B, far, no, O⟩).fp : Nat) : Int) = (q2 : Int) ∧ (mvE v L ⟨fp, fa, fw, nb, B, far, no, O⟩).fa = enA v q2 sd ∧ (mvE v L ⟨fp, fa, fw, nb, B, far, no, O⟩).fw = enW sd) := by
       refine ⟨?_, ?_, ?_⟩
       ·
        show ((nextAt v L fp fw).pc.toNat : Int) = _
        rw [hq2', Int.toNat_natCast]
       ·
        show farI (v.P (nextAt v L fp fw).pc.toNat).ln 0 (wayOf (nextAt v L fp fw)) = _
        rw [hq2', Int.toNat_natCast, ← HSD.out, en_at hsd']
       ·
        show wayOf (nextAt v L fp fw) = _
        rw [← HSD.out, en_way hsd']
      have HXH : Hid (∀ k, hvF v (q2 : Int) (enA v q2 sd) (enW sd) (stF (fp : Int) fw B) k = mvH v (mvE v L ⟨fp, fa, fw, nb, B, far, no, O⟩) k) := fun k => by
       show _ = hvF v (((mvE v L ⟨fp, fa, fw, nb, B, far, no, O⟩).fp : Nat) : Int) (mvE v L ⟨fp, fa, fw, nb, B, far, no, O⟩).fa (mvE v L ⟨fp, fa, fw, nb, B, far, no, O⟩).fw _ k
       rw [HNX.out.1, HNX.out.2.1, HNX.out.2.2]
       rfl
      have HXS : Hid (spotB v (q2 : Int) (enA v q2 sd) (enW sd) = true ∧ (∀ i, i < nb + 1 → stepB v ((stF (fp : Int) fw B) i 0) ((stF (fp : Int) fw B) i 1) = true) ∧ ∀ q, q < nb + 1 → hvF v (q2 : Int) (enA v q2 sd) (enW sd) (stF (fp : Int) fw B) q < lg) := by
       have hln := OK.out.1.ln q2 hq2n
       refine ⟨spot_mk hq2n ?_ ?_, ?_, ?_⟩
       ·
        unfold enW; split
        ·
         exact Or.inl rfl
        ·
         exact Or.inr rfl
       ·
        unfold enA; split <;> omega
       ·
        intro i hi
        cases i with
        | zero => exact step_mk hfp hfw
        | succ j => exact HOK.out.step j (by show j < nb; omega)
       ·
        intro q hq
        rw [HXH.out]
        cases q with
        | zero =>
         have h8 := HOK.out.lg0
         rw [mvE_h0]; omega
        | succ j =>
         rw [mvE_hv HOK.out HR0.out]
         exact HOK.out.lt j (by show j < nb; omega)
      have E1 : Hid (Below w.heap.size w W9a ∧ Box W9a (w.heap.size) 40 #[.slice pa v.n pc, .slice ja v.m jc] ∧ Box W9a (w.heap.size + 1) 33 #[.int .i64 (fq : Int), .int .i64 ga, .int .i64 gw, .int .i64 lg, .slice ba mb bk] ∧ Box W9a (w.heap.size + 1 + 1) 61 #[.int .i64 0, .int .i64 0, .int .i64 0, .int .i64 0, .int .i64 0, .int .i64 0, .int .i64 0, .slice none 0 0, .slice none 0 0] ∧ Box W9a (ob) 61 #[.int .i64 0, .int .i64 far, .int .i64 (-1), .int .i64 (fp : Int), .int .i64 fa, .int .i64 fw, .int .i64 lg, .slice oa nb oc, .slice xa no xc] ∧ VOwn w.heap.size 74 2 W9a (.slice oa nb oc) nb (intF B) ∧ VOwn w.heap.size 112 3 W9a (.slice xa no xc) no (intF O) ∧ Box W9a (fb) 30 #[.int .i64 (fp : Int), .int .i64 fa, .int .i64 fw] ∧ Box W9a (eb) 76 #[.int .i64 (q2 : Int), .int .i64 sd]) := by have h9 := E.out; rw [HE0.out.1, HE0.out.2] at h9; exact h9
      clear E hq2 hq2' hsd hsd'
      have hq0 : (0 : Int) ≤ (q2 : Int) := by omega
      have hqi : (q2 : Int) < (v.n : Int) := by omega
      have hnb2 : nb ≤ 200 := HOK.out.nb1
      have x0 : W9a.cell? ⟨ob, 0, none⟩ = some (.int .i64 0) := E1.out.2.2.2.2.1.cell 0
      have x1 : W9a.cell? ⟨ob, 1, none⟩ = some (.int .i64 far) := E1.out.2.2.2.2.1.cell 1
      have x2 : W9a.cell? ⟨ob, 2, none⟩ = some (.int .i64 (-1)) := E1.out.2.2.2.2.1.cell 2
      have x3 : W9a.cell? ⟨ob, 3, none⟩ = some (.int .i64 (fp : Int)) := E1.out.2.2.2.2.1.cell 3
      have x4 : W9a.cell? ⟨ob, 4, none⟩ = some (.int .i64 fa) := E1.out.2.2.2.2.1.cell 4
      have x5 : W9a.cell? ⟨ob, 5, none⟩ = some (.int .i64 fw) := E1.out.2.2.2.2.1.cell 5
      have x6 : W9a.cell? ⟨ob, 6, none⟩ = some (.int .i64 lg) := E1.out.2.2.2.2.1.cell 6
      have x7 : W9a.cell? ⟨ob, 7, none⟩ = some (.slice oa nb oc) := E1.out.2.2.2.2.1.cell 7
      have x8 : W9a.cell? ⟨ob, 8, none⟩ = some (.slice xa no xc) := E1.out.2.2.2.2.1.cell 8
      have M13 : Hid (Below w.heap.size w (W9a.alloc (.cells #[.int .i64 (fp : Int), .int .i64 fa, .int .i64 fw, .int .i64 lg, .slice oa nb oc] 33)) ∧ Box (W9a.alloc (.cells #[.int .i64 (fp : Int), .int .i64 fa, .int .i64 fw, .int .i64 lg, .slice oa nb oc] 33)) (w.heap.size) 40 #[.slice pa v.n pc, .slice ja v.m jc] ∧ Box (W9a.alloc (.cells #[.int .i64 (fp : Int), .int .i64 fa, .int .i64 fw, .int .i64 lg, .slice oa nb oc] 33)) (w.heap.size + 1) 33 #[.int .i64 (fq : Int), .int .i64 ga, .int .i64 gw, .int .i64 lg, .slice ba mb bk] ∧ Box (W9a.alloc (.cells #[.int .i64 (fp : Int), .int .i64 fa, .int .i64 fw, .int .i64 lg, .slice oa nb oc] 33)) (w.heap.size + 1 + 1) 61 #[.int .i64 0, .int .i64 0, .int .i64 0, .int .i64 0, .int .i64 0, .int .i64 0, .int .i64 0, .slice none 0 0, .slice none 0 0] ∧ Box (W9a.alloc (.cells #[.int .i64 (fp : Int), .int .i64 fa, .int .i64 fw, .int .i64 lg, .slice oa nb oc] 33)) (ob) 61 #[.int .i64 0, .int .i64 far, .int .i64 (-1), .int .i64 (fp : Int), .int .i64 fa, .int .i64 fw, .int .i64 lg, .slice oa nb oc, .slice xa no xc] ∧ VOwn w.heap.size 74 2 (W9a.alloc (.cells #[.int .i64 (fp : Int), .int .i64 fa, .int .i64 fw, .int .i64 lg, .slice oa nb oc] 33)) (.slice oa nb oc) nb (intF B) ∧ VOwn w.heap.size 112 3 (W9a.alloc (.cells #[.int .i64 (fp : Int), .int .i64 fa, .int .i64 fw, .int .i64 lg, .slice oa nb oc] 33)) (.slice xa no xc) no (intF O) ∧ Box (W9a.alloc (.cells #[.int .i64 (fp : Int), .int .i64 fa, .int .i64 fw, .int .i64 lg, .slice oa nb oc] 33)) (fb) 30 #[.int .i64 (fp : Int), .int .i64 fa, .int .i64 fw] ∧ Box (W9a.alloc (.cells #[.int .i64 (fp : Int), .int .i64 fa, .int .i64 fw, .int .i64 lg, .slice oa nb oc] 33)) (eb) 76 #[.int .i64 (q2 : Int), .int .i64 sd] ∧ Box (W9a.alloc (.cells #[.int .i64 (fp : Int), .int .i64 fa, .int .i64 fw, .int .i64 lg, .slice oa nb oc] 33)) (W9a.heap.size) 33 #[.int .i64 (fp : Int), .int .i64 fa, .int .i64 fw, .int .i64 lg, .slice oa nb oc]) := ⟨E1.out.1.alloc E1.out.1.size _, E1.out.2.1.alloc _, E1.out.2.2.1.alloc _, E1.out.2.2.2.1.alloc _, E1.out.2.2.2.2.1.alloc _, E1.out.2.2.2.2.2.1.alloc _, E1.out.2.2.2.2.2.2.1.alloc _, E1.out.2.2.2.2.2.2.2.1.alloc _, E1.out.2.2.2.2.2.2.2.2.alloc _, Box.new _ _ _⟩
      have HL78 : Hid (w.heap.size ≤ W9a.heap.size) := E1.out.1.size
      have HE79 : Hid (w.heap.size + 1 ≠ W9a.heap.size) := by have h9 := E1.out.2.2.1.lt; show _ ≠ _; omega
      go_upto_region 14 with fail
      clear x0 x1 x2 x3 x4 x5 x6 x7 x8 E1
      generalize W9a.alloc (.cells #[.int .i64 (fp : Int), .int .i64 fa, .int .i64 fw, .int .i64 lg, .slice oa nb oc] 33) = V13 at M13 ⊢
      generalize W9a.heap.size = xb at M13 HL78 HE79 ⊢
      have x0 : V13.cell? ⟨w.heap.size, 0, none⟩ = some (.slice pa v.n pc) := M13.out.2.1.cell 0
      have x1 : V13.cell? ⟨w.heap.size, 1, none⟩ = some (.slice ja v.m jc) := M13.out.2.1.cell 1
      have u0 : V13.cell? ⟨eb, 0, none⟩ = some (.int .i64 (q2 : Int)) := M13.out.2.2.2.2.2.2.2.2.1.cell 0
      have u1 : V13.cell? ⟨eb, 1, none⟩ = some (.int .i64 sd) := M13.out.2.2.2.2.2.2.2.2.1.cell 1
      go_wp2_with fail
      clear x0 x1 u0 u1
      refine (enter38 OK.out.1 pa pc ja jc q2 sd V13 hq2n (H.out.1.mono nr M13.out.1 nr)).mono ?_
      rintro e w14 ⟨rfl, hb⟩
      have M14 : Hid (Below w.heap.size w w14 ∧ Box w14 (w.heap.size) 40 #[.slice pa v.n pc, .slice ja v.m jc] ∧ Box w14 (w.heap.size + 1) 33 #[.int .i64 (fq : Int), .int .i64 ga, .int .i64 gw, .int .i64 lg, .slice ba mb bk] ∧ Box w14 (w.heap.size + 1 + 1) 61 #[.int .i64 0, .int .i64 0, .int .i64 0, .int .i64 0, .int .i64 0, .int .i64 0, .int .i64 0, .slice none 0 0, .slice none 0 0] ∧ Box w14 (ob) 61 #[.int .i64 0, .int .i64 far, .int .i64 (-1), .int .i64 (fp : Int), .int .i64 fa, .int .i64 fw, .int .i64 lg, .slice oa nb oc, .slice xa no xc] ∧ VOwn w.heap.size 74 2 w14 (.slice oa nb oc) nb (intF B) ∧ VOwn w.heap.size 112 3 w14 (.slice xa no xc) no (intF O) ∧ Box w14 (fb) 30 #[.int .i64 (fp : Int), .int .i64 fa, .int .i64 fw] ∧ Box w14 (eb) 76 #[.int .i64 (q2 : Int), .int .i64 sd] ∧ Box w14 (xb) 33 #[.int .i64 (fp : Int), .int .i64 fa, .int .i64 fw, .int .i64 lg, .slice oa nb oc]) := ⟨M13.out.1.trans (hb.mono M13.out.1.size), M13.out.2.1.mono hb nr, M13.out.2.2.1.mono hb nr, M13.out.2.2.2.1.mono hb nr, M13.out.2.2.2.2.1.mono hb nr, M13.out.2.2.2.2.2.1.mono nr hb nr, M13.out.2.2.2.2.2.2.1.mono nr hb nr, M13.out.2.2.2.2.2.2.2.1.mono hb nr, M13.out.2.2.2.2.2.2.2.2.1.mono hb nr, M13.out.2.2.2.2.2.2.2.2.2.mono hb nr⟩
      clear hb M13
      have u0 : w14.cell? ⟨xb, 0, none⟩ = some (.int .i64 (fp : Int)) := M14.out.2.2.2.2.2.2.2.2.2.cell 0
      have u1 : w14.cell? ⟨xb, 1, none⟩ = some (.int .i64 fa) := M14.out.2.2.2.2.2.2.2.2.2.cell 1
      have u2 : w14.cell? ⟨xb, 2, none⟩ = some (.int .i64 fw) := M14.out.2.2.2.2.2.2.2.2.2.cell 2
      have u3 : w14.cell? ⟨xb, 3, none⟩ = some (.int .i64 lg) := M14.out.2.2.2.2.2.2.2.2.2.cell 3
      have u4 : w14.cell? ⟨xb, 4, none⟩ = some (.slice oa nb oc) := M14.out.2.2.2.2.2.2.2.2.2.cell 4
      have uf0 := M14.out.2.2.2.2.2.2.2.2.2.free 0
      have uf1 := M14.out.2.2.2.2.2.2.2.2.2.free 1
      have uf2 := M14.out.2.2.2.2.2.2.2.2.2.free 2
      have uf3 := M14.out.2.2.2.2.2.2.2.2.2.free 3
      have uf4 := M14.out.2.2.2.2.2.2.2.2.2.free 4
      have M15 : Hid (Below w.heap.size w (((w14.setCell ⟨xb, 0, none⟩ (.int .i64 (q2 : Int))).setCell ⟨xb, 1, none⟩ (.int .i64 (enA v q2 sd))).setCell ⟨xb, 2, none⟩ (.int .i64 (enW sd))) ∧ Box (((w14.setCell ⟨xb, 0, none⟩ (.int .i64 (q2 : Int))).setCell ⟨xb, 1, none⟩ (.int .i64 (enA v q2 sd))).setCell ⟨xb, 2, none⟩ (.int .i64 (enW sd))) (w.heap.size) 40 #[.slice pa v.n pc, .slice ja v.m jc] ∧ Box (((w14.setCell ⟨xb, 0, none⟩ (.int .i64 (q2 : Int))).setCell ⟨xb, 1, none⟩ (.int .i64 (enA v q2 sd))).setCell ⟨xb, 2, none⟩ (.int .i64 (enW sd))) (w.heap.size + 1) 33 #[.int .i64 (fq : Int), .int .i64 ga, .int .i64 gw, .int .i64 lg, .slice ba mb bk] ∧ Box (((w14.setCell ⟨xb, 0, none⟩ (.int .i64 (q2 : Int))).setCell ⟨xb, 1, none⟩ (.int .i64 (enA v q2 sd))).setCell ⟨xb, 2, none⟩ (.int .i64 (enW sd))) (w.heap.size + 1 + 1) 61 #[.int .i64 0, .int .i64 0, .int .i64 0, .int .i64 0, .int .i64 0, .int .i64 0, .int .i64 0, .slice none 0 0, .slice none 0 0] ∧ Box (((w14.setCell ⟨xb, 0, none⟩ (.int .i64 (q2 : Int))).setCell ⟨xb, 1, none⟩ (.int .i64 (enA v q2 sd))).setCell ⟨xb, 2, none⟩ (.int .i64 (enW sd))) (ob) 61 #[.int .i64 0, .int .i64 far, .int .i64 (-1), .int .i64 (fp : Int), .int .i64 fa, .int .i64 fw, .int .i64 lg, .slice oa nb oc, .slice xa no xc] ∧ VOwn w.heap.size 74 2 (((w14.setCell ⟨xb, 0, none⟩ (.int .i64 (q2 : Int))).setCell ⟨xb, 1, none⟩ (.int .i64 (enA v q2 sd))).setCell ⟨xb, 2, none⟩ (.int .i64 (enW sd))) (.slice oa nb oc) nb (intF B) ∧ VOwn w.heap.size 112 3 (((w14.setCell ⟨xb, 0, none⟩ (.int .i64 (q2 : Int))).setCell ⟨xb, 1, none⟩ (.int .i64 (enA v q2 sd))).setCell ⟨xb, 2, none⟩ (.int .i64 (enW sd))) (.slice xa no xc) no (intF O) ∧ Box (((w14.setCell ⟨xb, 0, none⟩ (.int .i64 (q2 : Int))).setCell ⟨xb, 1, none⟩ (.int .i64 (enA v q2 sd))).setCell ⟨xb, 2, none⟩ (.int .i64 (enW sd))) (fb) 30 #[.int .i64 (fp : Int), .int .i64 fa, .int .i64 fw] ∧ Box (((w14.setCell ⟨xb, 0, none⟩ (.int .i64 (q2 : Int))).setCell ⟨xb, 1, none⟩ (.int .i64 (enA v q2 sd))).setCell ⟨xb, 2, none⟩ (.int .i64 (enW sd))) (eb) 76 #[.int .i64 (q2 : Int), .int .i64 sd] ∧ Box (((w14.setCell ⟨xb, 0, none⟩ (.int .i64 (q2 : Int))).setCell ⟨xb, 1, none⟩ (.int .i64 (enA v q2 sd))).setCell ⟨xb, 2, none⟩ (.int .i64 (enW sd))) (xb) 33 #[.int .i64 (q2 : Int), .int .i64 (enA v q2 sd), .int .i64 (enW sd), .int .i64 lg, .slice oa nb oc]) := ⟨(((M14.out.1.setCell HL78.out _).setCell HL78.out _).setCell HL78.out _), (((M14.out.2.1.other (box_ne M14.out.2.1 M14.out.2.2.2.2.2.2.2.2.2 (by decide)) _).other (box_ne M14.out.2.1 M14.out.2.2.2.2.2.2.2.2.2 (by decide)) _).other (box_ne M14.out.2.1 M14.out.2.2.2.2.2.2.2.2.2 (by decide)) _), (((M14.out.2.2.1.other HE79.out _).other HE79.out _).other HE79.out _), (((M14.out.2.2.2.1.other (box_ne M14.out.2.2.2.1 M14.out.2.2.2.2.2.2.2.2.2 (by decide)) _).other (box_ne M14.out.2.2.2.1 M14.out.2.2.2.2.2.2.2.2.2 (by decide)) _).other (box_ne M14.out.2.2.2.1 M14.out.2.2.2.2.2.2.2.2.2 (by decide)) _), (((M14.out.2.2.2.2.1.other (box_ne M14.out.2.2.2.2.1 M14.out.2.2.2.2.2.2.2.2.2 (by decide)) _).other (box_ne M14.out.2.2.2.2.1 M14.out.2.2.2.2.2.2.2.2.2 (by decide)) _).other (box_ne M14.out.2.2.2.2.1 M14.out.2.2.2.2.2.2.2.2.2 (by decide)) _), (((M14.out.2.2.2.2.2.1.set M14.out.2.2.2.2.2.2.2.2.2 (by decide) 0 _).set (M14.out.2.2.2.2.2.2.2.2.2.set 0 (.int .i64 (q2 : Int))) (by decide) 1 _).set ((M14.out.2.2.2.2.2.2.2.2.2.set 0 (.int .i64 (q2 : Int))).set 1 (.int .i64 (enA v q2 sd))) (by decide) 2 _), (((M14.out.2.2.2.2.2.2.1.set M14.out.2.2.2.2.2.2.2.2.2 (by decide) 0 _).set (M14.out.2.2.2.2.2.2.2.2.2.set 0 (.int .i64 (q2 : Int))) (by decide) 1 _).set ((M14.out.2.2.2.2.2.2.2.2.2.set 0 (.int .i64 (q2 : Int))).set 1 (.int .i64 (enA v q2 sd))) (by decide) 2 _), (((M14.out.2.2.2.2.2.2.2.1.other (box_ne M14.out.2.2.2.2.2.2.2.1 M14.out.2.2.2.2.2.2.2.2.2 (by decide)) _).other (box_ne M14.out.2.2.2.2.2.2.2.1 M14.out.2.2.2.2.2.2.2.2.2 (by decide)) _).other (box_ne M14.out.2.2.2.2.2.2.2.1 M14.out.2.2.2.2.2.2.2.2.2 (by decide)) _), (((M14.out.2.2.2.2.2.2.2.2.1.other (box_ne M14.out.2.2.2.2.2.2.2.2.1 M14.out.2.2.2.2.2.2.2.2.2 (by decide)) _).other (box_ne M14.out.2.2.2.2.2.2.2.2.1 M14.out.2.2.2.2.2.2.2.2.2 (by decide)) _).other (box_ne M14.out.2.2.2.2.2.2.2.2.1 M14.out.2.2.2.2.2.2.2.2.2 (by decide)) _), by have h9 := (((M14.out.2.2.2.2.2.2.2.2.2.set 0 (.int .i64 (q2 : Int))).set 1 (.int .i64 (enA v q2 sd))).set 2 (.int .i64 (enW sd))); exact h9⟩
      clear M14
      go_upto_region 15 with fail
      clear u0 u1 u2 u3 u4 uf0 uf1 uf2 uf3 uf4
      generalize (((w14.setCell ⟨xb, 0, none⟩ (.int .i64 (q2 : Int))).setCell ⟨xb, 1, none⟩ (.int .i64 (enA v q2 sd))).setCell ⟨xb, 2, none⟩ (.int .i64 (enW sd))) = W15 at M15 ⊢
      have x0 : W15.cell? ⟨fb, 0, none⟩ = some (.int .i64 (fp : Int)) := M15.out.2.2.2.2.2.2.2.1.cell 0
      have x1 : W15.cell? ⟨fb, 1, none⟩ = some (.int .i64 fa) := M15.out.2.2.2.2.2.2.2.1.cell 1
      have x2 : W15.cell? ⟨fb, 2, none⟩ = some (.int .i64 fw) := M15.out.2.2.2.2.2.2.2.1.cell 2
      have u0 : W15.cell? ⟨xb, 0, none⟩ = some (.int .i64 (q2 : Int)) := M15.out.2.2.2.2.2.2.2.2.2.cell 0
      have u1 : W15.cell? ⟨xb, 1, none⟩ = some (.int .i64 (enA v q2 sd)) := M15.out.2.2.2.2.2.2.2.2.2.cell 1
      have u2 : W15.cell? ⟨xb, 2, none⟩ = some (.int .i64 (enW sd)) := M15.out.2.2.2.2.2.2.2.2.2.cell 2
      have u3 : W15.cell? ⟨xb, 3, none⟩ = some (.int .i64 lg) := M15.out.2.2.2.2.2.2.2.2.2.cell 3
      have u4 : W15.cell? ⟨xb, 4, none⟩ = some (.slice oa nb oc) := M15.out.2.2.2.2.2.2.2.2.2.cell 4
      have x4a : (W15.alloc (.cells #[.int .i64 (fp : Int), .int .i64 fw] 74)).cell? ⟨xb, 4, none⟩ = some (.slice oa nb oc) := (M15.out.2.2.2.2.2.2.2.2.2.alloc _).cell 4
      have hsz : w.heap.size ≤ (W15.alloc (.cells #[.int .i64 (fp : Int), .int .i64 fw] 74)).heap.size := Nat.le_trans M15.out.1.size (bel1 _ _).size
      have HO1 : Hid (VOwn w.heap.size 74 2 (W15.alloc (.cells #[.int .i64 (fp : Int), .int .i64 fw] 74)) (.slice (some ⟨W15.heap.size, 0, none⟩) 1 1) 1 (intF fun _ j => if j = 0 then (fp : Int) else fw)) := own_one (Box.new _ _ _) M15.out.1.size
      go_wp2_with (at_builtin; go_must (refine wpList_vcatO _ rfl _ _ 31 rfl w.heap.size 74 i0 _ 2 16 Tryz.underlying31 hi0 hz0 hs0 hb0 rfl (by decide) (.slice (some ⟨W15.heap.size, 0, none⟩) 1 1) 1 _ rfl HO1.out w.heap.size (.slice oa nb oc) nb B rfl (M15.out.2.2.2.2.2.1.alloc _) (by simp only [maxLen]; omega) (by omega) hsz (Halt.mk ?_)))
      intro v2 w16 ho2 hg2
      obtain ⟨ya, yc, rfl⟩ := ho2.val
      rw [Nat.add_comm 1 nb] at ho2
      rw [Nat.add_comm 1 nb]
      have M16 : Hid (Below w.heap.size w w16 ∧ Box w16 (w.heap.size) 40 #[.slice pa v.n pc, .slice ja v.m jc] ∧ Box w16 (w.heap.size + 1) 33 #[.int .i64 (fq : Int), .int .i64 ga, .int .i64 gw, .int .i64 lg, .slice ba mb bk] ∧ Box w16 (w.heap.size + 1 + 1) 61 #[.int .i64 0, .int .i64 0, .int .i64 0, .int .i64 0, .int .i64 0, .int .i64 0, .int .i64 0, .slice none 0 0, .slice none 0 0] ∧ Box w16 (ob) 61 #[.int .i64 0, .int .i64 far, .int .i64 (-1), .int .i64 (fp : Int), .int .i64 fa, .int .i64 fw, .int .i64 lg, .slice oa nb oc, .slice xa no xc] ∧ VOwn w.heap.size 74 2 w16 (.slice oa nb oc) nb (intF B) ∧ VOwn w.heap.size 112 3 w16 (.slice xa no xc) no (intF O) ∧ Box w16 (fb) 30 #[.int .i64 (fp : Int), .int .i64 fa, .int .i64 fw] ∧ Box w16 (eb) 76 #[.int .i64 (q2 : Int), .int .i64 sd] ∧ Box w16 (xb) 33 #[.int .i64 (q2 : Int), .int .i64 (enA v q2 sd), .int .i64 (enW sd), .int .i64 lg, .slice oa nb oc] ∧ VOwn w.heap.size 74 2 w16 (.slice ya (nb + 1) yc) (nb + 1) (intF (stF (fp : Int) fw B))) := ⟨Below.grown (M15.out.1.alloc M15.out.1.size _) hg2 (Nat.le_trans M15.out.1.size (bel1 _ _).size) (fun k hk => by rw [own_block hk]; exact M15.out.1.size), one_grown (M15.out.2.1.alloc _) (by have h9 := M15.out.2.1.lt; omega) hg2, one_grown (M15.out.2.2.1.alloc _) (by have h9 := M15.out.2.2.1.lt; omega) hg2, one_grown (M15.out.2.2.2.1.alloc _) (by have h9 := M15.out.2.2.2.1.lt; omega) hg2, one_grown (M15.out.2.2.2.2.1.alloc _) (by have h9 := M15.out.2.2.2.2.1.lt; omega) hg2, own_grown (M15.out.2.2.2.2.2.1.alloc _) (fun g hg => by have h9 := (M15.out.2.2.2.2.2.1.lt hg).2; omega) hg2, own_grown (M15.out.2.2.2.2.2.2.1.alloc _) (fun g hg => by have h9 := (M15.out.2.2.2.2.2.2.1.lt hg).2; omega) hg2, one_grown (M15.out.2.2.2.2.2.2.2.1.alloc _) (by have h9 := M15.out.2.2.2.2.2.2.2.1.lt; omega) hg2, one_grown (M15.out.2.2.2.2.2.2.2.2.1.alloc _) (by have h9 := M15.out.2.2.2.2.2.2.2.2.1.lt; omega) hg2, one_grown (M15.out.2.2.2.2.2.2.2.2.2.alloc _) (by have h9 := M15.out.2.2.2.2.2.2.2.2.2.lt; omega) hg2, ho2.congr (fun i _ j hj => congrArg (Value.int .i64) (cat_st _ _ _ i j hj))⟩
      clear ho2 hg2 hsz HO1 x4a x0 x1 x2 u0 u1 u2 u3 u4 M15
      have u0 : w16.cell? ⟨xb, 0, none⟩ = some (.int .i64 (q2 : Int)) := M16.out.2.2.2.2.2.2.2.2.2.1.cell 0
      have u1 : w16.cell? ⟨xb, 1, none⟩ = some (.int .i64 (enA v q2 sd)) := M16.out.2.2.2.2.2.2.2.2.2.1.cell 1
      have u2 : w16.cell? ⟨xb, 2, none⟩ = some (.int .i64 (enW sd)) := M16.out.2.2.2.2.2.2.2.2.2.1.cell 2
      have u3 : w16.cell? ⟨xb, 3, none⟩ = some (.int .i64 lg) := M16.out.2.2.2.2.2.2.2.2.2.1.cell 3
      have u4 : w16.cell? ⟨xb, 4, none⟩ = some (.slice oa nb oc) := M16.out.2.2.2.2.2.2.2.2.2.1.cell 4
      have uf0 := M16.out.2.2.2.2.2.2.2.2.2.1.free 0
      have uf1 := M16.out.2.2.2.2.2.2.2.2.2.1.free 1
      have uf2 := M16.out.2.2.2.2.2.2.2.2.2.1.free 2
      have uf3 := M16.out.2.2.2.2.2.2.2.2.2.1.free 3
      have uf4 := M16.out.2.2.2.2.2.2.2.2.2.1.free 4
      have M17 : Hid (Below w.heap.size w (w16.setCell ⟨xb, 4, none⟩ (.slice ya (nb + 1) yc)) ∧ Box (w16.setCell ⟨xb, 4, none⟩ (.slice ya (nb + 1) yc)) (w.heap.size) 40 #[.slice pa v.n pc, .slice ja v.m jc] ∧ Box (w16.setCell ⟨xb, 4, none⟩ (.slice ya (nb + 1) yc)) (w.heap.size + 1) 33 #[.int .i64 (fq : Int), .int .i64 ga, .int .i64 gw, .int .i64 lg, .slice ba mb bk] ∧ Box (w16.setCell ⟨xb, 4, none⟩ (.slice ya (nb + 1) yc)) (w.heap.size + 1 + 1) 61 #[.int .i64 0, .int .i64 0, .int .i64 0, .int .i64 0, .int .i64 0, .int .i64 0, .int .i64 0, .slice none 0 0, .slice none 0 0] ∧ Box (w16.setCell ⟨xb, 4, none⟩ (.slice ya (nb + 1) yc)) (ob) 61 #[.int .i64 0, .int .i64 far, .int .i64 (-1), .int .i64 (fp : Int), .int .i64 fa, .int .i64 fw, .int .i64 lg, .slice oa nb oc, .slice xa no xc] ∧ VOwn w.heap.size 74 2 (w16.setCell ⟨xb, 4, none⟩ (.slice ya (nb + 1) yc)) (.slice oa nb oc) nb (intF B) ∧ VOwn w.heap.size 112 3 (w16.setCell ⟨xb, 4, none⟩ (.slice ya (nb + 1) yc)) (.slice xa no xc) no (intF O) ∧ Box (w16.setCell ⟨xb, 4, none⟩ (.slice ya (nb + 1) yc)) (fb) 30 #[.int .i64 (fp : Int), .int .i64 fa, .int .i64 fw] ∧ Box (w16.setCell ⟨xb, 4, none⟩ (.slice ya (nb + 1) yc)) (eb) 76 #[.int .i64 (q2 : Int), .int .i64 sd] ∧ Box (w16.setCell ⟨xb, 4, none⟩ (.slice ya (nb + 1) yc)) (xb) 33 #[.int .i64 (q2 : Int), .int .i64 (enA v q2 sd), .int .i64 (enW sd), .int .i64 lg, .slice ya (nb + 1) yc] ∧ VOwn w.heap.size 74 2 (w16.setCell ⟨xb, 4, none⟩ (.slice ya (nb + 1) yc)) (.slice ya (nb + 1) yc) (nb + 1) (intF (stF (fp : Int) fw B))) := ⟨(M16.out.1.setCell HL78.out _), (M16.out.2.1.other (box_ne M16.out.2.1 M16.out.2.2.2.2.2.2.2.2.2.1 (by decide)) _), (M16.out.2.2.1.other HE79.out _), (M16.out.2.2.2.1.other (box_ne M16.out.2.2.2.1 M16.out.2.2.2.2.2.2.2.2.2.1 (by decide)) _), (M16.out.2.2.2.2.1.other (box_ne M16.out.2.2.2.2.1 M16.out.2.2.2.2.2.2.2.2.2.1 (by decide)) _), (M16.out.2.2.2.2.2.1.set M16.out.2.2.2.2.2.2.2.2.2.1 (by decide) 4 _), (M16.out.2.2.2.2.2.2.1.set M16.out.2.2.2.2.2.2.2.2.2.1 (by decide) 4 _), (M16.out.2.2.2.2.2.2.2.1.other (box_ne M16.out.2.2.2.2.2.2.2.1 M16.out.2.2.2.2.2.2.2.2.2.1 (by decide)) _), (M16.out.2.2.2.2.2.2.2.2.1.other (box_ne M16.out.2.2.2.2.2.2.2.2.1 M16.out.2.2.2.2.2.2.2.2.2.1 (by decide)) _), by have h9 := (M16.out.2.2.2.2.2.2.2.2.2.1.set 4 (.slice ya (nb + 1) yc)); exact h9, (M16.out.2.2.2.2.2.2.2.2.2.2.set M16.out.2.2.2.2.2.2.2.2.2.1 (by decide) 4 _)⟩
      clear M16
      go_upto_region 16 with fail
      clear u0 u1 u2 u3 u4 uf0 uf1 uf2 uf3 uf4
      generalize (w16.setCell ⟨xb, 4, none⟩ (.slice ya (nb + 1) yc)) = W17 at M17 ⊢
      have x0 : W17.cell? ⟨w.heap.size, 0, none⟩ = some (.slice pa v.n pc) := M17.out.2.1.cell 0
      have x1 : W17.cell? ⟨w.heap.size, 1, none⟩ = some (.slice ja v.m jc) := M17.out.2.1.cell 1
      have u0 : W17.cell? ⟨xb, 0, none⟩ = some (.int .i64 (q2 : Int)) := M17.out.2.2.2.2.2.2.2.2.2.1.cell 0
      have u1 : W17.cell? ⟨xb, 1, none⟩ = some (.int .i64 (enA v q2 sd)) := M17.out.2.2.2.2.2.2.2.2.2.1.cell 1
      have u2 : W17.cell? ⟨xb, 2, none⟩ = some (.int .i64 (enW sd)) := M17.out.2.2.2.2.2.2.2.2.2.1.cell 2
      have u3 : W17.cell? ⟨xb, 3, none⟩ = some (.int .i64 lg) := M17.out.2.2.2.2.2.2.2.2.2.1.cell 3
      have u4 : W17.cell? ⟨xb, 4, none⟩ = some (.slice ya (nb + 1) yc) := M17.out.2.2.2.2.2.2.2.2.2.1.cell 4
      go_wp2_with fail
      clear x0 x1 u0 u1 u2 u3 u4
      refine (count110 OK.out.1 pa pc ja jc q2 (enA v q2 sd) (enW sd) lg (nb + 1) (stF (fp : Int) fw B) ya yc W17 (H.out.1.mono nr M17.out.1 nr) HXS.out.1 ⟨HOK.out.lg0, HOK.out.lg1⟩ (by omega) HXS.out.2.1 (M17.out.2.2.2.2.2.2.2.2.2.2.vs.le (Nat.zero_le _))).mono ?_
      rintro e w18 ⟨z, rfl, hz, hb⟩
      have hzn : z = nb + 1 := trim_all hz HXS.out.2.2
      subst hzn
      clear hz
      have M18 : Hid (Below w.heap.size w w18 ∧ Box w18 (w.heap.size) 40 #[.slice pa v.n pc, .slice ja v.m jc] ∧ Box w18 (w.heap.size + 1) 33 #[.int .i64 (fq : Int), .int .i64 ga, .int .i64 gw, .int .i64 lg, .slice ba mb bk] ∧ Box w18 (w.heap.size + 1 + 1) 61 #[.int .i64 0, .int .i64 0, .int .i64 0, .int .i64 0, .int .i64 0, .int .i64 0, .int .i64 0, .slice none 0 0, .slice none 0 0] ∧ Box w18 (ob) 61 #[.int .i64 0, .int .i64 far, .int .i64 (-1), .int .i64 (fp : Int), .int .i64 fa, .int .i64 fw, .int .i64 lg, .slice oa nb oc, .slice xa no xc] ∧ VOwn w.heap.size 74 2 w18 (.slice oa nb oc) nb (intF B) ∧ VOwn w.heap.size 112 3 w18 (.slice xa no xc) no (intF O) ∧ Box w18 (fb) 30 #[.int .i64 (fp : Int), .int .i64 fa, .int .i64 fw] ∧ Box w18 (eb) 76 #[.int .i64 (q2 : Int), .int .i64 sd] ∧ Box w18 (xb) 33 #[.int .i64 (q2 : Int), .int .i64 (enA v q2 sd), .int .i64 (enW sd), .int .i64 lg, .slice ya (nb + 1) yc] ∧ VOwn w.heap.size 74 2 w18 (.slice ya (nb + 1) yc) (nb + 1) (intF (stF (fp : Int) fw B))) := ⟨M17.out.1.trans (hb.mono M17.out.1.size), M17.out.2.1.mono hb nr, M17.out.2.2.1.mono hb nr, M17.out.2.2.2.1.mono hb nr, M17.out.2.2.2.2.1.mono hb nr, M17.out.2.2.2.2.2.1.mono nr hb nr, M17.out.2.2.2.2.2.2.1.mono nr hb nr, M17.out.2.2.2.2.2.2.2.1.mono hb nr, M17.out.2.2.2.2.2.2.2.2.1.mono hb nr, M17.out.2.2.2.2.2.2.2.2.2.1.mono hb nr, M17.out.2.2.2.2.2.2.2.2.2.2.mono nr hb nr⟩
      clear hb M17
      by_cases hn200 : nb = 200
      ·
       have HN2 : Hid (nb = 200) := hn200
       have hgt : (200 : Int) < ((nb + 1 : Nat) : Int) := by omega
       have hgt' : decide ((200 : Int) < (nb : Int) + 1) = true := by simp; omega
       clear hn200
       have M6x : Hid (Below w.heap.size w w18 ∧ Box w18 (w.heap.size) 40 #[.slice pa v.n pc, .slice ja v.m jc] ∧ Box w18 (w.heap.size + 1) 33 #[.int .i64 (fq : Int), .int .i64 ga, .int .i64 gw, .int .i64 lg, .slice ba mb bk] ∧ Box w18 (w.heap.size + 1 + 1) 61 #[.int .i64 0, .int .i64 0, .int .i64 0, .int .i64 0, .int .i64 0, .int .i64 0, .int .i64 0, .slice none 0 0, .slice none 0 0] ∧ Box w18 (ob) 61 #[.int .i64 0, .int .i64 far, .int .i64 (-1), .int .i64 (fp : Int), .int .i64 fa, .int .i64 fw, .int .i64 lg, .slice oa nb oc, .slice xa no xc] ∧ VOwn w.heap.size 74 2 w18 (.slice oa nb oc) nb (intF B) ∧ VOwn w.heap.size 112 3 w18 (.slice xa no xc) no (intF O) ∧ Box w18 (fb) 30 #[.int .i64 (fp : Int), .int .i64 fa, .int .i64 fw] ∧ Box w18 (eb) 76 #[.int .i64 (q2 : Int), .int .i64 sd] ∧ Box w18 (xb) 33 #[.int .i64 (q2 : Int), .int .i64 (enA v q2 sd), .int .i64 (enW sd), .int .i64 lg, .slice ya (nb + 1) yc]) := ⟨M18.out.1, M18.out.2.1, M18.out.2.2.1, M18.out.2.2.2.1, M18.out.2.2.2.2.1, M18.out.2.2.2.2.2.1, M18.out.2.2.2.2.2.2.1, M18.out.2.2.2.2.2.2.2.1, M18.out.2.2.2.2.2.2.2.2.1, M18.out.2.2.2.2.2.2.2.2.2.1⟩
       clear M18
       have m0 : w18.cell? ⟨ob, 0, none⟩ = some (.int .i64 0) := M6x.out.2.2.2.2.1.cell 0
       have m1 : w18.cell? ⟨ob, 1, none⟩ = some (.int .i64 far) := M6x.out.2.2.2.2.1.cell 1
       have m2 : w18.cell? ⟨ob, 2, none⟩ = some (.int .i64 (-1)) := M6x.out.2.2.2.2.1.cell 2
       have m3 : w18.cell? ⟨ob, 3, none⟩ = some (.int .i64 (fp : Int)) := M6x.out.2.2.2.2.1.cell 3
       have m4 : w18.cell? ⟨ob, 4, none⟩ = some (.int .i64 fa) := M6x.out.2.2.2.2.1.cell 4
       have m5 : w18.cell? ⟨ob, 5, none⟩ = some (.int .i64 fw) := M6x.out.2.2.2.2.1.cell 5
       have m6 : w18.cell? ⟨ob, 6, none⟩ = some (.int .i64 lg) := M6x.out.2.2.2.2.1.cell 6
       have m7 : w18.cell? ⟨ob, 7, none⟩ = some (.slice oa nb oc) := M6x.out.2.2.2.2.1.cell 7
       have m8 : w18.cell? ⟨ob, 8, none⟩ = some (.slice xa no xc) := M6x.out.2.2.2.2.1.cell 8
       have mf0 := M6x.out.2.2.2.2.1.free 0
       have mf1 := M6x.out.2.2.2.2.1.free 1
       have mf2 := M6x.out.2.2.2.2.1.free 2
       have mf3 := M6x.out.2.2.2.2.1.free 3
       have mf4 := M6x.out.2.2.2.2.1.free 4
       have mf5 := M6x.out.2.2.2.2.1.free 5
       have mf6 := M6x.out.2.2.2.2.1.free 6
       have mf7 := M6x.out.2.2.2.2.1.free 7
       have mf8 := M6x.out.2.2.2.2.1.free 8
       have MA166 : Hid (Below w.heap.size w ((w18.setCell ⟨ob, 0, none⟩ (.int .i64 6)).setCell ⟨ob, 2, none⟩ (.int .i64 jj)) ∧ Box ((w18.setCell ⟨ob, 0, none⟩ (.int .i64 6)).setCell ⟨ob, 2, none⟩ (.int .i64 jj)) (w.heap.size) 40 #[.slice pa v.n pc, .slice ja v.m jc] ∧ Box ((w18.setCell ⟨ob, 0, none⟩ (.int .i64 6)).setCell ⟨ob, 2, none⟩ (.int .i64 jj)) (w.heap.size + 1) 33 #[.int .i64 (fq : Int), .int .i64 ga, .int .i64 gw, .int .i64 lg, .slice ba mb bk] ∧ Box ((w18.setCell ⟨ob, 0, none⟩ (.int .i64 6)).setCell ⟨ob, 2, none⟩ (.int .i64 jj)) (w.heap.size + 1 + 1) 61 #[.int .i64 0, .int .i64 0, .int .i64 0, .int .i64 0, .int .i64 0, .int .i64 0, .int .i64 0, .slice none 0 0, .slice none 0 0] ∧ Box ((w18.setCell ⟨ob, 0, none⟩ (.int .i64 6)).setCell ⟨ob, 2, none⟩ (.int .i64 jj)) (ob) 61 #[.int .i64 6, .int .i64 far, .int .i64 jj, .int .i64 (fp : Int), .int .i64 fa, .int .i64 fw, .int .i64 lg, .slice oa nb oc, .slice xa no xc] ∧ VOwn w.heap.size 74 2 ((w18.setCell ⟨ob, 0, none⟩ (.int .i64 6)).setCell ⟨ob, 2, none⟩ (.int .i64 jj)) (.slice oa nb oc) nb (intF B) ∧ VOwn w.heap.size 112 3 ((w18.setCell ⟨ob, 0, none⟩ (.int .i64 6)).setCell ⟨ob, 2, none⟩ (.int .i64 jj)) (.slice xa no xc) no (intF O) ∧ Box ((w18.setCell ⟨ob, 0, none⟩ (.int .i64 6)).setCell ⟨ob, 2, none⟩ (.int .i64 jj)) (fb) 30 #[.int .i64 (fp : Int), .int .i64 fa, .int .i64 fw] ∧ Box ((w18.setCell ⟨ob, 0, none⟩ (.int .i64 6)).setCell ⟨ob, 2, none⟩ (.int .i64 jj)) (eb) 76 #[.int .i64 (q2 : Int), .int .i64 sd] ∧ Box ((w18.setCell ⟨ob, 0, none⟩ (.int .i64 6)).setCell ⟨ob, 2, none⟩ (.int .i64 jj)) (xb) 33 #[.int .i64 (q2 : Int), .int .i64 (enA v q2 sd), .int .i64 (enW sd), .int .i64 lg, .slice ya (nb + 1) yc]) := ⟨((M6x.out.1.setCell HL73.out _).setCell HL73.out _), ((M6x.out.2.1.other (box_ne M6x.out.2.1 M6x.out.2.2.2.2.1 (by decide)) _).other (box_ne M6x.out.2.1 M6x.out.2.2.2.2.1 (by decide)) _), ((M6x.out.2.2.1.other (box_ne M6x.out.2.2.1 M6x.out.2.2.2.2.1 (by decide)) _).other (box_ne M6x.out.2.2.1 M6x.out.2.2.2.2.1 (by decide)) _), ((M6x.out.2.2.2.1.other HE74.out _).other HE74.out _), by have h9 := ((M6x.out.2.2.2.2.1.set 0 (.int .i64 6)).set 2 (.int .i64 jj)); exact h9, ((M6x.out.2.2.2.2.2.1.set M6x.out.2.2.2.2.1 (by decide) 0 _).set (M6x.out.2.2.2.2.1.set 0 (.int .i64 6)) (by decide) 2 _), ((M6x.out.2.2.2.2.2.2.1.set M6x.out.2.2.2.2.1 (by decide) 0 _).set (M6x.out.2.2.2.2.1.set 0 (.int .i64 6)) (by decide) 2 _), ((M6x.out.2.2.2.2.2.2.2.1.other (box_ne M6x.out.2.2.2.2.2.2.2.1 M6x.out.2.2.2.2.1 (by decide)) _).other (box_ne M6x.out.2.2.2.2.2.2.2.1 M6x.out.2.2.2.2.1 (by decide)) _), ((M6x.out.2.2.2.2.2.2.2.2.1.other (box_ne M6x.out.2.2.2.2.2.2.2.2.1 M6x.out.2.2.2.2.1 (by decide)) _).other (box_ne M6x.out.2.2.2.2.2.2.2.2.1 M6x.out.2.2.2.2.1 (by decide)) _), ((M6x.out.2.2.2.2.2.2.2.2.2.other (box_ne M6x.out.2.2.2.2.2.2.2.2.2 M6x.out.2.2.2.2.1 (by decide)) _).other (box_ne M6x.out.2.2.2.2.2.2.2.2.2 M6x.out.2.2.2.2.1 (by decide)) _)⟩
       clear M6x
       generalize hgen : ((w18.setCell ⟨ob, 0, none⟩ (.int .i64 6)).setCell ⟨ob, 2, none⟩ (.int .i64 jj)) = WB at MA166
       go_wp2_with fail
       go_meet
       case rel => exact ⟨6, jj, ⟨fp, fa, fw, nb, B, far, no, O⟩, oa, oc, xa, xc, ⟨fun _ => HS.out _ _ _ (by have h9 := MvTo.many (lg := lg) hlt HR0.out HC0.out HN2.out; rw [HJS.out] at h9; exact h9), fun h => absurd (h.symm.trans HRB.out) (by decide)⟩, HOK, ⟨MA166.out.1, MA166.out.2.1, MA166.out.2.2.1, MA166.out.2.2.2.1, MA166.out.2.2.2.2.1, MA166.out.2.2.2.2.2.1, MA166.out.2.2.2.2.2.2.1⟩⟩
      ·
       have hgt : ¬ ((200 : Int) < ((nb + 1 : Nat) : Int)) := by omega
       have hgt' : decide ((200 : Int) < (nb : Int) + 1) = false := by simp; omega
       have HOE : Hid (MvOk v lg (mvE v L ⟨fp, fa, fw, nb, B, far, no, O⟩)) := mvE_ok OK.out.1 OK.out.2 HOK.out HR0.out HC0.out hn200
       have HMR : Hid (¬ mvR v (mvE v L ⟨fp, fa, fw, nb, B, far, no, O⟩) = 0) := mvE_more OK.out.1 OK.out.2 HOK.out HC0.out
       have HMT : Hid (mvM v T (wr.cell? ⟨ob, 1, none⟩) (wr.cell? ⟨ob, 3, none⟩) (wr.cell? ⟨ob, 4, none⟩) (wr.cell? ⟨ob, 5, none⟩) = 2 * (T - far).toNat + 1) := by
        show _ = _
        rw [HMT0.out, if_pos HR0.out]
       have x0 : w18.cell? ⟨xb, 0, none⟩ = some (.int .i64 (q2 : Int)) := M18.out.2.2.2.2.2.2.2.2.2.1.cell 0
       have x1 : w18.cell? ⟨xb, 1, none⟩ = some (.int .i64 (enA v q2 sd)) := M18.out.2.2.2.2.2.2.2.2.2.1.cell 1
       have x2 : w18.cell? ⟨xb, 2, none⟩ = some (.int .i64 (enW sd)) := M18.out.2.2.2.2.2.2.2.2.2.1.cell 2
       have x3 : w18.cell? ⟨xb, 3, none⟩ = some (.int .i64 lg) := M18.out.2.2.2.2.2.2.2.2.2.1.cell 3
       have x4 : w18.cell? ⟨xb, 4, none⟩ = some (.slice ya (nb + 1) yc) := M18.out.2.2.2.2.2.2.2.2.2.1.cell 4
       have m0 : w18.cell? ⟨ob, 0, none⟩ = some (.int .i64 0) := M18.out.2.2.2.2.1.cell 0
       have m1 : w18.cell? ⟨ob, 1, none⟩ = some (.int .i64 far) := M18.out.2.2.2.2.1.cell 1
       have m2 : w18.cell? ⟨ob, 2, none⟩ = some (.int .i64 (-1)) := M18.out.2.2.2.2.1.cell 2
       have m3 : w18.cell? ⟨ob, 3, none⟩ = some (.int .i64 (fp : Int)) := M18.out.2.2.2.2.1.cell 3
       have m4 : w18.cell? ⟨ob, 4, none⟩ = some (.int .i64 fa) := M18.out.2.2.2.2.1.cell 4
       have m5 : w18.cell? ⟨ob, 5, none⟩ = some (.int .i64 fw) := M18.out.2.2.2.2.1.cell 5
       have m6 : w18.cell? ⟨ob, 6, none⟩ = some (.int .i64 lg) := M18.out.2.2.2.2.1.cell 6
       have m7 : w18.cell? ⟨ob, 7, none⟩ = some (.slice oa nb oc) := M18.out.2.2.2.2.1.cell 7
       have m8 : w18.cell? ⟨ob, 8, none⟩ = some (.slice xa no xc) := M18.out.2.2.2.2.1.cell 8
       have mf0 := M18.out.2.2.2.2.1.free 0
       have mf1 := M18.out.2.2.2.2.1.free 1
       have mf2 := M18.out.2.2.2.2.1.free 2
       have mf3 := M18.out.2.2.2.2.1.free 3
       have mf4 := M18.out.2.2.2.2.1.free 4
       have mf5 := M18.out.2.2.2.2.1.free 5
       have mf6 := M18.out.2.2.2.2.1.free 6
       have mf7 := M18.out.2.2.2.2.1.free 7
       have mf8 := M18.out.2.2.2.2.1.free 8
       have M19 : Hid (Below w.heap.size w (((((w18.setCell ⟨ob, 3, none⟩ (.int .i64 (q2 : Int))).setCell ⟨ob, 4, none⟩ (.int .i64 (enA v q2 sd))).setCell ⟨ob, 5, none⟩ (.int .i64 (enW sd))).setCell ⟨ob, 6, none⟩ (.int .i64 lg)).setCell ⟨ob, 7, none⟩ (.slice ya (nb + 1) yc)) ∧ Box (((((w18.setCell ⟨ob, 3, none⟩ (.int .i64 (q2 : Int))).setCell ⟨ob, 4, none⟩ (.int .i64 (enA v q2 sd))).setCell ⟨ob, 5, none⟩ (.int .i64 (enW sd))).setCell ⟨ob, 6, none⟩ (.int .i64 lg)).setCell ⟨ob, 7, none⟩ (.slice ya (nb + 1) yc)) (w.heap.size) 40 #[.slice pa v.n pc, .slice ja v.m jc] ∧ Box (((((w18.setCell ⟨ob, 3, none⟩ (.int .i64 (q2 : Int))).setCell ⟨ob, 4, none⟩ (.int .i64 (enA v q2 sd))).setCell ⟨ob, 5, none⟩ (.int .i64 (enW sd))).setCell ⟨ob, 6, none⟩ (.int .i64 lg)).setCell ⟨ob, 7, none⟩ (.slice ya (nb + 1) yc)) (w.heap.size + 1) 33 #[.int .i64 (fq : Int), .int .i64 ga, .int .i64 gw, .int .i64 lg, .slice ba mb bk] ∧ Box (((((w18.setCell ⟨ob, 3, none⟩ (.int .i64 (q2 : Int))).setCell ⟨ob, 4, none⟩ (.int .i64 (enA v q2 sd))).setCell ⟨ob, 5, none⟩ (.int .i64 (enW sd))).setCell ⟨ob, 6, none⟩ (.int .i64 lg)).setCell ⟨ob, 7, none⟩ (.slice ya (nb + 1) yc)) (w.heap.size + 1 + 1) 61 #[.int .i64 0, .int .i64 0, .int .i64 0, .int .i64 0, .int .i64 0, .int .i64 0, .int .i64 0, .slice none 0 0, .slice none 0 0] ∧ Box (((((w18.setCell ⟨ob, 3, none⟩ (.int .i64 (q2 : Int))).setCell ⟨ob, 4, none⟩ (.int .i64 (enA v q2 sd))).setCell ⟨ob, 5, none⟩ (.int .i64 (enW sd))).setCell ⟨ob, 6, none⟩ (.int .i64 lg)).setCell ⟨ob, 7, none⟩ (.slice ya (nb + 1) yc)) (ob) 61 #[.int .i64 0, .int .i64 far, .int .i64 (-1), .int .i64 (q2 : Int), .int .i64 (enA v q2 sd), .int .i64 (enW sd), .int .i64 lg, .slice ya (nb + 1) yc, .slice xa no xc] ∧ VOwn w.heap.size 74 2 (((((w18.setCell ⟨ob, 3, none⟩ (.int .i64 (q2 : Int))).setCell ⟨ob, 4, none⟩ (.int .i64 (enA v q2 sd))).setCell ⟨ob, 5, none⟩ (.int .i64 (enW sd))).setCell ⟨ob, 6, none⟩ (.int .i64 lg)).setCell ⟨ob, 7, none⟩ (.slice ya (nb + 1) yc)) (.slice oa nb oc) nb (intF B) ∧ VOwn w.heap.size 112 3 (((((w18.setCell ⟨ob, 3, none⟩ (.int .i64 (q2 : Int))).setCell ⟨ob, 4, none⟩ (.int .i64 (enA v q2 sd))).setCell ⟨ob, 5, none⟩ (.int .i64 (enW sd))).setCell ⟨ob, 6, none⟩ (.int .i64 lg)).setCell ⟨ob, 7, none⟩ (.slice ya (nb + 1) yc)) (.slice xa no xc) no (intF O) ∧ Box (((((w18.setCell ⟨ob, 3, none⟩ (.int .i64 (q2 : Int))).setCell ⟨ob, 4, none⟩ (.int .i64 (enA v q2 sd))).setCell ⟨ob, 5, none⟩ (.int .i64 (enW sd))).setCell ⟨ob, 6, none⟩ (.int .i64 lg)).setCell ⟨ob, 7, none⟩ (.slice ya (nb + 1) yc)) (fb) 30 #[.int .i64 (fp : Int), .int .i64 fa, .int .i64 fw] ∧ Box (((((w18.setCell ⟨ob, 3, none⟩ (.int .i64 (q2 : Int))).setCell ⟨ob, 4, none⟩ (.int .i64 (enA v q2 sd))).setCell ⟨ob, 5, none⟩ (.int .i64 (enW sd))).setCell ⟨ob, 6, none⟩ (.int .i64 lg)).setCell ⟨ob, 7, none⟩ (.slice ya (nb + 1) yc)) (eb) 76 #[.int .i64 (q2 : Int), .int .i64 sd] ∧ Box (((((w18.setCell ⟨ob, 3, none⟩ (.int .i64 (q2 : Int))).setCell ⟨ob, 4, none⟩ (.int .i64 (enA v q2 sd))).setCell ⟨ob, 5, none⟩ (.int .i64 (enW sd))).setCell ⟨ob, 6, none⟩ (.int .i64 lg)).setCell ⟨ob, 7, none⟩ (.slice ya (nb + 1) yc)) (xb) 33 #[.int .i64 (q2 : Int), .int .i64 (enA v q2 sd), .int .i64 (enW sd), .int .i64 lg, .slice ya (nb + 1) yc] ∧ VOwn w.heap.size 74 2 (((((w18.setCell ⟨ob, 3, none⟩ (.int .i64 (q2 : Int))).setCell ⟨ob, 4, none⟩ (.int .i64 (enA v q2 sd))).setCell ⟨ob, 5, none⟩ (.int .i64 (enW sd))).setCell ⟨ob, 6, none⟩ (.int .i64 lg)).setCell ⟨ob, 7, none⟩ (.slice ya (nb + 1) yc)) (.slice ya (nb + 1) yc) (nb + 1) (intF (stF (fp : Int) fw B))) := ⟨(((((M18.out.1.setCell HL73.out _).setCell HL73.out _).setCell HL73.out _).setCell HL73.out _).setCell HL73.out _), (((((M18.out.2.1.other (box_ne M18.out.2.1 M18.out.2.2.2.2.1 (by decide)) _).other (box_ne M18.out.2.1 M18.out.2.2.2.2.1 (by decide)) _).other (box_ne M18.out.2.1 M18.out.2.2.2.2.1 (by decide)) _).other (box_ne M18.out.2.1 M18.out.2.2.2.2.1 (by decide)) _).other (box_ne M18.out.2.1 M18.out.2.2.2.2.1 (by decide)) _), (((((M18.out.2.2.1.other (box_ne M18.out.2.2.1 M18.out.2.2.2.2.1 (by decide)) _).other (box_ne M18.out.2.2.1 M18.out.2.2.2.2.1 (by decide)) _).other (box_ne M18.out.2.2.1 M18.out.2.2.2.2.1 (by decide)) _).other (box_ne M18.out.2.2.1 M18.out.2.2.2.2.1 (by decide)) _).other (box_ne M18.out.2.2.1 M18.out.2.2.2.2.1 (by decide)) _), (((((M18.out.2.2.2.1.other HE74.out _).other HE74.out _).other HE74.out _).other HE74.out _).other HE74.out _), by have h9 := (((((M18.out.2.2.2.2.1.set 3 (.int .i64 (q2 : Int))).set 4 (.int .i64 (enA v q2 sd))).set 5 (.int .i64 (enW sd))).set 6 (.int .i64 lg)).set 7 (.slice ya (nb + 1) yc)); exact h9, (((((M18.out.2.2.2.2.2.1.set M18.out.2.2.2.2.1 (by decide) 3 _).set (M18.out.2.2.2.2.1.set 3 (.int .i64 (q2 : Int))) (by decide) 4 _).set ((M18.out.2.2.2.2.1.set 3 (.int .i64 (q2 : Int))).set 4 (.int .i64 (enA v q2 sd))) (by decide) 5 _).set (((M18.out.2.2.2.2.1.set 3 (.int .i64 (q2 : Int))).set 4 (.int .i64 (enA v q2 sd))).set 5 (.int .i64 (enW sd))) (by decide) 6 _).set ((((M18.out.2.2.2.2.1.set 3 (.int .i64 (q2 : Int))).set 4 (.int .i64 (enA v q2 sd))).set 5 (.int .i64 (enW sd))).set 6 (.int .i64 lg)) (by decide) 7 _), (((((M18.out.2.2.2.2.2.2.1.set M18.out.2.2.2.2.1 (by decide) 3 _).set (M18.out.2.2.2.2.1.set 3 (.int .i64 (q2 : Int))) (by decide) 4 _).set ((M18.out.2.2.2.2.1.set 3 (.int .i64 (q2 : Int))).set 4 (.int .i64 (enA v q2 sd))) (by decide) 5 _).set (((M18.out.2.2.2.2.1.set 3 (.int .i64 (q2 : Int))).set 4 (.int .i64 (enA v q2 sd))).set 5 (.int .i64 (enW sd))) (by decide) 6 _).set ((((M18.out.2.2.2.2.1.set 3 (.int .i64 (q2 : Int))).set 4 (.int .i64 (enA v q2 sd))).set 5 (.int .i64 (enW sd))).set 6 (.int .i64 lg)) (by decide) 7 _), (((((M18.out.2.2.2.2.2.2.2.1.other (box_ne M18.out.2.2.2.2.2.2.2.1 M18.out.2.2.2.2.1 (by decide)) _).other (box_ne M18.out.2.2.2.2.2.2.2.1 M18.out.2.2.2.2.1 (by decide)) _).other (box_ne M18.out.2.2.2.2.2.2.2.1 M18.out.2.2.2.2.1 (by decide)) _).other (box_ne M18.out.2.2.2.2.2.2.2.1 M18.out.2.2.2.2.1 (by decide)) _).other (box_ne M18.out.2.2.2.2.2.2.2.1 M18.out.2.2.2.2.1 (by decide)) _), (((((M18.out.2.2.2.2.2.2.2.2.1.other (box_ne M18.out.2.2.2.2.2.2.2.2.1 M18.out.2.2.2.2.1 (by decide)) _).other (box_ne M18.out.2.2.2.2.2.2.2.2.1 M18.out.2.2.2.2.1 (by decide)) _).other (box_ne M18.out.2.2.2.2.2.2.2.2.1 M18.out.2.2.2.2.1 (by decide)) _).other (box_ne M18.out.2.2.2.2.2.2.2.2.1 M18.out.2.2.2.2.1 (by decide)) _).other (box_ne M18.out.2.2.2.2.2.2.2.2.1 M18.out.2.2.2.2.1 (by decide)) _), (((((M18.out.2.2.2.2.2.2.2.2.2.1.other (box_ne M18.out.2.2.2.2.2.2.2.2.2.1 M18.out.2.2.2.2.1 (by decide)) _).other (box_ne M18.out.2.2.2.2.2.2.2.2.2.1 M18.out.2.2.2.2.1 (by decide)) _).other (box_ne M18.out.2.2.2.2.2.2.2.2.2.1 M18.out.2.2.2.2.1 (by decide)) _).other (box_ne M18.out.2.2.2.2.2.2.2.2.2.1 M18.out.2.2.2.2.1 (by decide)) _).other (box_ne M18.out.2.2.2.2.2.2.2.2.2.1 M18.out.2.2.2.2.1 (by decide)) _), (((((M18.out.2.2.2.2.2.2.2.2.2.2.set M18.out.2.2.2.2.1 (by decide) 3 _).set (M18.out.2.2.2.2.1.set 3 (.int .i64 (q2 : Int))) (by decide) 4 _).set ((M18.out.2.2.2.2.1.set 3 (.int .i64 (q2 : Int))).set 4 (.int .i64 (enA v q2 sd))) (by decide) 5 _).set (((M18.out.2.2.2.2.1.set 3 (.int .i64 (q2 : Int))).set 4 (.int .i64 (enA v q2 sd))).set 5 (.int .i64 (enW sd))) (by decide) 6 _).set ((((M18.out.2.2.2.2.1.set 3 (.int .i64 (q2 : Int))).set 4 (.int .i64 (enA v q2 sd))).set 5 (.int .i64 (enW sd))).set 6 (.int .i64 lg)) (by decide) 7 _)⟩
       clear M18
       generalize hgen : (((((w18.setCell ⟨ob, 3, none⟩ (.int .i64 (q2 : Int))).setCell ⟨ob, 4, none⟩ (.int .i64 (enA v q2 sd))).setCell ⟨ob, 5, none⟩ (.int .i64 (enW sd))).setCell ⟨ob, 6, none⟩ (.int .i64 lg)).setCell ⟨ob, 7, none⟩ (.slice ya (nb + 1) yc)) = W20 at M19
       have HMW : Hid (mvM v T (W20.cell? ⟨ob, 1, none⟩) (W20.cell? ⟨ob, 3, none⟩) (W20.cell? ⟨ob, 4, none⟩) (W20.cell? ⟨ob, 5, none⟩) = 2 * (T - far).toNat + 0) := by
        have h9 := M19.out.2.2.2.2.1
        rw [← HNX.out.1, ← HNX.out.2.1, ← HNX.out.2.2] at h9
        have h8 := mvM_at (v := v) (T := T) (mvE v L ⟨fp, fa, fw, nb, B, far, no, O⟩) (h9.cell 1) (h9.cell 3) (h9.cell 4) (h9.cell 5)
        rw [if_neg HMR.out] at h8
        exact h8
       go_wp2_with fail
       go_roundw
       case rel => exact ⟨(mvE v L ⟨fp, fa, fw, nb, B, far, no, O⟩), ya, yc, xa, xc, fun r c j h => HS.out r c j (.enter hlt HR0.out HC0.out hn200 h), HOE.out, ⟨hno.1, hno.2⟩, ⟨M19.out.1, M19.out.2.1, M19.out.2.2.1, M19.out.2.2.2.1, by have h9 := M19.out.2.2.2.2.1; rw [← HNX.out.1, ← HNX.out.2.1, ← HNX.out.2.2] at h9; exact h9, M19.out.2.2.2.2.2.2.2.2.2.2, M19.out.2.2.2.2.2.2.1⟩⟩
       case measure => rw [HMW.out, HMT.out]; omega
     ·
      have HC1 : Hid (¬ mvC v L (⟨fp, fa, fw, nb, B, far, no, O⟩ : Mv) = 0 ∧ mvC v L (⟨fp, fa, fw, nb, B, far, no, O⟩ : Mv) = cd) := ⟨fun h => hcd (HCD.out.symm.trans h), HCD.out⟩
      have hcd' : (cd != 0) = true := by simpa using hcd
      have m0 : W9a.cell? ⟨ob, 0, none⟩ = some (.int .i64 0) := E.out.2.2.2.2.1.cell 0
      have m1 : W9a.cell? ⟨ob, 1, none⟩ = some (.int .i64 far) := E.out.2.2.2.2.1.cell 1
      have m2 : W9a.cell? ⟨ob, 2, none⟩ = some (.int .i64 (-1)) := E.out.2.2.2.2.1.cell 2
      have m3 : W9a.cell? ⟨ob, 3, none⟩ = some (.int .i64 (fp : Int)) := E.out.2.2.2.2.1.cell 3
      have m4 : W9a.cell? ⟨ob, 4, none⟩ = some (.int .i64 fa) := E.out.2.2.2.2.1.cell 4
      have m5 : W9a.cell? ⟨ob, 5, none⟩ = some (.int .i64 fw) := E.out.2.2.2.2.1.cell 5
      have m6 : W9a.cell? ⟨ob, 6, none⟩ = some (.int .i64 lg) := E.out.2.2.2.2.1.cell 6
      have m7 : W9a.cell? ⟨ob, 7, none⟩ = some (.slice oa nb oc) := E.out.2.2.2.2.1.cell 7
      have m8 : W9a.cell? ⟨ob, 8, none⟩ = some (.slice xa no xc) := E.out.2.2.2.2.1.cell 8
      have mf0 := E.out.2.2.2.2.1.free 0
      have mf1 := E.out.2.2.2.2.1.free 1
      have mf2 := E.out.2.2.2.2.1.free 2
      have mf3 := E.out.2.2.2.2.1.free 3
      have mf4 := E.out.2.2.2.2.1.free 4
      have mf5 := E.out.2.2.2.2.1.free 5
      have mf6 := E.out.2.2.2.2.1.free 6
      have mf7 := E.out.2.2.2.2.1.free 7
      have mf8 := E.out.2.2.2.2.1.free 8
      have MA167 : Hid (Below w.heap.size w ((W9a.setCell ⟨ob, 0, none⟩ (.int .i64 cd)).setCell ⟨ob, 2, none⟩ (.int .i64 jj)) ∧ Box ((W9a.setCell ⟨ob, 0, none⟩ (.int .i64 cd)).setCell ⟨ob, 2, none⟩ (.int .i64 jj)) (w.heap.size) 40 #[.slice pa v.n pc, .slice ja v.m jc] ∧ Box ((W9a.setCell ⟨ob, 0, none⟩ (.int .i64 cd)).setCell ⟨ob, 2, none⟩ (.int .i64 jj)) (w.heap.size + 1) 33 #[.int .i64 (fq : Int), .int .i64 ga, .int .i64 gw, .int .i64 lg, .slice ba mb bk] ∧ Box ((W9a.setCell ⟨ob, 0, none⟩ (.int .i64 cd)).setCell ⟨ob, 2, none⟩ (.int .i64 jj)) (w.heap.size + 1 + 1) 61 #[.int .i64 0, .int .i64 0, .int .i64 0, .int .i64 0, .int .i64 0, .int .i64 0, .int .i64 0, .slice none 0 0, .slice none 0 0] ∧ Box ((W9a.setCell ⟨ob, 0, none⟩ (.int .i64 cd)).setCell ⟨ob, 2, none⟩ (.int .i64 jj)) (ob) 61 #[.int .i64 cd, .int .i64 far, .int .i64 jj, .int .i64 (fp : Int), .int .i64 fa, .int .i64 fw, .int .i64 lg, .slice oa nb oc, .slice xa no xc] ∧ VOwn w.heap.size 74 2 ((W9a.setCell ⟨ob, 0, none⟩ (.int .i64 cd)).setCell ⟨ob, 2, none⟩ (.int .i64 jj)) (.slice oa nb oc) nb (intF B) ∧ VOwn w.heap.size 112 3 ((W9a.setCell ⟨ob, 0, none⟩ (.int .i64 cd)).setCell ⟨ob, 2, none⟩ (.int .i64 jj)) (.slice xa no xc) no (intF O) ∧ Box ((W9a.setCell ⟨ob, 0, none⟩ (.int .i64 cd)).setCell ⟨ob, 2, none⟩ (.int .i64 jj)) (fb) 30 #[.int .i64 (fp : Int), .int .i64 fa, .int .i64 fw] ∧ Box ((W9a.setCell ⟨ob, 0, none⟩ (.int .i64 cd)).setCell ⟨ob, 2, none⟩ (.int .i64 jj)) (eb) 76 #[.int .i64 a, .int .i64 b]) := ⟨((E.out.1.setCell HL73.out _).setCell HL73.out _), ((E.out.2.1.other (box_ne E.out.2.1 E.out.2.2.2.2.1 (by decide)) _).other (box_ne E.out.2.1 E.out.2.2.2.2.1 (by decide)) _), ((E.out.2.2.1.other (box_ne E.out.2.2.1 E.out.2.2.2.2.1 (by decide)) _).other (box_ne E.out.2.2.1 E.out.2.2.2.2.1 (by decide)) _), ((E.out.2.2.2.1.other HE74.out _).other HE74.out _), by have h9 := ((E.out.2.2.2.2.1.set 0 (.int .i64 cd)).set 2 (.int .i64 jj)); exact h9, ((E.out.2.2.2.2.2.1.set E.out.2.2.2.2.1 (by decide) 0 _).set (E.out.2.2.2.2.1.set 0 (.int .i64 cd)) (by decide) 2 _), ((E.out.2.2.2.2.2.2.1.set E.out.2.2.2.2.1 (by decide) 0 _).set (E.out.2.2.2.2.1.set 0 (.int .i64 cd)) (by decide) 2 _), ((E.out.2.2.2.2.2.2.2.1.other (box_ne E.out.2.2.2.2.2.2.2.1 E.out.2.2.2.2.1 (by decide)) _).other (box_ne E.out.2.2.2.2.2.2.2.1 E.out.2.2.2.2.1 (by decide)) _), ((E.out.2.2.2.2.2.2.2.2.other (box_ne E.out.2.2.2.2.2.2.2.2 E.out.2.2.2.2.1 (by decide)) _).other (box_ne E.out.2.2.2.2.2.2.2.2 E.out.2.2.2.2.1 (by decide)) _)⟩
      clear E
      generalize hgen : ((W9a.setCell ⟨ob, 0, none⟩ (.int .i64 cd)).setCell ⟨ob, 2, none⟩ (.int .i64 jj)) = WB at MA167
      go_wp2_with fail
      go_meet
      case rel => exact ⟨cd, jj, ⟨fp, fa, fw, nb, B, far, no, O⟩, oa, oc, xa, xc, ⟨fun _ => HS.out _ _ _ (by have h9 := MvTo.stop (lg := lg) hlt HR0.out HC1.out.1; rw [HC1.out.2, HJS.out] at h9; exact h9), fun h => absurd (h.symm.trans HRB.out) (by decide)⟩, HOK, ⟨MA167.out.1, MA167.out.2.1, MA167.out.2.2.1, MA167.out.2.2.2.1, MA167.out.2.2.2.2.1, MA167.out.2.2.2.2.2.1, MA167.out.2.2.2.2.2.2.1⟩⟩
   ·
    have HR1 : Hid (¬ mvR v (⟨fp, fa, fw, nb, B, far, no, O⟩ : Mv) = 0) := fun h => hr0 (HRS.out.symm.trans h)
    have hr0' : (rm == 0) = false := by simpa using hr0
    have hwt : IntKind.i64.wrap (T - far) = T - far := by rw [IntKind.wrap_i64]; omega
    have hrm : rm ≤ (v.P fp).ln := by have h9 := (mv_room HOK.out).2.1; rw [HRS.out] at h9; exact h9
    by_cases hmn : T - far < rm
    ·
     have HBY0 : Hid (mvBy v T (⟨fp, fa, fw, nb, B, far, no, O⟩ : Mv) = T - far) := by show (if mvR v (⟨fp, fa, fw, nb, B, far, no, O⟩ : Mv) ≤ T - far then mvR v (⟨fp, fa, fw, nb, B, far, no, O⟩ : Mv) else T - far) = _; rw [HRS.out, if_neg (by omega)]
     have m0 : w7.cell? ⟨ob, 0, none⟩ = some (.int .i64 0) := M7.out.2.2.2.2.1.cell 0
     have m1 : w7.cell? ⟨ob, 1, none⟩ = some (.int .i64 far) := M7.out.2.2.2.2.1.cell 1
     have m2 : w7.cell? ⟨ob, 2, none⟩ = some (.int .i64 (-1)) := M7.out.2.2.2.2.1.cell 2
     have m3 : w7.cell? ⟨ob, 3, none⟩ = some (.int .i64 (fp : Int)) := M7.out.2.2.2.2.1.cell 3
     have m4 : w7.cell? ⟨ob, 4, none⟩ = some (.int .i64 fa) := M7.out.2.2.2.2.1.cell 4
     have m5 : w7.cell? ⟨ob, 5, none⟩ = some (.int .i64 fw) := M7.out.2.2.2.2.1.cell 5
     have m6 : w7.cell? ⟨ob, 6, none⟩ = some (.int .i64 lg) := M7.out.2.2.2.2.1.cell 6
     have m7 : w7.cell? ⟨ob, 7, none⟩ = some (.slice oa nb oc) := M7.out.2.2.2.2.1.cell 7
     have m8 : w7.cell? ⟨ob, 8, none⟩ = some (.slice xa no xc) := M7.out.2.2.2.2.1.cell 8
     go_upto_region 22 with fail
     clear m0 m1 m2 m3 m4 m5 m6 m7 m8
     obtain ⟨bb, HBB⟩ : ∃ b, Hid (T - far = b) := ⟨_, rfl⟩
     rw [HBB.out]
     have HBY : Hid (mvBy v T (⟨fp, fa, fw, nb, B, far, no, O⟩ : Mv) = bb) := HBY0.out.trans HBB.out
     clear HBY0 hmn
     have HBP : Hid (0 < bb ∧ bb ≤ rm ∧ bb ≤ T - far) := by have h9 := mv_by HOK.out hlt HR1.out; rw [HBY.out, HRS.out] at h9; exact h9
     obtain ⟨al, HAL⟩ : ∃ a, Hid (farI (v.P fp).ln fa fw = a) := ⟨_, rfl⟩
     have hal : 0 ≤ al ∧ al + bb ≤ (v.P fp).ln := by
      have h9 := mv_room HOK.out
      have h8 := HBP.out
      rw [show mvAl v (⟨fp, fa, fw, nb, B, far, no, O⟩ : Mv) = al from HAL.out, HRS.out] at h9
      have h7 := h9.2.2.1
      have h6 := h9.2.2.2.1
      simp only at h7
      omega
     obtain ⟨hbp1, hbp2, hbp3⟩ := HBP.out
     obtain ⟨t1, t2, HT12⟩ : ∃ t1 t2, Hid (pfA (v.P fp).ln fw al (al + bb) = t1 ∧ pfB (v.P fp).ln fw al (al + bb) = t2) := ⟨_, _, rfl, rfl⟩
     have HVS : Hid ((#[.int .i64 (fp : Int), .int .i64 t1, .int .i64 t2] : Array Value).toList = (List.range 3).map (intF (ovF no O (fp : Int) t1 t2) no)) := by
      show _ = _
      simp [List.range_succ, intF, ovF]
     have hw1 : IntKind.i64.wrap (al + bb) = al + bb := by rw [IntKind.wrap_i64]; omega
     have hw2 : IntKind.i64.wrap (bb * fw) = bb * fw := by rcases hfw with e | e <;> rw [e, IntKind.wrap_i64] <;> omega
     have hw3 : IntKind.i64.wrap (fa + bb * fw) = fa + bb * fw := by rcases hfw with e | e <;> rw [e, IntKind.wrap_i64] <;> omega
     have hw4 : IntKind.i64.wrap (far + bb) = far + bb := by rw [IntKind.wrap_i64]; omega
     have HOA : Hid (MvOk v lg (mvA v lg T (⟨fp, fa, fw, nb, B, far, no, O⟩ : Mv))) := mvA_ok HOK.out hlt HR1.out
     have HA1 : Hid (spotB v (fp : Int) (fa + bb * fw) fw = true ∧ lg ≤ hvF v (fp : Int) (fa + bb * fw) fw B nb) := by
      have h9 := HOA.out.spot
      have h8 := mvA_hv HOK.out hlt HR1.out nb
      have h7 : lg ≤ mvH v (⟨fp, fa, fw, nb, B, far, no, O⟩ : Mv) nb := HOK.out.le
      have e1 : (mvA v lg T (⟨fp, fa, fw, nb, B, far, no, O⟩ : Mv)).fa = fa + bb * fw := by rw [← HBY.out]; rfl
      rw [e1] at h9
      refine ⟨h9, ?_⟩
      have e2 : mvH v (mvA v lg T (⟨fp, fa, fw, nb, B, far, no, O⟩ : Mv)) nb = hvF v (fp : Int) (fa + bb * fw) fw B nb := by show hvF v (fp : Int) (mvA v lg T (⟨fp, fa, fw, nb, B, far, no, O⟩ : Mv)).fa fw B nb = _; rw [e1]
      rw [e2, HBY.out] at h8
      omega
     have HNB : Hid (ndN (hvF v (fp : Int) (fa + bb * fw) fw B) lg nb = (mvA v lg T (⟨fp, fa, fw, nb, B, far, no, O⟩ : Mv)).nb) := by rw [← HBY.out]; rfl
     have HNO2 : Hid (((mvA v lg T (⟨fp, fa, fw, nb, B, far, no, O⟩ : Mv)).no : Int) ≤ (mvA v lg T (⟨fp, fa, fw, nb, B, far, no, O⟩ : Mv)).far ∧ (mvA v lg T (⟨fp, fa, fw, nb, B, far, no, O⟩ : Mv)).far ≤ T) := by
      have e1 : (mvA v lg T (⟨fp, fa, fw, nb, B, far, no, O⟩ : Mv)).far = far + bb := by rw [← HBY.out]; rfl
      have e2 : (((mvA v lg T (⟨fp, fa, fw, nb, B, far, no, O⟩ : Mv)).no : Nat) : Int) = (no : Int) + 1 := rfl
      rw [e1, e2]
      show _ ∧ _
      omega
     have x0 : w7.cell? ⟨w.heap.size, 0, none⟩ = some (.slice pa v.n pc) := M7.out.2.1.cell 0
     have x1 : w7.cell? ⟨w.heap.size, 1, none⟩ = some (.slice ja v.m jc) := M7.out.2.1.cell 1
     have m0 : w7.cell? ⟨ob, 0, none⟩ = some (.int .i64 0) := M7.out.2.2.2.2.1.cell 0
     have m1 : w7.cell? ⟨ob, 1, none⟩ = some (.int .i64 far) := M7.out.2.2.2.2.1.cell 1
     have m2 : w7.cell? ⟨ob, 2, none⟩ = some (.int .i64 (-1)) := M7.out.2.2.2.2.1.cell 2
     have m3 : w7.cell? ⟨ob, 3, none⟩ = some (.int .i64 (fp : Int)) := M7.out.2.2.2.2.1.cell 3
     have m4 : w7.cell? ⟨ob, 4, none⟩ = some (.int .i64 fa) := M7.out.2.2.2.2.1.cell 4
     have m5 : w7.cell? ⟨ob, 5, none⟩ = some (.int .i64 fw) := M7.out.2.2.2.2.1.cell 5
     have m6 : w7.cell? ⟨ob, 6, none⟩ = some (.int .i64 lg) := M7.out.2.2.2.2.1.cell 6
     have m7 : w7.cell? ⟨ob, 7, none⟩ = some (.slice oa nb oc) := M7.out.2.2.2.2.1.cell 7
     have m8 : w7.cell? ⟨ob, 8, none⟩ = some (.slice xa no xc) := M7.out.2.2.2.2.1.cell 8
     go_wp2_with fail
     clear x0 x1 m0 m1 m2 m3 m4 m5 m6 m7 m8
     refine (behind63 OK.out.1 pa pc ja jc fp fa fw w7 hfp hfa (H.out.1.mono nr M7.out.1 nr)).mono ?_
     rintro e w22 ⟨he, hb⟩
     rw [HAL.out] at he
     subst he
     have M22 : Hid (Below w.heap.size w w22 ∧ Box w22 (w.heap.size) 40 #[.slice pa v.n pc, .slice ja v.m jc] ∧ Box w22 (w.heap.size + 1) 33 #[.int .i64 (fq : Int), .int .i64 ga, .int .i64 gw, .int .i64 lg, .slice ba mb bk] ∧ Box w22 (w.heap.size + 1 + 1) 61 #[.int .i64 0, .int .i64 0, .int .i64 0, .int .i64 0, .int .i64 0, .int .i64 0, .int .i64 0, .slice none 0 0, .slice none 0 0] ∧ Box w22 (ob) 61 #[.int .i64 0, .int .i64 far, .int .i64 (-1), .int .i64 (fp : Int), .int .i64 fa, .int .i64 fw, .int .i64 lg, .slice oa nb oc, .slice xa no xc] ∧ VOwn w.heap.size 74 2 w22 (.slice oa nb oc) nb (intF B) ∧ VOwn w.heap.size 112 3 w22 (.slice xa no xc) no (intF O)) := ⟨M7.out.1.trans (hb.mono M7.out.1.size), M7.out.2.1.mono hb nr, M7.out.2.2.1.mono hb nr, M7.out.2.2.2.1.mono hb nr, M7.out.2.2.2.2.1.mono hb nr, M7.out.2.2.2.2.2.1.mono nr hb nr, M7.out.2.2.2.2.2.2.mono nr hb nr⟩
     clear hb M7
     go_upto_region 23 with fail
     go_cut [] from 28 to 142 (fun wx => ∃ (g2 : Option Addr) (gc : Nat), Hid (Below w.heap.size w wx ∧ Box wx (w.heap.size) 40 #[.slice pa v.n pc, .slice ja v.m jc] ∧ Box wx (w.heap.size + 1) 33 #[.int .i64 (fq : Int), .int .i64 ga, .int .i64 gw, .int .i64 lg, .slice ba mb bk] ∧ Box wx (w.heap.size + 1 + 1) 61 #[.int .i64 0, .int .i64 0, .int .i64 0, .int .i64 0, .int .i64 0, .int .i64 0, .int .i64 0, .slice none 0 0, .slice none 0 0] ∧ Box wx (ob) 61 #[.int .i64 0, .int .i64 far, .int .i64 (-1), .int .i64 (fp : Int), .int .i64 fa, .int .i64 fw, .int .i64 lg, .slice oa nb oc, .slice g2 (no + 1) gc] ∧ VOwn w.heap.size 74 2 wx (.slice oa nb oc) nb (intF B) ∧ VOwn w.heap.size 112 3 wx (.slice g2 (no + 1) gc) (no + 1) (intF (ovF no O (fp : Int) t1 t2))))
     case first =>
      have x0 : w22.cell? ⟨w.heap.size, 0, none⟩ = some (.slice pa v.n pc) := M22.out.2.1.cell 0
      have x1 : w22.cell? ⟨w.heap.size, 1, none⟩ = some (.slice ja v.m jc) := M22.out.2.1.cell 1
      have m3 : w22.cell? ⟨ob, 3, none⟩ = some (.int .i64 (fp : Int)) := M22.out.2.2.2.2.1.cell 3
      have m5 : w22.cell? ⟨ob, 5, none⟩ = some (.int .i64 fw) := M22.out.2.2.2.2.1.cell 5
      go_wp2_with fail
      refine wp_region_held_drew (S := (fun wx : World => wx.cell? ⟨w.heap.size, 0, none⟩ = some (.slice pa v.n pc) ∧ wx.cell? ⟨w.heap.size, 1, none⟩ = some (.slice ja v.m jc) ∧ wx.cell? ⟨ob, 3, none⟩ = some (.int .i64 (fp : Int)) ∧ wx.cell? ⟨ob, 5, none⟩ = some (.int .i64 fw))) (by kernel_rfl) ?_ (fun hHeld => ?_)
      ·
       exact ⟨x0, x1, m3, m5⟩
      have MD80 : Hid (Below w.heap.size w w22.drew ∧ Box w22.drew (w.heap.size) 40 #[.slice pa v.n pc, .slice ja v.m jc] ∧ Box w22.drew (w.heap.size + 1) 33 #[.int .i64 (fq : Int), .int .i64 ga, .int .i64 gw, .int .i64 lg, .slice ba mb bk] ∧ Box w22.drew (w.heap.size + 1 + 1) 61 #[.int .i64 0, .int .i64 0, .int .i64 0, .int .i64 0, .int .i64 0, .int .i64 0, .int .i64 0, .slice none 0 0, .slice none 0 0] ∧ Box w22.drew (ob) 61 #[.int .i64 0, .int .i64 far, .int .i64 (-1), .int .i64 (fp : Int), .int .i64 fa, .int .i64 fw, .int .i64 lg, .slice oa nb oc, .slice xa no xc] ∧ VOwn w.heap.size 74 2 w22.drew (.slice oa nb oc) nb (intF B) ∧ VOwn w.heap.size 112 3 w22.drew (.slice xa no xc) no (intF O)) := ⟨M22.out.1.drew, M22.out.2.1.drew, M22.out.2.2.1.drew, M22.out.2.2.2.1.drew, M22.out.2.2.2.2.1.drew, M22.out.2.2.2.2.2.1, M22.out.2.2.2.2.2.2⟩
      clear x0 x1 m3 m5 M22
      generalize w22.drew = VD at MD80 hHeld ⊢
      refine tk 0 ?_
      refine tk 2 ?_
      refine tk 3 ?_
      refine tk 4 ?_
      refine tk 5 ?_
      refine tk 6 ?_
      refine tk 7 ?_
      refine tk 8 ?_
      refine tk 9 ?_
      refine tk 10 ?_
      refine tk 11 ?_
      refine tk 12 ?_
      refine tk 13 ?_
      refine tk 14 ?_
      refine ready2_lit (i := 1) (j := 15) (by kernel_rfl) rfl rfl (fun K hK => ?_) (fun K hK => ?_)
      ·
       have o8 : VD.cell? ⟨ob, 8, none⟩ = some (.slice xa no xc) := MD80.out.2.2.2.2.1.cell 8
       go_simp
       refine hK.out _ _ ?_ (fun hHeld => ?_)
       ·
        exact ⟨MD80.out.2.1.cell 0, MD80.out.2.1.cell 1, MD80.out.2.2.2.2.1.cell 3, MD80.out.2.2.2.2.1.cell 5⟩
       clear hK K
       clear o8
       refine rl 15 fun K hK => ?_
       go_simp
       refine (part49 OK.out.1 pa pc ja jc fp fw al (al + bb) _ hfp hfw ⟨by omega, by omega⟩ ⟨by omega, by omega⟩ (H.out.1.mono nr MD80.out.1 nr)).mono ?_
       rintro e wh81 ⟨he, hb⟩
       rw [HT12.out.1, HT12.out.2] at he
       subst he
       have MA82 : Hid (Below w.heap.size w wh81 ∧ Box wh81 (w.heap.size) 40 #[.slice pa v.n pc, .slice ja v.m jc] ∧ Box wh81 (w.heap.size + 1) 33 #[.int .i64 (fq : Int), .int .i64 ga, .int .i64 gw, .int .i64 lg, .slice ba mb bk] ∧ Box wh81 (w.heap.size + 1 + 1) 61 #[.int .i64 0, .int .i64 0, .int .i64 0, .int .i64 0, .int .i64 0, .int .i64 0, .int .i64 0, .slice none 0 0, .slice none 0 0] ∧ Box wh81 (ob) 61 #[.int .i64 0, .int .i64 far, .int .i64 (-1), .int .i64 (fp : Int), .int .i64 fa, .int .i64 fw, .int .i64 lg, .slice oa nb oc, .slice xa no xc] ∧ VOwn w.heap.size 74 2 wh81 (.slice oa nb oc) nb (intF B) ∧ VOwn w.heap.size 112 3 wh81 (.slice xa no xc) no (intF O)) := ⟨MD80.out.1.trans (hb.mono MD80.out.1.size), MD80.out.2.1.mono hb nr, MD80.out.2.2.1.mono hb nr, MD80.out.2.2.2.1.mono hb nr, MD80.out.2.2.2.2.1.mono hb nr, MD80.out.2.2.2.2.2.1.mono nr hb nr, MD80.out.2.2.2.2.2.2.mono nr hb nr⟩
       clear hb MD80
       go_wp2_with fail
       refine hK.out _ _ ?_ (fun hHeld => ?_)
       ·
        exact ⟨MA82.out.2.1.cell 0, MA82.out.2.1.cell 1, MA82.out.2.2.2.2.1.cell 3, MA82.out.2.2.2.2.1.cell 5⟩
       clear hK K
       refine rl 16 fun K hK => ?_
       have MA84 : Hid (Below w.heap.size w (wh81.alloc (.cells #[.int .i64 (fp : Int), .int .i64 t1, .int .i64 t2] 112)) ∧ Box (wh81.alloc (.cells #[.int .i64 (fp : Int), .int .i64 t1, .int .i64 t2] 112)) (w.heap.size) 40 #[.slice pa v.n pc, .slice ja v.m jc] ∧ Box (wh81.alloc (.cells #[.int .i64 (fp : Int), .int .i64 t1, .int .i64 t2] 112)) (w.heap.size + 1) 33 #[.int .i64 (fq : Int), .int .i64 ga, .int .i64 gw, .int .i64 lg, .slice ba mb bk] ∧ Box (wh81.alloc (.cells #[.int .i64 (fp : Int), .int .i64 t1, .int .i64 t2] 112)) (w.heap.size + 1 + 1) 61 #[.int .i64 0, .int .i64 0, .int .i64 0, .int .i64 0, .int .i64 0, .int .i64 0, .int .i64 0, .slice none 0 0, .slice none 0 0] ∧ Box (wh81.alloc (.cells #[.int .i64 (fp : Int), .int .i64 t1, .int .i64 t2] 112)) (ob) 61 #[.int .i64 0, .int .i64 far, .int .i64 (-1), .int .i64 (fp : Int), .int .i64 fa, .int .i64 fw, .int .i64 lg, .slice oa nb oc, .slice xa no xc] ∧ VOwn w.heap.size 74 2 (wh81.alloc (.cells #[.int .i64 (fp : Int), .int .i64 t1, .int .i64 t2] 112)) (.slice oa nb oc) nb (intF B) ∧ VOwn w.heap.size 112 3 (wh81.alloc (.cells #[.int .i64 (fp : Int), .int .i64 t1, .int .i64 t2] 112)) (.slice xa no xc) no (intF O) ∧ Box (wh81.alloc (.cells #[.int .i64 (fp : Int), .int .i64 t1, .int .i64 t2] 112)) (wh81.heap.size) 112 #[.int .i64 (fp : Int), .int .i64 t1, .int .i64 t2]) := ⟨MA82.out.1.alloc MA82.out.1.size _, MA82.out.2.1.alloc _, MA82.out.2.2.1.alloc _, MA82.out.2.2.2.1.alloc _, MA82.out.2.2.2.2.1.alloc _, MA82.out.2.2.2.2.2.1.alloc _, MA82.out.2.2.2.2.2.2.alloc _, Box.new _ _ _⟩
       have HL85 : Hid (w.heap.size ≤ wh81.heap.size) := MA82.out.1.size
       have HO86 : Hid (∀ g, (Value.slice xa no xc).ownBlock = some g → g < wh81.heap.size) := fun g hg => (MA82.out.2.2.2.2.2.2.lt hg).2
       clear MA82
       go_simp
       refine hK.out _ _ ?_ (fun hHeld => ?_)
       ·
        exact ⟨MA84.out.2.1.cell 0, MA84.out.2.1.cell 1, MA84.out.2.2.2.2.1.cell 3, MA84.out.2.2.2.2.1.cell 5⟩
       clear hK K
       clear hHeld
       generalize wh81.alloc (.cells #[.int .i64 (fp : Int), .int .i64 t1, .int .i64 t2] 112) = V83 at MA84 ⊢
       generalize wh81.heap.size = qb at MA84 HL85 HO86 ⊢
       have HOV : Hid (VOwn w.heap.size 112 3 V83 (.slice xa no xc) no (intF (ovF no O (fp : Int) t1 t2))) := MA84.out.2.2.2.2.2.2.1.congr (fun i hi j _ => by show Value.int .i64 (O i j) = Value.int .i64 (ovF no O (fp : Int) t1 t2 i j); rw [ovF, if_neg (by omega)])
       have HSZ : Hid (w.heap.size ≤ V83.heap.size) := MA84.out.1.size
       refine rl 17 fun K hK => ?_
       refine step_vapp V83 rfl _ _ 59 rfl w.heap.size 112 i1 _ 3 24 Tryz.underlying59 hi1 hz1 hs1 hb1 rfl (by decide) (.slice xa no xc) no (intF (ovF no O (fp : Int) t1 t2)) rfl HOV.out (fun _ _ => rfl) qb 1 #[.int .i64 (fp : Int), .int .i64 t1, .int .i64 t2] rfl MA84.out.2.2.2.2.2.2.2 HVS.out (by simp only [maxLen]; omega) (by omega) HSZ.out ?_
       intro g2 gc wg87 ho2 hg2
       have MG88 : Hid (Below w.heap.size w wg87 ∧ Box wg87 (w.heap.size) 40 #[.slice pa v.n pc, .slice ja v.m jc] ∧ Box wg87 (w.heap.size + 1) 33 #[.int .i64 (fq : Int), .int .i64 ga, .int .i64 gw, .int .i64 lg, .slice ba mb bk] ∧ Box wg87 (w.heap.size + 1 + 1) 61 #[.int .i64 0, .int .i64 0, .int .i64 0, .int .i64 0, .int .i64 0, .int .i64 0, .int .i64 0, .slice none 0 0, .slice none 0 0] ∧ Box wg87 (ob) 61 #[.int .i64 0, .int .i64 far, .int .i64 (-1), .int .i64 (fp : Int), .int .i64 fa, .int .i64 fw, .int .i64 lg, .slice oa nb oc, .slice xa no xc] ∧ VOwn w.heap.size 74 2 wg87 (.slice oa nb oc) nb (intF B) ∧ VOwn w.heap.size 112 3 wg87 (.slice (some ⟨g2, 0, none⟩) (no + 1) gc) (no + 1) (intF (ovF no O (fp : Int) t1 t2))) := ⟨MA84.out.1.grown hg2 MA84.out.1.size (fun _ hj => (MA84.out.2.2.2.2.2.2.1.lt hj).1), MA84.out.2.1.grown hg2 (fun e => MA84.out.2.2.2.2.2.2.1.off MA84.out.2.1 (by decide) e rfl), MA84.out.2.2.1.grown hg2 (fun e => MA84.out.2.2.2.2.2.2.1.off MA84.out.2.2.1 (by decide) e rfl), MA84.out.2.2.2.1.grown hg2 (fun e => MA84.out.2.2.2.2.2.2.1.off MA84.out.2.2.2.1 (by decide) e rfl), MA84.out.2.2.2.2.1.grown hg2 (fun e => MA84.out.2.2.2.2.2.2.1.off MA84.out.2.2.2.2.1 (by decide) e rfl), MA84.out.2.2.2.2.2.1.grown' hg2 (fun _ hh => MA84.out.2.2.2.2.2.1.apart MA84.out.2.2.2.2.2.2.1 (by decide) hh), ho2⟩
       clear ho2 hg2 HOV HSZ MA84
       simp only [Act.put, List.setIfInBounds_toArray, List.set_cons_zero, List.set_cons_succ]
       refine hK.out _ _ ?_ (fun hHeld => ?_)
       ·
        exact ⟨MG88.out.2.1.cell 0, MG88.out.2.1.cell 1, MG88.out.2.2.2.2.1.cell 3, MG88.out.2.2.2.2.1.cell 5⟩
       clear hK K
       refine tk 18 ?_
       have m0 : wg87.cell? ⟨ob, 0, none⟩ = some (.int .i64 0) := MG88.out.2.2.2.2.1.cell 0
       have m1 : wg87.cell? ⟨ob, 1, none⟩ = some (.int .i64 far) := MG88.out.2.2.2.2.1.cell 1
       have m2 : wg87.cell? ⟨ob, 2, none⟩ = some (.int .i64 (-1)) := MG88.out.2.2.2.2.1.cell 2
       have m3 : wg87.cell? ⟨ob, 3, none⟩ = some (.int .i64 (fp : Int)) := MG88.out.2.2.2.2.1.cell 3
       have m4 : wg87.cell? ⟨ob, 4, none⟩ = some (.int .i64 fa) := MG88.out.2.2.2.2.1.cell 4
       have m5 : wg87.cell? ⟨ob, 5, none⟩ = some (.int .i64 fw) := MG88.out.2.2.2.2.1.cell 5
       have m6 : wg87.cell? ⟨ob, 6, none⟩ = some (.int .i64 lg) := MG88.out.2.2.2.2.1.cell 6
       have m7 : wg87.cell? ⟨ob, 7, none⟩ = some (.slice oa nb oc) := MG88.out.2.2.2.2.1.cell 7
       have m8 : wg87.cell? ⟨ob, 8, none⟩ = some (.slice xa no xc) := MG88.out.2.2.2.2.1.cell 8
       have mf0 := MG88.out.2.2.2.2.1.free 0
       have mf1 := MG88.out.2.2.2.2.1.free 1
       have mf2 := MG88.out.2.2.2.2.1.free 2
       have mf3 := MG88.out.2.2.2.2.1.free 3
       have mf4 := MG88.out.2.2.2.2.1.free 4
       have mf5 := MG88.out.2.2.2.2.1.free 5
       have mf6 := MG88.out.2.2.2.2.1.free 6
       have mf7 := MG88.out.2.2.2.2.1.free 7
       have mf8 := MG88.out.2.2.2.2.1.free 8
       have MA89 : Hid (Below w.heap.size w (wg87.setCell ⟨ob, 8, none⟩ (.slice (some ⟨g2, 0, none⟩) (no + 1) gc)) ∧ Box (wg87.setCell ⟨ob, 8, none⟩ (.slice (some ⟨g2, 0, none⟩) (no + 1) gc)) (w.heap.size) 40 #[.slice pa v.n pc, .slice ja v.m jc] ∧ Box (wg87.setCell ⟨ob, 8, none⟩ (.slice (some ⟨g2, 0, none⟩) (no + 1) gc)) (w.heap.size + 1) 33 #[.int .i64 (fq : Int), .int .i64 ga, .int .i64 gw, .int .i64 lg, .slice ba mb bk] ∧ Box (wg87.setCell ⟨ob, 8, none⟩ (.slice (some ⟨g2, 0, none⟩) (no + 1) gc)) (w.heap.size + 1 + 1) 61 #[.int .i64 0, .int .i64 0, .int .i64 0, .int .i64 0, .int .i64 0, .int .i64 0, .int .i64 0, .slice none 0 0, .slice none 0 0] ∧ Box (wg87.setCell ⟨ob, 8, none⟩ (.slice (some ⟨g2, 0, none⟩) (no + 1) gc)) (ob) 61 #[.int .i64 0, .int .i64 far, .int .i64 (-1), .int .i64 (fp : Int), .int .i64 fa, .int .i64 fw, .int .i64 lg, .slice oa nb oc, .slice (some ⟨g2, 0, none⟩) (no + 1) gc] ∧ VOwn w.heap.size 74 2 (wg87.setCell ⟨ob, 8, none⟩ (.slice (some ⟨g2, 0, none⟩) (no + 1) gc)) (.slice oa nb oc) nb (intF B) ∧ VOwn w.heap.size 112 3 (wg87.setCell ⟨ob, 8, none⟩ (.slice (some ⟨g2, 0, none⟩) (no + 1) gc)) (.slice (some ⟨g2, 0, none⟩) (no + 1) gc) (no + 1) (intF (ovF no O (fp : Int) t1 t2))) := ⟨(MG88.out.1.setCell HL73.out _), (MG88.out.2.1.other (box_ne MG88.out.2.1 MG88.out.2.2.2.2.1 (by decide)) _), (MG88.out.2.2.1.other (box_ne MG88.out.2.2.1 MG88.out.2.2.2.2.1 (by decide)) _), (MG88.out.2.2.2.1.other HE74.out _), by have h9 := (MG88.out.2.2.2.2.1.set 8 (.slice (some ⟨g2, 0, none⟩) (no + 1) gc)); exact h9, (MG88.out.2.2.2.2.2.1.set MG88.out.2.2.2.2.1 (by decide) 8 _), (MG88.out.2.2.2.2.2.2.set MG88.out.2.2.2.2.1 (by decide) 8 _)⟩
       clear MG88
       refine rl 19 fun K hK => ?_
       go_simp
       refine hK.out _ _ ?_ (fun hHeld => ?_)
       ·
        exact ⟨MA89.out.2.1.cell 0, MA89.out.2.1.cell 1, MA89.out.2.2.2.2.1.cell 3, MA89.out.2.2.2.2.1.cell 5⟩
       clear hK K
       refine wpAnyH_done (by kernel_rfl) ?_ _
       clear m0 m1 m2 m3 m4 m5 m6 m7 m8 mf0 mf1 mf2 mf3 mf4 mf5 mf6 mf7 mf8 hHeld
       generalize (wg87.setCell ⟨ob, 8, none⟩ (.slice (some ⟨g2, 0, none⟩) (no + 1) gc)) = W90 at MA89 ⊢
       go_wp2_with fail
       go_meet
       case rel => exact ⟨some ⟨g2, 0, none⟩, gc, ⟨MA89.out.1, MA89.out.2.1, MA89.out.2.2.1, MA89.out.2.2.2.1, MA89.out.2.2.2.2.1, MA89.out.2.2.2.2.2.1, MA89.out.2.2.2.2.2.2⟩⟩
      ·
       go_simp
       refine (part49 OK.out.1 pa pc ja jc fp fw al (al + bb) _ hfp hfw ⟨by omega, by omega⟩ ⟨by omega, by omega⟩ (H.out.1.mono nr MD80.out.1 nr)).mono ?_
       rintro e wh91 ⟨he, hb⟩
       rw [HT12.out.1, HT12.out.2] at he
       subst he
       have MA92 : Hid (Below w.heap.size w wh91 ∧ Box wh91 (w.heap.size) 40 #[.slice pa v.n pc, .slice ja v.m jc] ∧ Box wh91 (w.heap.size + 1) 33 #[.int .i64 (fq : Int), .int .i64 ga, .int .i64 gw, .int .i64 lg, .slice ba mb bk] ∧ Box wh91 (w.heap.size + 1 + 1) 61 #[.int .i64 0, .int .i64 0, .int .i64 0, .int .i64 0, .int .i64 0, .int .i64 0, .int .i64 0, .slice none 0 0, .slice none 0 0] ∧ Box wh91 (ob) 61 #[.int .i64 0, .int .i64 far, .int .i64 (-1), .int .i64 (fp : Int), .int .i64 fa, .int .i64 fw, .int .i64 lg, .slice oa nb oc, .slice xa no xc] ∧ VOwn w.heap.size 74 2 wh91 (.slice oa nb oc) nb (intF B) ∧ VOwn w.heap.size 112 3 wh91 (.slice xa no xc) no (intF O)) := ⟨MD80.out.1.trans (hb.mono MD80.out.1.size), MD80.out.2.1.mono hb nr, MD80.out.2.2.1.mono hb nr, MD80.out.2.2.2.1.mono hb nr, MD80.out.2.2.2.2.1.mono hb nr, MD80.out.2.2.2.2.2.1.mono nr hb nr, MD80.out.2.2.2.2.2.2.mono nr hb nr⟩
       clear hb MD80
       go_wp2_with fail
       refine hK.out _ _ ?_ (fun hHeld => ?_)
       ·
        exact ⟨MA92.out.2.1.cell 0, MA92.out.2.1.cell 1, MA92.out.2.2.2.2.1.cell 3, MA92.out.2.2.2.2.1.cell 5⟩
       clear hK K
       refine ready2_lit (i := 1) (j := 16) (by kernel_rfl) rfl rfl (fun K hK => ?_) (fun K hK => ?_)
       ·
        have o8 : wh91.cell? ⟨ob, 8, none⟩ = some (.slice xa no xc) := MA92.out.2.2.2.2.1.cell 8
        go_simp
        refine hK.out _ _ ?_ (fun hHeld => ?_)
        ·
         exact ⟨MA92.out.2.1.cell 0, MA92.out.2.1.cell 1, MA92.out.2.2.2.2.1.cell 3, MA92.out.2.2.2.2.1.cell 5⟩
        clear hK K
        clear o8
        refine rl 16 fun K hK => ?_
        have MA94 : Hid (Below w.heap.size w (wh91.alloc (.cells #[.int .i64 (fp : Int), .int .i64 t1, .int .i64 t2] 112)) ∧ Box (wh91.alloc (.cells #[.int .i64 (fp : Int), .int .i64 t1, .int .i64 t2] 112)) (w.heap.size) 40 #[.slice pa v.n pc, .slice ja v.m jc] ∧ Box (wh91.alloc (.cells #[.int .i64 (fp : Int), .int .i64 t1, .int .i64 t2] 112)) (w.heap.size + 1) 33 #[.int .i64 (fq : Int), .int .i64 ga, .int .i64 gw, .int .i64 lg, .slice ba mb bk] ∧ Box (wh91.alloc (.cells #[.int .i64 (fp : Int), .int .i64 t1, .int .i64 t2] 112)) (w.heap.size + 1 + 1) 61 #[.int .i64 0, .int .i64 0, .int .i64 0, .int .i64 0, .int .i64 0, .int .i64 0, .int .i64 0, .slice none 0 0, .slice none 0 0] ∧ Box (wh91.alloc (.cells #[.int .i64 (fp : Int), .int .i64 t1, .int .i64 t2] 112)) (ob) 61 #[.int .i64 0, .int .i64 far, .int .i64 (-1), .int .i64 (fp : Int), .int .i64 fa, .int .i64 fw, .int .i64 lg, .slice oa nb oc, .slice xa no xc] ∧ VOwn w.heap.size 74 2 (wh91.alloc (.cells #[.int .i64 (fp : Int), .int .i64 t1, .int .i64 t2] 112)) (.slice oa nb oc) nb (intF B) ∧ VOwn w.heap.size 112 3 (wh91.alloc (.cells #[.int .i64 (fp : Int), .int .i64 t1, .int .i64 t2] 112)) (.slice xa no xc) no (intF O) ∧ Box (wh91.alloc (.cells #[.int .i64 (fp : Int), .int .i64 t1, .int .i64 t2] 112)) (wh91.heap.size) 112 #[.int .i64 (fp : Int), .int .i64 t1, .int .i64 t2]) := ⟨MA92.out.1.alloc MA92.out.1.size _, MA92.out.2.1.alloc _, MA92.out.2.2.1.alloc _, MA92.out.2.2.2.1.alloc _, MA92.out.2.2.2.2.1.alloc _, MA92.out.2.2.2.2.2.1.alloc _, MA92.out.2.2.2.2.2.2.alloc _, Box.new _ _ _⟩
        have HL95 : Hid (w.heap.size ≤ wh91.heap.size) := MA92.out.1.size
        have HO96 : Hid (∀ g, (Value.slice xa no xc).ownBlock = some g → g < wh91.heap.size) := fun g hg => (MA92.out.2.2.2.2.2.2.lt hg).2
        clear MA92
        go_simp
        refine hK.out _ _ ?_ (fun hHeld => ?_)
        ·
         exact ⟨MA94.out.2.1.cell 0, MA94.out.2.1.cell 1, MA94.out.2.2.2.2.1.cell 3, MA94.out.2.2.2.2.1.cell 5⟩
        clear hK K
        clear hHeld
        generalize wh91.alloc (.cells #[.int .i64 (fp : Int), .int .i64 t1, .int .i64 t2] 112) = V93 at MA94 ⊢
        generalize wh91.heap.size = qb at MA94 HL95 HO96 ⊢
        have HOV : Hid (VOwn w.heap.size 112 3 V93 (.slice xa no xc) no (intF (ovF no O (fp : Int) t1 t2))) := MA94.out.2.2.2.2.2.2.1.congr (fun i hi j _ => by show Value.int .i64 (O i j) = Value.int .i64 (ovF no O (fp : Int) t1 t2 i j); rw [ovF, if_neg (by omega)])
        have HSZ : Hid (w.heap.size ≤ V93.heap.size) := MA94.out.1.size
        refine rl 17 fun K hK => ?_
        refine step_vapp V93 rfl _ _ 59 rfl w.heap.size 112 i1 _ 3 24 Tryz.underlying59 hi1 hz1 hs1 hb1 rfl (by decide) (.slice xa no xc) no (intF (ovF no O (fp : Int) t1 t2)) rfl HOV.out (fun _ _ => rfl) qb 1 #[.int .i64 (fp : Int), .int .i64 t1, .int .i64 t2] rfl MA94.out.2.2.2.2.2.2.2 HVS.out (by simp only [maxLen]; omega) (by omega) HSZ.out ?_
        intro g2 gc wg97 ho2 hg2
        have MG98 : Hid (Below w.heap.size w wg97 ∧ Box wg97 (w.heap.size) 40 #[.slice pa v.n pc, .slice ja v.m jc] ∧ Box wg97 (w.heap.size + 1) 33 #[.int .i64 (fq : Int), .int .i64 ga, .int .i64 gw, .int .i64 lg, .slice ba mb bk] ∧ Box wg97 (w.heap.size + 1 + 1) 61 #[.int .i64 0, .int .i64 0, .int .i64 0, .int .i64 0, .int .i64 0, .int .i64 0, .int .i64 0, .slice none 0 0, .slice none 0 0] ∧ Box wg97 (ob) 61 #[.int .i64 0, .int .i64 far, .int .i64 (-1), .int .i64 (fp : Int), .int .i64 fa, .int .i64 fw, .int .i64 lg, .slice oa nb oc, .slice xa no xc] ∧ VOwn w.heap.size 74 2 wg97 (.slice oa nb oc) nb (intF B) ∧ VOwn w.heap.size 112 3 wg97 (.slice (some ⟨g2, 0, none⟩) (no + 1) gc) (no + 1) (intF (ovF no O (fp : Int) t1 t2))) := ⟨MA94.out.1.grown hg2 MA94.out.1.size (fun _ hj => (MA94.out.2.2.2.2.2.2.1.lt hj).1), MA94.out.2.1.grown hg2 (fun e => MA94.out.2.2.2.2.2.2.1.off MA94.out.2.1 (by decide) e rfl), MA94.out.2.2.1.grown hg2 (fun e => MA94.out.2.2.2.2.2.2.1.off MA94.out.2.2.1 (by decide) e rfl), MA94.out.2.2.2.1.grown hg2 (fun e => MA94.out.2.2.2.2.2.2.1.off MA94.out.2.2.2.1 (by decide) e rfl), MA94.out.2.2.2.2.1.grown hg2 (fun e => MA94.out.2.2.2.2.2.2.1.off MA94.out.2.2.2.2.1 (by decide) e rfl), MA94.out.2.2.2.2.2.1.grown' hg2 (fun _ hh => MA94.out.2.2.2.2.2.1.apart MA94.out.2.2.2.2.2.2.1 (by decide) hh), ho2⟩
        clear ho2 hg2 HOV HSZ MA94
        simp only [Act.put, List.setIfInBounds_toArray, List.set_cons_zero, List.set_cons_succ]
        refine hK.out _ _ ?_ (fun hHeld => ?_)
        ·
         exact ⟨MG98.out.2.1.cell 0, MG98.out.2.1.cell 1, MG98.out.2.2.2.2.1.cell 3, MG98.out.2.2.2.2.1.cell 5⟩
        clear hK K
        refine tk 18 ?_
        have m0 : wg97.cell? ⟨ob, 0, none⟩ = some (.int .i64 0) := MG98.out.2.2.2.2.1.cell 0
        have m1 : wg97.cell? ⟨ob, 1, none⟩ = some (.int .i64 far) := MG98.out.2.2.2.2.1.cell 1
        have m2 : wg97.cell? ⟨ob, 2, none⟩ = some (.int .i64 (-1)) := MG98.out.2.2.2.2.1.cell 2
        have m3 : wg97.cell? ⟨ob, 3, none⟩ = some (.int .i64 (fp : Int)) := MG98.out.2.2.2.2.1.cell 3
        have m4 : wg97.cell? ⟨ob, 4, none⟩ = some (.int .i64 fa) := MG98.out.2.2.2.2.1.cell 4
        have m5 : wg97.cell? ⟨ob, 5, none⟩ = some (.int .i64 fw) := MG98.out.2.2.2.2.1.cell 5
        have m6 : wg97.cell? ⟨ob, 6, none⟩ = some (.int .i64 lg) := MG98.out.2.2.2.2.1.cell 6
        have m7 : wg97.cell? ⟨ob, 7, none⟩ = some (.slice oa nb oc) := MG98.out.2.2.2.2.1.cell 7
        have m8 : wg97.cell? ⟨ob, 8, none⟩ = some (.slice xa no xc) := MG98.out.2.2.2.2.1.cell 8
        have mf0 := MG98.out.2.2.2.2.1.free 0
        have mf1 := MG98.out.2.2.2.2.1.free 1
        have mf2 := MG98.out.2.2.2.2.1.free 2
        have mf3 := MG98.out.2.2.2.2.1.free 3
        have mf4 := MG98.out.2.2.2.2.1.free 4
        have mf5 := MG98.out.2.2.2.2.1.free 5
        have mf6 := MG98.out.2.2.2.2.1.free 6
        have mf7 := MG98.out.2.2.2.2.1.free 7
        have mf8 := MG98.out.2.2.2.2.1.free 8
        have MA99 : Hid (Below w.heap.size w (wg97.setCell ⟨ob, 8, none⟩ (.slice (some ⟨g2, 0, none⟩) (no + 1) gc)) ∧ Box (wg97.setCell ⟨ob, 8, none⟩ (.slice (some ⟨g2, 0, none⟩) (no + 1) gc)) (w.heap.size) 40 #[.slice pa v.n pc, .slice ja v.m jc] ∧ Box (wg97.setCell ⟨ob, 8, none⟩ (.slice (some ⟨g2, 0, none⟩) (no + 1) gc)) (w.heap.size + 1) 33 #[.int .i64 (fq : Int), .int .i64 ga, .int .i64 gw, .int .i64 lg, .slice ba mb bk] ∧ Box (wg97.setCell ⟨ob, 8, none⟩ (.slice (some ⟨g2, 0, none⟩) (no + 1) gc)) (w.heap.size + 1 + 1) 61 #[.int .i64 0, .int .i64 0, .int .i64 0, .int .i64 0, .int .i64 0, .int .i64 0, .int .i64 0, .slice none 0 0, .slice none 0 0] ∧ Box (wg97.setCell ⟨ob, 8, none⟩ (.slice (some ⟨g2, 0, none⟩) (no + 1) gc)) (ob) 61 #[.int .i64 0, .int .i64 far, .int .i64 (-1), .int .i64 (fp : Int), .int .i64 fa, .int .i64 fw, .int .i64 lg, .slice oa nb oc, .slice (some ⟨g2, 0, none⟩) (no + 1) gc] ∧ VOwn w.heap.size 74 2 (wg97.setCell ⟨ob, 8, none⟩ (.slice (some ⟨g2, 0, none⟩) (no + 1) gc)) (.slice oa nb oc) nb (intF B) ∧ VOwn w.heap.size 112 3 (wg97.setCell ⟨ob, 8, none⟩ (.slice (some ⟨g2, 0, none⟩) (no + 1) gc)) (.slice (some ⟨g2, 0, none⟩) (no + 1) gc) (no + 1) (intF (ovF no O (fp : Int) t1 t2))) := ⟨(MG98.out.1.setCell HL73.out _), (MG98.out.2.1.other (box_ne MG98.out.2.1 MG98.out.2.2.2.2.1 (by decide)) _), (MG98.out.2.2.1.other (box_ne MG98.out.2.2.1 MG98.out.2.2.2.2.1 (by decide)) _), (MG98.out.2.2.2.1.other HE74.out _), by have h9 := (MG98.out.2.2.2.2.1.set 8 (.slice (some ⟨g2, 0, none⟩) (no + 1) gc)); exact h9, (MG98.out.2.2.2.2.2.1.set MG98.out.2.2.2.2.1 (by decide) 8 _), (MG98.out.2.2.2.2.2.2.set MG98.out.2.2.2.2.1 (by decide) 8 _)⟩
        clear MG98
        refine rl 19 fun K hK => ?_
        go_simp
        refine hK.out _ _ ?_ (fun hHeld => ?_)
        ·
         exact ⟨MA99.out.2.1.cell 0, MA99.out.2.1.cell 1, MA99.out.2.2.2.2.1.cell 3, MA99.out.2.2.2.2.1.cell 5⟩
        clear hK K
        refine wpAnyH_done (by kernel_rfl) ?_ _
        clear m0 m1 m2 m3 m4 m5 m6 m7 m8 mf0 mf1 mf2 mf3 mf4 mf5 mf6 mf7 mf8 hHeld
        generalize (wg97.setCell ⟨ob, 8, none⟩ (.slice (some ⟨g2, 0, none⟩) (no + 1) gc)) = W100 at MA99 ⊢
        go_wp2_with fail
        go_meet
        case rel => exact ⟨some ⟨g2, 0, none⟩, gc, ⟨MA99.out.1, MA99.out.2.1, MA99.out.2.2.1, MA99.out.2.2.2.1, MA99.out.2.2.2.2.1, MA99.out.2.2.2.2.2.1, MA99.out.2.2.2.2.2.2⟩⟩
       ·
        have MA102 : Hid (Below w.heap.size w (wh91.alloc (.cells #[.int .i64 (fp : Int), .int .i64 t1, .int .i64 t2] 112)) ∧ Box (wh91.alloc (.cells #[.int .i64 (fp : Int), .int .i64 t1, .int .i64 t2] 112)) (w.heap.size) 40 #[.slice pa v.n pc, .slice ja v.m jc] ∧ Box (wh91.alloc (.cells #[.int .i64 (fp : Int), .int .i64 t1, .int .i64 t2] 112)) (w.heap.size + 1) 33 #[.int .i64 (fq : Int), .int .i64 ga, .int .i64 gw, .int .i64 lg, .slice ba mb bk] ∧ Box (wh91.alloc (.cells #[.int .i64 (fp : Int), .int .i64 t1, .int .i64 t2] 112)) (w.heap.size + 1 + 1) 61 #[.int .i64 0, .int .i64 0, .int .i64 0, .int .i64 0, .int .i64 0, .int .i64 0, .int .i64 0, .slice none 0 0, .slice none 0 0] ∧ Box (wh91.alloc (.cells #[.int .i64 (fp : Int), .int .i64 t1, .int .i64 t2] 112)) (ob) 61 #[.int .i64 0, .int .i64 far, .int .i64 (-1), .int .i64 (fp : Int), .int .i64 fa, .int .i64 fw, .int .i64 lg, .slice oa nb oc, .slice xa no xc] ∧ VOwn w.heap.size 74 2 (wh91.alloc (.cells #[.int .i64 (fp : Int), .int .i64 t1, .int .i64 t2] 112)) (.slice oa nb oc) nb (intF B) ∧ VOwn w.heap.size 112 3 (wh91.alloc (.cells #[.int .i64 (fp : Int), .int .i64 t1, .int .i64 t2] 112)) (.slice xa no xc) no (intF O) ∧ Box (wh91.alloc (.cells #[.int .i64 (fp : Int), .int .i64 t1, .int .i64 t2] 112)) (wh91.heap.size) 112 #[.int .i64 (fp : Int), .int .i64 t1, .int .i64 t2]) := ⟨MA92.out.1.alloc MA92.out.1.size _, MA92.out.2.1.alloc _, MA92.out.2.2.1.alloc _, MA92.out.2.2.2.1.alloc _, MA92.out.2.2.2.2.1.alloc _, MA92.out.2.2.2.2.2.1.alloc _, MA92.out.2.2.2.2.2.2.alloc _, Box.new _ _ _⟩
        have HL103 : Hid (w.heap.size ≤ wh91.heap.size) := MA92.out.1.size
        have HO104 : Hid (∀ g, (Value.slice xa no xc).ownBlock = some g → g < wh91.heap.size) := fun g hg => (MA92.out.2.2.2.2.2.2.lt hg).2
        clear MA92
        go_simp
        refine hK.out _ _ ?_ (fun hHeld => ?_)
        ·
         exact ⟨MA102.out.2.1.cell 0, MA102.out.2.1.cell 1, MA102.out.2.2.2.2.1.cell 3, MA102.out.2.2.2.2.1.cell 5⟩
        clear hK K
        clear hHeld
        generalize wh91.alloc (.cells #[.int .i64 (fp : Int), .int .i64 t1, .int .i64 t2] 112) = V101 at MA102 ⊢
        generalize wh91.heap.size = qb at MA102 HL103 HO104 ⊢
        refine rl 1 fun K hK => ?_
        have o8 : V101.cell? ⟨ob, 8, none⟩ = some (.slice xa no xc) := MA102.out.2.2.2.2.1.cell 8
        go_simp
        refine hK.out _ _ ?_ (fun hHeld => ?_)
        ·
         exact ⟨MA102.out.2.1.cell 0, MA102.out.2.1.cell 1, MA102.out.2.2.2.2.1.cell 3, MA102.out.2.2.2.2.1.cell 5⟩
        clear hK K
        clear o8
        have HOV : Hid (VOwn w.heap.size 112 3 V101 (.slice xa no xc) no (intF (ovF no O (fp : Int) t1 t2))) := MA102.out.2.2.2.2.2.2.1.congr (fun i hi j _ => by show Value.int .i64 (O i j) = Value.int .i64 (ovF no O (fp : Int) t1 t2 i j); rw [ovF, if_neg (by omega)])
        have HSZ : Hid (w.heap.size ≤ V101.heap.size) := MA102.out.1.size
        refine rl 17 fun K hK => ?_
        refine step_vapp V101 rfl _ _ 59 rfl w.heap.size 112 i1 _ 3 24 Tryz.underlying59 hi1 hz1 hs1 hb1 rfl (by decide) (.slice xa no xc) no (intF (ovF no O (fp : Int) t1 t2)) rfl HOV.out (fun _ _ => rfl) qb 1 #[.int .i64 (fp : Int), .int .i64 t1, .int .i64 t2] rfl MA102.out.2.2.2.2.2.2.2 HVS.out (by simp only [maxLen]; omega) (by omega) HSZ.out ?_
        intro g2 gc wg105 ho2 hg2
        have MG106 : Hid (Below w.heap.size w wg105 ∧ Box wg105 (w.heap.size) 40 #[.slice pa v.n pc, .slice ja v.m jc] ∧ Box wg105 (w.heap.size + 1) 33 #[.int .i64 (fq : Int), .int .i64 ga, .int .i64 gw, .int .i64 lg, .slice ba mb bk] ∧ Box wg105 (w.heap.size + 1 + 1) 61 #[.int .i64 0, .int .i64 0, .int .i64 0, .int .i64 0, .int .i64 0, .int .i64 0, .int .i64 0, .slice none 0 0, .slice none 0 0] ∧ Box wg105 (ob) 61 #[.int .i64 0, .int .i64 far, .int .i64 (-1), .int .i64 (fp : Int), .int .i64 fa, .int .i64 fw, .int .i64 lg, .slice oa nb oc, .slice xa no xc] ∧ VOwn w.heap.size 74 2 wg105 (.slice oa nb oc) nb (intF B) ∧ VOwn w.heap.size 112 3 wg105 (.slice (some ⟨g2, 0, none⟩) (no + 1) gc) (no + 1) (intF (ovF no O (fp : Int) t1 t2))) := ⟨MA102.out.1.grown hg2 MA102.out.1.size (fun _ hj => (MA102.out.2.2.2.2.2.2.1.lt hj).1), MA102.out.2.1.grown hg2 (fun e => MA102.out.2.2.2.2.2.2.1.off MA102.out.2.1 (by decide) e rfl), MA102.out.2.2.1.grown hg2 (fun e => MA102.out.2.2.2.2.2.2.1.off MA102.out.2.2.1 (by decide) e rfl), MA102.out.2.2.2.1.grown hg2 (fun e => MA102.out.2.2.2.2.2.2.1.off MA102.out.2.2.2.1 (by decide) e rfl), MA102.out.2.2.2.2.1.grown hg2 (fun e => MA102.out.2.2.2.2.2.2.1.off MA102.out.2.2.2.2.1 (by decide) e rfl), MA102.out.2.2.2.2.2.1.grown' hg2 (fun _ hh => MA102.out.2.2.2.2.2.1.apart MA102.out.2.2.2.2.2.2.1 (by decide) hh), ho2⟩
        clear ho2 hg2 HOV HSZ MA102
        simp only [Act.put, List.setIfInBounds_toArray, List.set_cons_zero, List.set_cons_succ]
        refine hK.out _ _ ?_ (fun hHeld => ?_)
        ·
         exact ⟨MG106.out.2.1.cell 0, MG106.out.2.1.cell 1, MG106.out.2.2.2.2.1.cell 3, MG106.out.2.2.2.2.1.cell 5⟩
        clear hK K
        refine tk 18 ?_
        have m0 : wg105.cell? ⟨ob, 0, none⟩ = some (.int .i64 0) := MG106.out.2.2.2.2.1.cell 0
        have m1 : wg105.cell? ⟨ob, 1, none⟩ = some (.int .i64 far) := MG106.out.2.2.2.2.1.cell 1
        have m2 : wg105.cell? ⟨ob, 2, none⟩ = some (.int .i64 (-1)) := MG106.out.2.2.2.2.1.cell 2
        have m3 : wg105.cell? ⟨ob, 3, none⟩ = some (.int .i64 (fp : Int)) := MG106.out.2.2.2.2.1.cell 3
        have m4 : wg105.cell? ⟨ob, 4, none⟩ = some (.int .i64 fa) := MG106.out.2.2.2.2.1.cell 4
        have m5 : wg105.cell? ⟨ob, 5, none⟩ = some (.int .i64 fw) := MG106.out.2.2.2.2.1.cell 5
        have m6 : wg105.cell? ⟨ob, 6, none⟩ = some (.int .i64 lg) := MG106.out.2.2.2.2.1.cell 6
        have m7 : wg105.cell? ⟨ob, 7, none⟩ = some (.slice oa nb oc) := MG106.out.2.2.2.2.1.cell 7
        have m8 : wg105.cell? ⟨ob, 8, none⟩ = some (.slice xa no xc) := MG106.out.2.2.2.2.1.cell 8
        have mf0 := MG106.out.2.2.2.2.1.free 0
        have mf1 := MG106.out.2.2.2.2.1.free 1
        have mf2 := MG106.out.2.2.2.2.1.free 2
        have mf3 := MG106.out.2.2.2.2.1.free 3
        have mf4 := MG106.out.2.2.2.2.1.free 4
        have mf5 := MG106.out.2.2.2.2.1.free 5
        have mf6 := MG106.out.2.2.2.2.1.free 6
        have mf7 := MG106.out.2.2.2.2.1.free 7
        have mf8 := MG106.out.2.2.2.2.1.free 8
        have MA107 : Hid (Below w.heap.size w (wg105.setCell ⟨ob, 8, none⟩ (.slice (some ⟨g2, 0, none⟩) (no + 1) gc)) ∧ Box (wg105.setCell ⟨ob, 8, none⟩ (.slice (some ⟨g2, 0, none⟩) (no + 1) gc)) (w.heap.size) 40 #[.slice pa v.n pc, .slice ja v.m jc] ∧ Box (wg105.setCell ⟨ob, 8, none⟩ (.slice (some ⟨g2, 0, none⟩) (no + 1) gc)) (w.heap.size + 1) 33 #[.int .i64 (fq : Int), .int .i64 ga, .int .i64 gw, .int .i64 lg, .slice ba mb bk] ∧ Box (wg105.setCell ⟨ob, 8, none⟩ (.slice (some ⟨g2, 0, none⟩) (no + 1) gc)) (w.heap.size + 1 + 1) 61 #[.int .i64 0, .int .i64 0, .int .i64 0, .int .i64 0, .int .i64 0, .int .i64 0, .int .i64 0, .slice none 0 0, .slice none 0 0] ∧ Box (wg105.setCell ⟨ob, 8, none⟩ (.slice (some ⟨g2, 0, none⟩) (no + 1) gc)) (ob) 61 #[.int .i64 0, .int .i64 far, .int .i64 (-1), .int .i64 (fp : Int), .int .i64 fa, .int .i64 fw, .int .i64 lg, .slice oa nb oc, .slice (some ⟨g2, 0, none⟩) (no + 1) gc] ∧ VOwn w.heap.size 74 2 (wg105.setCell ⟨ob, 8, none⟩ (.slice (some ⟨g2, 0, none⟩) (no + 1) gc)) (.slice oa nb oc) nb (intF B) ∧ VOwn w.heap.size 112 3 (wg105.setCell ⟨ob, 8, none⟩ (.slice (some ⟨g2, 0, none⟩) (no + 1) gc)) (.slice (some ⟨g2, 0, none⟩) (no + 1) gc) (no + 1) (intF (ovF no O (fp : Int) t1 t2))) := ⟨(MG106.out.1.setCell HL73.out _), (MG106.out.2.1.other (box_ne MG106.out.2.1 MG106.out.2.2.2.2.1 (by decide)) _), (MG106.out.2.2.1.other (box_ne MG106.out.2.2.1 MG106.out.2.2.2.2.1 (by decide)) _), (MG106.out.2.2.2.1.other HE74.out _), by have h9 := (MG106.out.2.2.2.2.1.set 8 (.slice (some ⟨g2, 0, none⟩) (no + 1) gc)); exact h9, (MG106.out.2.2.2.2.2.1.set MG106.out.2.2.2.2.1 (by decide) 8 _), (MG106.out.2.2.2.2.2.2.set MG106.out.2.2.2.2.1 (by decide) 8 _)⟩
        clear MG106
        refine rl 19 fun K hK => ?_
        go_simp
        refine hK.out _ _ ?_ (fun hHeld => ?_)
        ·
         exact ⟨MA107.out.2.1.cell 0, MA107.out.2.1.cell 1, MA107.out.2.2.2.2.1.cell 3, MA107.out.2.2.2.2.1.cell 5⟩
        clear hK K
        refine wpAnyH_done (by kernel_rfl) ?_ _
        clear m0 m1 m2 m3 m4 m5 m6 m7 m8 mf0 mf1 mf2 mf3 mf4 mf5 mf6 mf7 mf8 hHeld
        generalize (wg105.setCell ⟨ob, 8, none⟩ (.slice (some ⟨g2, 0, none⟩) (no + 1) gc)) = W108 at MA107 ⊢
        go_wp2_with fail
        go_meet
        case rel => exact ⟨some ⟨g2, 0, none⟩, gc, ⟨MA107.out.1, MA107.out.2.1, MA107.out.2.2.1, MA107.out.2.2.2.1, MA107.out.2.2.2.2.1, MA107.out.2.2.2.2.2.1, MA107.out.2.2.2.2.2.2⟩⟩
     case rest =>
      obtain ⟨g2, gc, M24⟩ := hcut
      clear M22
      generalize wc = W24 at M24 ⊢
      have m0 : W24.cell? ⟨ob, 0, none⟩ = some (.int .i64 0) := M24.out.2.2.2.2.1.cell 0
      have m1 : W24.cell? ⟨ob, 1, none⟩ = some (.int .i64 far) := M24.out.2.2.2.2.1.cell 1
      have m2 : W24.cell? ⟨ob, 2, none⟩ = some (.int .i64 (-1)) := M24.out.2.2.2.2.1.cell 2
      have m3 : W24.cell? ⟨ob, 3, none⟩ = some (.int .i64 (fp : Int)) := M24.out.2.2.2.2.1.cell 3
      have m4 : W24.cell? ⟨ob, 4, none⟩ = some (.int .i64 fa) := M24.out.2.2.2.2.1.cell 4
      have m5 : W24.cell? ⟨ob, 5, none⟩ = some (.int .i64 fw) := M24.out.2.2.2.2.1.cell 5
      have m6 : W24.cell? ⟨ob, 6, none⟩ = some (.int .i64 lg) := M24.out.2.2.2.2.1.cell 6
      have m7 : W24.cell? ⟨ob, 7, none⟩ = some (.slice oa nb oc) := M24.out.2.2.2.2.1.cell 7
      have m8 : W24.cell? ⟨ob, 8, none⟩ = some (.slice g2 (no + 1) gc) := M24.out.2.2.2.2.1.cell 8
      have mf0 := M24.out.2.2.2.2.1.free 0
      have mf1 := M24.out.2.2.2.2.1.free 1
      have mf2 := M24.out.2.2.2.2.1.free 2
      have mf3 := M24.out.2.2.2.2.1.free 3
      have mf4 := M24.out.2.2.2.2.1.free 4
      have mf5 := M24.out.2.2.2.2.1.free 5
      have mf6 := M24.out.2.2.2.2.1.free 6
      have mf7 := M24.out.2.2.2.2.1.free 7
      have mf8 := M24.out.2.2.2.2.1.free 8
      have M25 : Hid (Below w.heap.size w ((W24.setCell ⟨ob, 4, none⟩ (.int .i64 (fa + bb * fw))).setCell ⟨ob, 1, none⟩ (.int .i64 (far + bb))) ∧ Box ((W24.setCell ⟨ob, 4, none⟩ (.int .i64 (fa + bb * fw))).setCell ⟨ob, 1, none⟩ (.int .i64 (far + bb))) (w.heap.size) 40 #[.slice pa v.n pc, .slice ja v.m jc] ∧ Box ((W24.setCell ⟨ob, 4, none⟩ (.int .i64 (fa + bb * fw))).setCell ⟨ob, 1, none⟩ (.int .i64 (far + bb))) (w.heap.size + 1) 33 #[.int .i64 (fq : Int), .int .i64 ga, .int .i64 gw, .int .i64 lg, .slice ba mb bk] ∧ Box ((W24.setCell ⟨ob, 4, none⟩ (.int .i64 (fa + bb * fw))).setCell ⟨ob, 1, none⟩ (.int .i64 (far + bb))) (w.heap.size + 1 + 1) 61 #[.int .i64 0, .int .i64 0, .int .i64 0, .int .i64 0, .int .i64 0, .int .i64 0, .int .i64 0, .slice none 0 0, .slice none 0 0] ∧ Box ((W24.setCell ⟨ob, 4, none⟩ (.int .i64 (fa + bb * fw))).setCell ⟨ob, 1, none⟩ (.int .i64 (far + bb))) (ob) 61 #[.int .i64 0, .int .i64 (far + bb), .int .i64 (-1), .int .i64 (fp : Int), .int .i64 (fa + bb * fw), .int .i64 fw, .int .i64 lg, .slice oa nb oc, .slice g2 (no + 1) gc] ∧ VOwn w.heap.size 74 2 ((W24.setCell ⟨ob, 4, none⟩ (.int .i64 (fa + bb * fw))).setCell ⟨ob, 1, none⟩ (.int .i64 (far + bb))) (.slice oa nb oc) nb (intF B) ∧ VOwn w.heap.size 112 3 ((W24.setCell ⟨ob, 4, none⟩ (.int .i64 (fa + bb * fw))).setCell ⟨ob, 1, none⟩ (.int .i64 (far + bb))) (.slice g2 (no + 1) gc) (no + 1) (intF (ovF no O (fp : Int) t1 t2))) := ⟨((M24.out.1.setCell HL73.out _).setCell HL73.out _), ((M24.out.2.1.other (box_ne M24.out.2.1 M24.out.2.2.2.2.1 (by decide)) _).other (box_ne M24.out.2.1 M24.out.2.2.2.2.1 (by decide)) _), ((M24.out.2.2.1.other (box_ne M24.out.2.2.1 M24.out.2.2.2.2.1 (by decide)) _).other (box_ne M24.out.2.2.1 M24.out.2.2.2.2.1 (by decide)) _), ((M24.out.2.2.2.1.other HE74.out _).other HE74.out _), by have h9 := ((M24.out.2.2.2.2.1.set 4 (.int .i64 (fa + bb * fw))).set 1 (.int .i64 (far + bb))); exact h9, ((M24.out.2.2.2.2.2.1.set M24.out.2.2.2.2.1 (by decide) 4 _).set (M24.out.2.2.2.2.1.set 4 (.int .i64 (fa + bb * fw))) (by decide) 1 _), ((M24.out.2.2.2.2.2.2.set M24.out.2.2.2.2.1 (by decide) 4 _).set (M24.out.2.2.2.2.1.set 4 (.int .i64 (fa + bb * fw))) (by decide) 1 _)⟩
      clear M24
      go_upto_region 26 with fail
      clear m0 m1 m2 m3 m4 m5 m6 m7 m8 mf0 mf1 mf2 mf3 mf4 mf5 mf6 mf7 mf8
      generalize ((W24.setCell ⟨ob, 4, none⟩ (.int .i64 (fa + bb * fw))).setCell ⟨ob, 1, none⟩ (.int .i64 (far + bb))) = W26 at M25 ⊢
      have x0 : W26.cell? ⟨w.heap.size, 0, none⟩ = some (.slice pa v.n pc) := M25.out.2.1.cell 0
      have x1 : W26.cell? ⟨w.heap.size, 1, none⟩ = some (.slice ja v.m jc) := M25.out.2.1.cell 1
      have m0 : W26.cell? ⟨ob, 0, none⟩ = some (.int .i64 0) := M25.out.2.2.2.2.1.cell 0
      have m1 : W26.cell? ⟨ob, 1, none⟩ = some (.int .i64 (far + bb)) := M25.out.2.2.2.2.1.cell 1
      have m2 : W26.cell? ⟨ob, 2, none⟩ = some (.int .i64 (-1)) := M25.out.2.2.2.2.1.cell 2
      have m3 : W26.cell? ⟨ob, 3, none⟩ = some (.int .i64 (fp : Int)) := M25.out.2.2.2.2.1.cell 3
      have m4 : W26.cell? ⟨ob, 4, none⟩ = some (.int .i64 (fa + bb * fw)) := M25.out.2.2.2.2.1.cell 4
      have m5 : W26.cell? ⟨ob, 5, none⟩ = some (.int .i64 fw) := M25.out.2.2.2.2.1.cell 5
      have m6 : W26.cell? ⟨ob, 6, none⟩ = some (.int .i64 lg) := M25.out.2.2.2.2.1.cell 6
      have m7 : W26.cell? ⟨ob, 7, none⟩ = some (.slice oa nb oc) := M25.out.2.2.2.2.1.cell 7
      have m8 : W26.cell? ⟨ob, 8, none⟩ = some (.slice g2 (no + 1) gc) := M25.out.2.2.2.2.1.cell 8
      go_wp2_with fail
      clear x0 x1 m0 m1 m2 m3 m4 m5 m6 m7 m8
      refine (trim108 OK.out.1 pa pc ja jc fp (fa + bb * fw) fw lg nb B oa oc W26 (H.out.1.mono nr M25.out.1 nr) HA1.out.1 ⟨HOK.out.lg0, HOK.out.lg1⟩ (Nat.le_trans HOK.out.nb1 (by decide)) HOK.out.step (M25.out.2.2.2.2.2.1.vs.le (Nat.zero_le _))).mono ?_
      rintro e w27 ⟨z, ta, tc, rfl, hz, hoz, hb⟩
      have HZN : Hid (z = (mvA v lg T (⟨fp, fa, fw, nb, B, far, no, O⟩ : Mv)).nb) := (trim_nd hz HA1.out.2).trans HNB.out
      clear hz
      have M27 : Hid (Below w.heap.size w w27 ∧ Box w27 (w.heap.size) 40 #[.slice pa v.n pc, .slice ja v.m jc] ∧ Box w27 (w.heap.size + 1) 33 #[.int .i64 (fq : Int), .int .i64 ga, .int .i64 gw, .int .i64 lg, .slice ba mb bk] ∧ Box w27 (w.heap.size + 1 + 1) 61 #[.int .i64 0, .int .i64 0, .int .i64 0, .int .i64 0, .int .i64 0, .int .i64 0, .int .i64 0, .slice none 0 0, .slice none 0 0] ∧ Box w27 (ob) 61 #[.int .i64 0, .int .i64 (far + bb), .int .i64 (-1), .int .i64 (fp : Int), .int .i64 (fa + bb * fw), .int .i64 fw, .int .i64 lg, .slice oa nb oc, .slice g2 (no + 1) gc] ∧ VOwn w.heap.size 112 3 w27 (.slice g2 (no + 1) gc) (no + 1) (intF (ovF no O (fp : Int) t1 t2)) ∧ VOwn w.heap.size 74 2 w27 (.slice ta z tc) z (intF B)) := ⟨M25.out.1.trans (hb.mono M25.out.1.size), M25.out.2.1.mono hb nr, M25.out.2.2.1.mono hb nr, M25.out.2.2.2.1.mono hb nr, M25.out.2.2.2.2.1.mono hb nr, M25.out.2.2.2.2.2.2.mono nr hb nr, hoz.keep M25.out.1.size (fun _ _ => rfl)⟩
      clear hb hoz M25
      have m0 : w27.cell? ⟨ob, 0, none⟩ = some (.int .i64 0) := M27.out.2.2.2.2.1.cell 0
      have m1 : w27.cell? ⟨ob, 1, none⟩ = some (.int .i64 (far + bb)) := M27.out.2.2.2.2.1.cell 1
      have m2 : w27.cell? ⟨ob, 2, none⟩ = some (.int .i64 (-1)) := M27.out.2.2.2.2.1.cell 2
      have m3 : w27.cell? ⟨ob, 3, none⟩ = some (.int .i64 (fp : Int)) := M27.out.2.2.2.2.1.cell 3
      have m4 : w27.cell? ⟨ob, 4, none⟩ = some (.int .i64 (fa + bb * fw)) := M27.out.2.2.2.2.1.cell 4
      have m5 : w27.cell? ⟨ob, 5, none⟩ = some (.int .i64 fw) := M27.out.2.2.2.2.1.cell 5
      have m6 : w27.cell? ⟨ob, 6, none⟩ = some (.int .i64 lg) := M27.out.2.2.2.2.1.cell 6
      have m7 : w27.cell? ⟨ob, 7, none⟩ = some (.slice oa nb oc) := M27.out.2.2.2.2.1.cell 7
      have m8 : w27.cell? ⟨ob, 8, none⟩ = some (.slice g2 (no + 1) gc) := M27.out.2.2.2.2.1.cell 8
      have mf0 := M27.out.2.2.2.2.1.free 0
      have mf1 := M27.out.2.2.2.2.1.free 1
      have mf2 := M27.out.2.2.2.2.1.free 2
      have mf3 := M27.out.2.2.2.2.1.free 3
      have mf4 := M27.out.2.2.2.2.1.free 4
      have mf5 := M27.out.2.2.2.2.1.free 5
      have mf6 := M27.out.2.2.2.2.1.free 6
      have mf7 := M27.out.2.2.2.2.1.free 7
      have mf8 := M27.out.2.2.2.2.1.free 8
      have M28 : Hid (Below w.heap.size w (((((w27.setCell ⟨ob, 3, none⟩ (.int .i64 (fp : Int))).setCell ⟨ob, 4, none⟩ (.int .i64 (fa + bb * fw))).setCell ⟨ob, 5, none⟩ (.int .i64 fw)).setCell ⟨ob, 6, none⟩ (.int .i64 lg)).setCell ⟨ob, 7, none⟩ (.slice ta z tc)) ∧ Box (((((w27.setCell ⟨ob, 3, none⟩ (.int .i64 (fp : Int))).setCell ⟨ob, 4, none⟩ (.int .i64 (fa + bb * fw))).setCell ⟨ob, 5, none⟩ (.int .i64 fw)).setCell ⟨ob, 6, none⟩ (.int .i64 lg)).setCell ⟨ob, 7, none⟩ (.slice ta z tc)) (w.heap.size) 40 #[.slice pa v.n pc, .slice ja v.m jc] ∧ Box (((((w27.setCell ⟨ob, 3, none⟩ (.int .i64 (fp : Int))).setCell ⟨ob, 4, none⟩ (.int .i64 (fa + bb * fw))).setCell ⟨ob, 5, none⟩ (.int .i64 fw)).setCell ⟨ob, 6, none⟩ (.int .i64 lg)).setCell ⟨ob, 7, none⟩ (.slice ta z tc)) (w.heap.size + 1) 33 #[.int .i64 (fq : Int), .int .i64 ga, .int .i64 gw, .int .i64 lg, .slice ba mb bk] ∧ Box (((((w27.setCell ⟨ob, 3, none⟩ (.int .i64 (fp : Int))).setCell ⟨ob, 4, none⟩ (.int .i64 (fa + bb * fw))).setCell ⟨ob, 5, none⟩ (.int .i64 fw)).setCell ⟨ob, 6, none⟩ (.int .i64 lg)).setCell ⟨ob, 7, none⟩ (.slice ta z tc)) (w.heap.size + 1 + 1) 61 #[.int .i64 0, .int .i64 0, .int .i64 0, .int .i64 0, .int .i64 0, .int .i64 0, .int .i64 0, .slice none 0 0, .slice none 0 0] ∧ Box (((((w27.setCell ⟨ob, 3, none⟩ (.int .i64 (fp : Int))).setCell ⟨ob, 4, none⟩ (.int .i64 (fa + bb * fw))).setCell ⟨ob, 5, none⟩ (.int .i64 fw)).setCell ⟨ob, 6, none⟩ (.int .i64 lg)).setCell ⟨ob, 7, none⟩ (.slice ta z tc)) (ob) 61 #[.int .i64 0, .int .i64 (far + bb), .int .i64 (-1), .int .i64 (fp : Int), .int .i64 (fa + bb * fw), .int .i64 fw, .int .i64 lg, .slice ta z tc, .slice g2 (no + 1) gc] ∧ VOwn w.heap.size 112 3 (((((w27.setCell ⟨ob, 3, none⟩ (.int .i64 (fp : Int))).setCell ⟨ob, 4, none⟩ (.int .i64 (fa + bb * fw))).setCell ⟨ob, 5, none⟩ (.int .i64 fw)).setCell ⟨ob, 6, none⟩ (.int .i64 lg)).setCell ⟨ob, 7, none⟩ (.slice ta z tc)) (.slice g2 (no + 1) gc) (no + 1) (intF (ovF no O (fp : Int) t1 t2)) ∧ VOwn w.heap.size 74 2 (((((w27.setCell ⟨ob, 3, none⟩ (.int .i64 (fp : Int))).setCell ⟨ob, 4, none⟩ (.int .i64 (fa + bb * fw))).setCell ⟨ob, 5, none⟩ (.int .i64 fw)).setCell ⟨ob, 6, none⟩ (.int .i64 lg)).setCell ⟨ob, 7, none⟩ (.slice ta z tc)) (.slice ta z tc) z (intF B)) := ⟨(((((M27.out.1.setCell HL73.out _).setCell HL73.out _).setCell HL73.out _).setCell HL73.out _).setCell HL73.out _), (((((M27.out.2.1.other (box_ne M27.out.2.1 M27.out.2.2.2.2.1 (by decide)) _).other (box_ne M27.out.2.1 M27.out.2.2.2.2.1 (by decide)) _).other (box_ne M27.out.2.1 M27.out.2.2.2.2.1 (by decide)) _).other (box_ne M27.out.2.1 M27.out.2.2.2.2.1 (by decide)) _).other (box_ne M27.out.2.1 M27.out.2.2.2.2.1 (by decide)) _), (((((M27.out.2.2.1.other (box_ne M27.out.2.2.1 M27.out.2.2.2.2.1 (by decide)) _).other (box_ne M27.out.2.2.1 M27.out.2.2.2.2.1 (by decide)) _).other (box_ne M27.out.2.2.1 M27.out.2.2.2.2.1 (by decide)) _).other (box_ne M27.out.2.2.1 M27.out.2.2.2.2.1 (by decide)) _).other (box_ne M27.out.2.2.1 M27.out.2.2.2.2.1 (by decide)) _), (((((M27.out.2.2.2.1.other HE74.out _).other HE74.out _).other HE74.out _).other HE74.out _).other HE74.out _), by have h9 := (((((M27.out.2.2.2.2.1.set 3 (.int .i64 (fp : Int))).set 4 (.int .i64 (fa + bb * fw))).set 5 (.int .i64 fw)).set 6 (.int .i64 lg)).set 7 (.slice ta z tc)); exact h9, (((((M27.out.2.2.2.2.2.1.set M27.out.2.2.2.2.1 (by decide) 3 _).set (M27.out.2.2.2.2.1.set 3 (.int .i64 (fp : Int))) (by decide) 4 _).set ((M27.out.2.2.2.2.1.set 3 (.int .i64 (fp : Int))).set 4 (.int .i64 (fa + bb * fw))) (by decide) 5 _).set (((M27.out.2.2.2.2.1.set 3 (.int .i64 (fp : Int))).set 4 (.int .i64 (fa + bb * fw))).set 5 (.int .i64 fw)) (by decide) 6 _).set ((((M27.out.2.2.2.2.1.set 3 (.int .i64 (fp : Int))).set 4 (.int .i64 (fa + bb * fw))).set 5 (.int .i64 fw)).set 6 (.int .i64 lg)) (by decide) 7 _), (((((M27.out.2.2.2.2.2.2.set M27.out.2.2.2.2.1 (by decide) 3 _).set (M27.out.2.2.2.2.1.set 3 (.int .i64 (fp : Int))) (by decide) 4 _).set ((M27.out.2.2.2.2.1.set 3 (.int .i64 (fp : Int))).set 4 (.int .i64 (fa + bb * fw))) (by decide) 5 _).set (((M27.out.2.2.2.2.1.set 3 (.int .i64 (fp : Int))).set 4 (.int .i64 (fa + bb * fw))).set 5 (.int .i64 fw)) (by decide) 6 _).set ((((M27.out.2.2.2.2.1.set 3 (.int .i64 (fp : Int))).set 4 (.int .i64 (fa + bb * fw))).set 5 (.int .i64 fw)).set 6 (.int .i64 lg)) (by decide) 7 _)⟩
      clear M27
      generalize hgen : (((((w27.setCell ⟨ob, 3, none⟩ (.int .i64 (fp : Int))).setCell ⟨ob, 4, none⟩ (.int .i64 (fa + bb * fw))).setCell ⟨ob, 5, none⟩ (.int .i64 fw)).setCell ⟨ob, 6, none⟩ (.int .i64 lg)).setCell ⟨ob, 7, none⟩ (.slice ta z tc)) = W28 at M28
      have HMW : Hid (mvM v T (W28.cell? ⟨ob, 1, none⟩) (W28.cell? ⟨ob, 3, none⟩) (W28.cell? ⟨ob, 4, none⟩) (W28.cell? ⟨ob, 5, none⟩) = 2 * (T - (far + bb)).toNat + (if mvR v (mvA v lg T (⟨fp, fa, fw, nb, B, far, no, O⟩ : Mv)) = 0 then 1 else 0)) := by
       have h9 := M28.out.2.2.2.2.1
       rw [← HBY.out] at h9
       have h8 := mvM_at (T := T) (v := v) (mvA v lg T (⟨fp, fa, fw, nb, B, far, no, O⟩ : Mv)) (h9.cell 1) (h9.cell 3) (h9.cell 4) (h9.cell 5)
       rw [← HBY.out]
       exact h8
      go_wp2_with fail
      go_roundw
      case rel => exact ⟨(mvA v lg T (⟨fp, fa, fw, nb, B, far, no, O⟩ : Mv)), ta, tc, g2, gc, fun r c j h => HS.out r c j (.along hlt HR1.out h), HOA.out, HNO2.out, ⟨M28.out.1, M28.out.2.1, M28.out.2.2.1, M28.out.2.2.2.1, by have h9 := M28.out.2.2.2.2.1; rw [HZN.out, ← HBY.out] at h9; exact h9, by have h9 := M28.out.2.2.2.2.2.2; rw [HZN.out] at h9; exact h9, by have h9 := M28.out.2.2.2.2.2.1; rw [← HT12.out.1, ← HT12.out.2, ← HAL.out, ← HBY.out] at h9; exact h9⟩⟩
      case measure =>
       rw [HMW.out, HMT0.out, if_neg HR1.out]
       split <;> omega
    ·
     have HBY : Hid (mvBy v T (⟨fp, fa, fw, nb, B, far, no, O⟩ : Mv) = rm) := by show (if mvR v (⟨fp, fa, fw, nb, B, far, no, O⟩ : Mv) ≤ T - far then mvR v (⟨fp, fa, fw, nb, B, far, no, O⟩ : Mv) else T - far) = _; rw [HRS.out, if_pos (by omega)]
     have m0 : w7.cell? ⟨ob, 0, none⟩ = some (.int .i64 0) := M7.out.2.2.2.2.1.cell 0
     have m1 : w7.cell? ⟨ob, 1, none⟩ = some (.int .i64 far) := M7.out.2.2.2.2.1.cell 1
     have m2 : w7.cell? ⟨ob, 2, none⟩ = some (.int .i64 (-1)) := M7.out.2.2.2.2.1.cell 2
     have m3 : w7.cell? ⟨ob, 3, none⟩ = some (.int .i64 (fp : Int)) := M7.out.2.2.2.2.1.cell 3
     have m4 : w7.cell? ⟨ob, 4, none⟩ = some (.int .i64 fa) := M7.out.2.2.2.2.1.cell 4
     have m5 : w7.cell? ⟨ob, 5, none⟩ = some (.int .i64 fw) := M7.out.2.2.2.2.1.cell 5
     have m6 : w7.cell? ⟨ob, 6, none⟩ = some (.int .i64 lg) := M7.out.2.2.2.2.1.cell 6
     have m7 : w7.cell? ⟨ob, 7, none⟩ = some (.slice oa nb oc) := M7.out.2.2.2.2.1.cell 7
     have m8 : w7.cell? ⟨ob, 8, none⟩ = some (.slice xa no xc) := M7.out.2.2.2.2.1.cell 8
     go_upto_region 22 with fail
     clear m0 m1 m2 m3 m4 m5 m6 m7 m8 hmn
     have HBP : Hid (0 < rm ∧ rm ≤ rm ∧ rm ≤ T - far) := by have h9 := mv_by HOK.out hlt HR1.out; rw [HBY.out, HRS.out] at h9; exact h9
     obtain ⟨al, HAL⟩ : ∃ a, Hid (farI (v.P fp).ln fa fw = a) := ⟨_, rfl⟩
     have hal : 0 ≤ al ∧ al + rm ≤ (v.P fp).ln := by
      have h9 := mv_room HOK.out
      have h8 := HBP.out
      rw [show mvAl v (⟨fp, fa, fw, nb, B, far, no, O⟩ : Mv) = al from HAL.out, HRS.out] at h9
      have h7 := h9.2.2.1
      have h6 := h9.2.2.2.1
      simp only at h7
      omega
     obtain ⟨hbp1, hbp2, hbp3⟩ := HBP.out
     obtain ⟨t1, t2, HT12⟩ : ∃ t1 t2, Hid (pfA (v.P fp).ln fw al (al + rm) = t1 ∧ pfB (v.P fp).ln fw al (al + rm) = t2) := ⟨_, _, rfl, rfl⟩
     have HVS : Hid ((#[.int .i64 (fp : Int), .int .i64 t1, .int .i64 t2] : Array Value).toList = (List.range 3).map (intF (ovF no O (fp : Int) t1 t2) no)) := by
      show _ = _
      simp [List.range_succ, intF, ovF]
     have hw1 : IntKind.i64.wrap (al + rm) = al + rm := by rw [IntKind.wrap_i64]; omega
     have hw2 : IntKind.i64.wrap (rm * fw) = rm * fw := by rcases hfw with e | e <;> rw [e, IntKind.wrap_i64] <;> omega
     have hw3 : IntKind.i64.wrap (fa + rm * fw) = fa + rm * fw := by rcases hfw with e | e <;> rw [e, IntKind.wrap_i64] <;> omega
     have hw4 : IntKind.i64.wrap (far + rm) = far + rm := by rw [IntKind.wrap_i64]; omega
     have HOA : Hid (MvOk v lg (mvA v lg T (⟨fp, fa, fw, nb, B, far, no, O⟩ : Mv))) := mvA_ok HOK.out hlt HR1.out
     have HA1 : Hid (spotB v (fp : Int) (fa + rm * fw) fw = true ∧ lg ≤ hvF v (fp : Int) (fa + rm * fw) fw B nb) := by
      have h9 := HOA.out.spot
      have h8 := mvA_hv HOK.out hlt HR1.out nb
      have h7 : lg ≤ mvH v (⟨fp, fa, fw, nb, B, far, no, O⟩ : Mv) nb := HOK.out.le
      have e1 : (mvA v lg T (⟨fp, fa, fw, nb, B, far, no, O⟩ : Mv)).fa = fa + rm * fw := by rw [← HBY.out]; rfl
      rw [e1] at h9
      refine ⟨h9, ?_⟩
      have e2 : mvH v (mvA v lg T (⟨fp, fa, fw, nb, B, far, no, O⟩ : Mv)) nb = hvF v (fp : Int) (fa + rm * fw) fw B nb := by show hvF v (fp : Int) (mvA v lg T (⟨fp, fa, fw, nb, B, far, no, O⟩ : Mv)).fa fw B nb = _; rw [e1]
      rw [e2, HBY.out] at h8
      omega
     have HNB : Hid (ndN (hvF v (fp : Int) (fa + rm * fw) fw B) lg nb = (mvA v lg T (⟨fp, fa, fw, nb, B, far, no, O⟩ : Mv)).nb) := by rw [← HBY.out]; rfl
     have HNO2 : Hid (((mvA v lg T (⟨fp, fa, fw, nb, B, far, no, O⟩ : Mv)).no : Int) ≤ (mvA v lg T (⟨fp, fa, fw, nb, B, far, no, O⟩ : Mv)).far ∧ (mvA v lg T (⟨fp, fa, fw, nb, B, far, no, O⟩ : Mv)).far ≤ T) := by
      have e1 : (mvA v lg T (⟨fp, fa, fw, nb, B, far, no, O⟩ : Mv)).far = far + rm := by rw [← HBY.out]; rfl
      have e2 : (((mvA v lg T (⟨fp, fa, fw, nb, B, far, no, O⟩ : Mv)).no : Nat) : Int) = (no : Int) + 1 := rfl
      rw [e1, e2]
      show _ ∧ _
      omega
     have x0 : w7.cell? ⟨w.heap.size, 0, none⟩ = some (.slice pa v.n pc) := M7.out.2.1.cell 0
     have x1 : w7.cell? ⟨w.heap.size, 1, none⟩ = some (.slice ja v.m jc) := M7.out.2.1.cell 1
     have m0 : w7.cell? ⟨ob, 0, none⟩ = some (.int .i64 0) := M7.out.2.2.2.2.1.cell 0
     have m1 : w7.cell? ⟨ob, 1, none⟩ = some (.int .i64 far) := M7.out.2.2.2.2.1.cell 1
     have m2 : w7.cell? ⟨ob, 2, none⟩ = some (.int .i64 (-1)) := M7.out.2.2.2.2.1.cell 2
     have m3 : w7.cell? ⟨ob, 3, none⟩ = some (.int .i64 (fp : Int)) := M7.out.2.2.2.2.1.cell 3
     have m4 : w7.cell? ⟨ob, 4, none⟩ = some (.int .i64 fa) := M7.out.2.2.2.2.1.cell 4
     have m5 : w7.cell? ⟨ob, 5, none⟩ = some (.int .i64 fw) := M7.out.2.2.2.2.1.cell 5
     have m6 : w7.cell? ⟨ob, 6, none⟩ = some (.int .i64 lg) := M7.out.2.2.2.2.1.cell 6
     have m7 : w7.cell? ⟨ob, 7, none⟩ = some (.slice oa nb oc) := M7.out.2.2.2.2.1.cell 7
     have m8 : w7.cell? ⟨ob, 8, none⟩ = some (.slice xa no xc) := M7.out.2.2.2.2.1.cell 8
     go_wp2_with fail
     clear x0 x1 m0 m1 m2 m3 m4 m5 m6 m7 m8
     refine (behind63 OK.out.1 pa pc ja jc fp fa fw w7 hfp hfa (H.out.1.mono nr M7.out.1 nr)).mono ?_
     rintro e w22 ⟨he, hb⟩
     rw [HAL.out] at he
     subst he
     have M22 : Hid (Below w.heap.size w w22 ∧ Box w22 (w.heap.size) 40 #[.slice pa v.n pc, .slice ja v.m jc] ∧ Box w22 (w.heap.size + 1) 33 #[.int .i64 (fq : Int), .int .i64 ga, .int .i64 gw, .int .i64 lg, .slice ba mb bk] ∧ Box w22 (w.heap.size + 1 + 1) 61 #[.int .i64 0, .int .i64 0, .int .i64 0, .int .i64 0, .int .i64 0, .int .i64 0, .int .i64 0, .slice none 0 0, .slice none 0 0] ∧ Box w22 (ob) 61 #[.int .i64 0, .int .i64 far, .int .i64 (-1), .int .i64 (fp : Int), .int .i64 fa, .int .i64 fw, .int .i64 lg, .slice oa nb oc, .slice xa no xc] ∧ VOwn w.heap.size 74 2 w22 (.slice oa nb oc) nb (intF B) ∧ VOwn w.heap.size 112 3 w22 (.slice xa no xc) no (intF O)) := ⟨M7.out.1.trans (hb.mono M7.out.1.size), M7.out.2.1.mono hb nr, M7.out.2.2.1.mono hb nr, M7.out.2.2.2.1.mono hb nr, M7.out.2.2.2.2.1.mono hb nr, M7.out.2.2.2.2.2.1.mono nr hb nr, M7.out.2.2.2.2.2.2.mono nr hb nr⟩
     clear hb M7
     go_upto_region 23 with fail
     go_cut [] from 28 to 142 (fun wx => ∃ (g2 : Option Addr) (gc : Nat), Hid (Below w.heap.size w wx ∧ Box wx (w.heap.size) 40 #[.slice pa v.n pc, .slice ja v.m jc] ∧ Box wx (w.heap.size + 1) 33 #[.int .i64 (fq : Int), .int .i64 ga, .int .i64 gw, .int .i64 lg, .slice ba mb bk] ∧ Box wx (w.heap.size + 1 + 1) 61 #[.int .i64 0, .int .i64 0, .int .i64 0, .int .i64 0, .int .i64 0, .int .i64 0, .int .i64 0, .slice none 0 0, .slice none 0 0] ∧ Box wx (ob) 61 #[.int .i64 0, .int .i64 far, .int .i64 (-1), .int .i64 (fp : Int), .int .i64 fa, .int .i64 fw, .int .i64 lg, .slice oa nb oc, .slice g2 (no + 1) gc] ∧ VOwn w.heap.size 74 2 wx (.slice oa nb oc) nb (intF B) ∧ VOwn w.heap.size 112 3 wx (.slice g2 (no + 1) gc) (no + 1) (intF (ovF no O (fp : Int) t1 t2))))
     case first =>
      have x0 : w22.cell? ⟨w.heap.size, 0, none⟩ = some (.slice pa v.n pc) := M22.out.2.1.cell 0
      have x1 : w22.cell? ⟨w.heap.size, 1, none⟩ = some (.slice ja v.m jc) := M22.out.2.1.cell 1
      have m3 : w22.cell? ⟨ob, 3, none⟩ = some (.int .i64 (fp : Int)) := M22.out.2.2.2.2.1.cell 3
      have m5 : w22.cell? ⟨ob, 5, none⟩ = some (.int .i64 fw) := M22.out.2.2.2.2.1.cell 5
      go_wp2_with fail
      refine wp_region_held_drew (S := (fun wx : World => wx.cell? ⟨w.heap.size, 0, none⟩ = some (.slice pa v.n pc) ∧ wx.cell? ⟨w.heap.size, 1, none⟩ = some (.slice ja v.m jc) ∧ wx.cell? ⟨ob, 3, none⟩ = some (.int .i64 (fp : Int)) ∧ wx.cell? ⟨ob, 5, none⟩ = some (.int .i64 fw))) (by kernel_rfl) ?_ (fun hHeld => ?_)
      ·
       exact ⟨x0, x1, m3, m5⟩
      have MD109 : Hid (Below w.heap.size w w22.drew ∧ Box w22.drew (w.heap.size) 40 #[.slice pa v.n pc, .slice ja v.m jc] ∧ Box w22.drew (w.heap.size + 1) 33 #[.int .i64 (fq : Int), .int .i64 ga, .int .i64 gw, .int .i64 lg, .slice ba mb bk] ∧ Box w22.drew (w.heap.size + 1 + 1) 61 #[.int .i64 0, .int .i64 0, .int .i64 0, .int .i64 0, .int .i64 0, .int .i64 0, .int .i64 0, .slice none 0 0, .slice none 0 0] ∧ Box w22.drew (ob) 61 #[.int .i64 0, .int .i64 far, .int .i64 (-1), .int .i64 (fp : Int), .int .i64 fa, .int .i64 fw, .int .i64 lg, .slice oa nb oc, .slice xa no xc] ∧ VOwn w.heap.size 74 2 w22.drew (.slice oa nb oc) nb (intF B) ∧ VOwn w.heap.size 112 3 w22.drew (.slice xa no xc) no (intF O)) := ⟨M22.out.1.drew, M22.out.2.1.drew, M22.out.2.2.1.drew, M22.out.2.2.2.1.drew, M22.out.2.2.2.2.1.drew, M22.out.2.2.2.2.2.1, M22.out.2.2.2.2.2.2⟩
      clear x0 x1 m3 m5 M22
      generalize w22.drew = VD at MD109 hHeld ⊢
      refine tk 0 ?_
      refine tk 2 ?_
      refine tk 3 ?_
      refine tk 4 ?_
      refine tk 5 ?_
      refine tk 6 ?_
      refine tk 7 ?_
      refine tk 8 ?_
      refine tk 9 ?_
      refine tk 10 ?_
      refine tk 11 ?_
      refine tk 12 ?_
      refine tk 13 ?_
      refine tk 14 ?_
      refine ready2_lit (i := 1) (j := 15) (by kernel_rfl) rfl rfl (fun K hK => ?_) (fun K hK => ?_)
      ·
       have o8 : VD.cell? ⟨ob, 8, none⟩ = some (.slice xa no xc) := MD109.out.2.2.2.2.1.cell 8
       go_simp
       refine hK.out _ _ ?_ (fun hHeld => ?_)
       ·
        exact ⟨MD109.out.2.1.cell 0, MD109.out.2.1.cell 1, MD109.out.2.2.2.2.1.cell 3, MD109.out.2.2.2.2.1.cell 5⟩
       clear hK K
       clear o8
       refine rl 15 fun K hK => ?_
       go_simp
       refine (part49 OK.out.1 pa pc ja jc fp fw al (al + rm) _ hfp hfw ⟨by omega, by omega⟩ ⟨by omega, by omega⟩ (H.out.1.mono nr MD109.out.1 nr)).mono ?_
       rintro e wh110 ⟨he, hb⟩
       rw [HT12.out.1, HT12.out.2] at he
       subst he
       have MA111 : Hid (Below w.heap.size w wh110 ∧ Box wh110 (w.heap.size) 40 #[.slice pa v.n pc, .slice ja v.m jc] ∧ Box wh110 (w.heap.size + 1) 33 #[.int .i64 (fq : Int), .int .i64 ga, .int .i64 gw, .int .i64 lg, .slice ba mb bk] ∧ Box wh110 (w.heap.size + 1 + 1) 61 #[.int .i64 0, .int .i64 0, .int .i64 0, .int .i64 0, .int .i64 0, .int .i64 0, .int .i64 0, .slice none 0 0, .slice none 0 0] ∧ Box wh110 (ob) 61 #[.int .i64 0, .int .i64 far, .int .i64 (-1), .int .i64 (fp : Int), .int .i64 fa, .int .i64 fw, .int .i64 lg, .slice oa nb oc, .slice xa no xc] ∧ VOwn w.heap.size 74 2 wh110 (.slice oa nb oc) nb (intF B) ∧ VOwn w.heap.size 112 3 wh110 (.slice xa no xc) no (intF O)) := ⟨MD109.out.1.trans (hb.mono MD109.out.1.size), MD109.out.2.1.mono hb nr, MD109.out.2.2.1.mono hb nr, MD109.out.2.2.2.1.mono hb nr, MD109.out.2.2.2.2.1.mono hb nr, MD109.out.2.2.2.2.2.1.mono nr hb nr, MD109.out.2.2.2.2.2.2.mono nr hb nr⟩
       clear hb MD109
       go_wp2_with fail
       refine hK.out _ _ ?_ (fun hHeld => ?_)
       ·
        exact ⟨MA111.out.2.1.cell 0, MA111.out.2.1.cell 1, MA111.out.2.2.2.2.1.cell 3, MA111.out.2.2.2.2.1.cell 5⟩
       clear hK K
       refine rl 16 fun K hK => ?_
       have MA113 : Hid (Below w.heap.size w (wh110.alloc (.cells #[.int .i64 (fp : Int), .int .i64 t1, .int .i64 t2] 112)) ∧ Box (wh110.alloc (.cells #[.int .i64 (fp : Int), .int .i64 t1, .int .i64 t2] 112)) (w.heap.size) 40 #[.slice pa v.n pc, .slice ja v.m jc] ∧ Box (wh110.alloc (.cells #[.int .i64 (fp : Int), .int .i64 t1, .int .i64 t2] 112)) (w.heap.size + 1) 33 #[.int .i64 (fq : Int), .int .i64 ga, .int .i64 gw, .int .i64 lg, .slice ba mb bk] ∧ Box (wh110.alloc (.cells #[.int .i64 (fp : Int), .int .i64 t1, .int .i64 t2] 112)) (w.heap.size + 1 + 1) 61 #[.int .i64 0, .int .i64 0, .int .i64 0, .int .i64 0, .int .i64 0, .int .i64 0, .int .i64 0, .slice none 0 0, .slice none 0 0] ∧ Box (wh110.alloc (.cells #[.int .i64 (fp : Int), .int .i64 t1, .int .i64 t2] 112)) (ob) 61 #[.int .i64 0, .int .i64 far, .int .i64 (-1), .int .i64 (fp : Int), .int .i64 fa, .int .i64 fw, .int .i64 lg, .slice oa nb oc, .slice xa no xc] ∧ VOwn w.heap.size 74 2 (wh110.alloc (.cells #[.int .i64 (fp : Int), .int .i64 t1, .int .i64 t2] 112)) (.slice oa nb oc) nb (intF B) ∧ VOwn w.heap.size 112 3 (wh110.alloc (.cells #[.int .i64 (fp : Int), .int .i64 t1, .int .i64 t2] 112)) (.slice xa no xc) no (intF O) ∧ Box (wh110.alloc (.cells #[.int .i64 (fp : Int), .int .i64 t1, .int .i64 t2] 112)) (wh110.heap.size) 112 #[.int .i64 (fp : Int), .int .i64 t1, .int .i64 t2]) := ⟨MA111.out.1.alloc MA111.out.1.size _, MA111.out.2.1.alloc _, MA111.out.2.2.1.alloc _, MA111.out.2.2.2.1.alloc _, MA111.out.2.2.2.2.1.alloc _, MA111.out.2.2.2.2.2.1.alloc _, MA111.out.2.2.2.2.2.2.alloc _, Box.new _ _ _⟩
       have HL114 : Hid (w.heap.size ≤ wh110.heap.size) := MA111.out.1.size
       have HO115 : Hid (∀ g, (Value.slice xa no xc).ownBlock = some g → g < wh110.heap.size) := fun g hg => (MA111.out.2.2.2.2.2.2.lt hg).2
       clear MA111
       go_simp
       refine hK.out _ _ ?_ (fun hHeld => ?_)
       ·
        exact ⟨MA113.out.2.1.cell 0, MA113.out.2.1.cell 1, MA113.out.2.2.2.2.1.cell 3, MA113.out.2.2.2.2.1.cell 5⟩
       clear hK K
       clear hHeld
       generalize wh110.alloc (.cells #[.int .i64 (fp : Int), .int .i64 t1, .int .i64 t2] 112) = V112 at MA113 ⊢
       generalize wh110.heap.size = qb at MA113 HL114 HO115 ⊢
       have HOV : Hid (VOwn w.heap.size 112 3 V112 (.slice xa no xc) no (intF (ovF no O (fp : Int) t1 t2))) := MA113.out.2.2.2.2.2.2.1.congr (fun i hi j _ => by show Value.int .i64 (O i j) = Value.int .i64 (ovF no O (fp : Int) t1 t2 i j); rw [ovF, if_neg (by omega)])
       have HSZ : Hid (w.heap.size ≤ V112.heap.size) := MA113.out.1.size
       refine rl 17 fun K hK => ?_
       refine step_vapp V112 rfl _ _ 59 rfl w.heap.size 112 i1 _ 3 24 Tryz.underlying59 hi1 hz1 hs1 hb1 rfl (by decide) (.slice xa no xc) no (intF (ovF no O (fp : Int) t1 t2)) rfl HOV.out (fun _ _ => rfl) qb 1 #[.int .i64 (fp : Int), .int .i64 t1, .int .i64 t2] rfl MA113.out.2.2.2.2.2.2.2 HVS.out (by simp only [maxLen]; omega) (by omega) HSZ.out ?_
       intro g2 gc wg116 ho2 hg2
       have MG117 : Hid (Below w.heap.size w wg116 ∧ Box wg116 (w.heap.size) 40 #[.slice pa v.n pc, .slice ja v.m jc] ∧ Box wg116 (w.heap.size + 1) 33 #[.int .i64 (fq : Int), .int .i64 ga, .int .i64 gw, .int .i64 lg, .slice ba mb bk] ∧ Box wg116 (w.heap.size + 1 + 1) 61 #[.int .i64 0, .int .i64 0, .int .i64 0, .int .i64 0, .int .i64 0, .int .i64 0, .int .i64 0, .slice none 0 0, .slice none 0 0] ∧ Box wg116 (ob) 61 #[.int .i64 0, .int .i64 far, .int .i64 (-1), .int .i64 (fp : Int), .int .i64 fa, .int .i64 fw, .int .i64 lg, .slice oa nb oc, .slice xa no xc] ∧ VOwn w.heap.size 74 2 wg116 (.slice oa nb oc) nb (intF B) ∧ VOwn w.heap.size 112 3 wg116 (.slice (some ⟨g2, 0, none⟩) (no + 1) gc) (no + 1) (intF (ovF no O (fp : Int) t1 t2))) := ⟨MA113.out.1.grown hg2 MA113.out.1.size (fun _ hj => (MA113.out.2.2.2.2.2.2.1.lt hj).1), MA113.out.2.1.grown hg2 (fun e => MA113.out.2.2.2.2.2.2.1.off MA113.out.2.1 (by decide) e rfl), MA113.out.2.2.1.grown hg2 (fun e => MA113.out.2.2.2.2.2.2.1.off MA113.out.2.2.1 (by decide) e rfl), MA113.out.2.2.2.1.grown hg2 (fun e => MA113.out.2.2.2.2.2.2.1.off MA113.out.2.2.2.1 (by decide) e rfl), MA113.out.2.2.2.2.1.grown hg2 (fun e => MA113.out.2.2.2.2.2.2.1.off MA113.out.2.2.2.2.1 (by decide) e rfl), MA113.out.2.2.2.2.2.1.grown' hg2 (fun _ hh => MA113.out.2.2.2.2.2.1.apart MA113.out.2.2.2.2.2.2.1 (by decide) hh), ho2⟩
       clear ho2 hg2 HOV HSZ MA113
       simp only [Act.put, List.setIfInBounds_toArray, List.set_cons_zero, List.set_cons_succ]
       refine hK.out _ _ ?_ (fun hHeld => ?_)
       ·
        exact ⟨MG117.out.2.1.cell 0, MG117.out.2.1.cell 1, MG117.out.2.2.2.2.1.cell 3, MG117.out.2.2.2.2.1.cell 5⟩
       clear hK K
       refine tk 18 ?_
       have m0 : wg116.cell? ⟨ob, 0, none⟩ = some (.int .i64 0) := MG117.out.2.2.2.2.1.cell 0
       have m1 : wg116.cell? ⟨ob, 1, none⟩ = some (.int .i64 far) := MG117.out.2.2.2.2.1.cell 1
       have m2 : wg116.cell? ⟨ob, 2, none⟩ = some (.int .i64 (-1)) := MG117.out.2.2.2.2.1.cell 2
       have m3 : wg116.cell? ⟨ob, 3, none⟩ = some (.int .i64 (fp : Int)) := MG117.out.2.2.2.2.1.cell 3
       have m4 : wg116.cell? ⟨ob, 4, none⟩ = some (.int .i64 fa) := MG117.out.2.2.2.2.1.cell 4
       have m5 : wg116.cell? ⟨ob, 5, none⟩ = some (.int .i64 fw) := MG117.out.2.2.2.2.1.cell 5
       have m6 : wg116.cell? ⟨ob, 6, none⟩ = some (.int .i64 lg) := MG117.out.2.2.2.2.1.cell 6
       have m7 : wg116.cell? ⟨ob, 7, none⟩ = some (.slice oa nb oc) := MG117.out.2.2.2.2.1.cell 7
       have m8 : wg116.cell? ⟨ob, 8, none⟩ = some (.slice xa no xc) := MG117.out.2.2.2.2.1.cell 8
       have mf0 := MG117.out.2.2.2.2.1.free 0
       have mf1 := MG117.out.2.2.2.2.1.free 1
       have mf2 := MG117.out.2.2.2.2.1.free 2
       have mf3 := MG117.out.2.2.2.2.1.free 3
       have mf4 := MG117.out.2.2.2.2.1.free 4
       have mf5 := MG117.out.2.2.2.2.1.free 5
       have mf6 := MG117.out.2.2.2.2.1.free 6
       have mf7 := MG117.out.2.2.2.2.1.free 7
       have mf8 := MG117.out.2.2.2.2.1.free 8
       have MA118 : Hid (Below w.heap.size w (wg116.setCell ⟨ob, 8, none⟩ (.slice (some ⟨g2, 0, none⟩) (no + 1) gc)) ∧ Box (wg116.setCell ⟨ob, 8, none⟩ (.slice (some ⟨g2, 0, none⟩) (no + 1) gc)) (w.heap.size) 40 #[.slice pa v.n pc, .slice ja v.m jc] ∧ Box (wg116.setCell ⟨ob, 8, none⟩ (.slice (some ⟨g2, 0, none⟩) (no + 1) gc)) (w.heap.size + 1) 33 #[.int .i64 (fq : Int), .int .i64 ga, .int .i64 gw, .int .i64 lg, .slice ba mb bk] ∧ Box (wg116.setCell ⟨ob, 8, none⟩ (.slice (some ⟨g2, 0, none⟩) (no + 1) gc)) (w.heap.size + 1 + 1) 61 #[.int .i64 0, .int .i64 0, .int .i64 0, .int .i64 0, .int .i64 0, .int .i64 0, .int .i64 0, .slice none 0 0, .slice none 0 0] ∧ Box (wg116.setCell ⟨ob, 8, none⟩ (.slice (some ⟨g2, 0, none⟩) (no + 1) gc)) (ob) 61 #[.int .i64 0, .int .i64 far, .int .i64 (-1), .int .i64 (fp : Int), .int .i64 fa, .int .i64 fw, .int .i64 lg, .slice oa nb oc, .slice (some ⟨g2, 0, none⟩) (no + 1) gc] ∧ VOwn w.heap.size 74 2 (wg116.setCell ⟨ob, 8, none⟩ (.slice (some ⟨g2, 0, none⟩) (no + 1) gc)) (.slice oa nb oc) nb (intF B) ∧ VOwn w.heap.size 112 3 (wg116.setCell ⟨ob, 8, none⟩ (.slice (some ⟨g2, 0, none⟩) (no + 1) gc)) (.slice (some ⟨g2, 0, none⟩) (no + 1) gc) (no + 1) (intF (ovF no O (fp : Int) t1 t2))) := ⟨(MG117.out.1.setCell HL73.out _), (MG117.out.2.1.other (box_ne MG117.out.2.1 MG117.out.2.2.2.2.1 (by decide)) _), (MG117.out.2.2.1.other (box_ne MG117.out.2.2.1 MG117.out.2.2.2.2.1 (by decide)) _), (MG117.out.2.2.2.1.other HE74.out _), by have h9 := (MG117.out.2.2.2.2.1.set 8 (.slice (some ⟨g2, 0, none⟩) (no + 1) gc)); exact h9, (MG117.out.2.2.2.2.2.1.set MG117.out.2.2.2.2.1 (by decide) 8 _), (MG117.out.2.2.2.2.2.2.set MG117.out.2.2.2.2.1 (by decide) 8 _)⟩
       clear MG117
       refine rl 19 fun K hK => ?_
       go_simp
       refine hK.out _ _ ?_ (fun hHeld => ?_)
       ·
        exact ⟨MA118.out.2.1.cell 0, MA118.out.2.1.cell 1, MA118.out.2.2.2.2.1.cell 3, MA118.out.2.2.2.2.1.cell 5⟩
       clear hK K
       refine wpAnyH_done (by kernel_rfl) ?_ _
       clear m0 m1 m2 m3 m4 m5 m6 m7 m8 mf0 mf1 mf2 mf3 mf4 mf5 mf6 mf7 mf8 hHeld
       generalize (wg116.setCell ⟨ob, 8, none⟩ (.slice (some ⟨g2, 0, none⟩) (no + 1) gc)) = W119 at MA118 ⊢
       go_wp2_with fail
       go_meet
       case rel => exact ⟨some ⟨g2, 0, none⟩, gc, ⟨MA118.out.1, MA118.out.2.1, MA118.out.2.2.1, MA118.out.2.2.2.1, MA118.out.2.2.2.2.1, MA118.out.2.2.2.2.2.1, MA118.out.2.2.2.2.2.2⟩⟩
      ·
       go_simp
       refine (part49 OK.out.1 pa pc ja jc fp fw al (al + rm) _ hfp hfw ⟨by omega, by omega⟩ ⟨by omega, by omega⟩ (H.out.1.mono nr MD109.out.1 nr)).mono ?_
       rintro e wh120 ⟨he, hb⟩
       rw [HT12.out.1, HT12.out.2] at he
       subst he
       have MA121 : Hid (Below w.heap.size w wh120 ∧ Box wh120 (w.heap.size) 40 #[.slice pa v.n pc, .slice ja v.m jc] ∧ Box wh120 (w.heap.size + 1) 33 #[.int .i64 (fq : Int), .int .i64 ga, .int .i64 gw, .int .i64 lg, .slice ba mb bk] ∧ Box wh120 (w.heap.size + 1 + 1) 61 #[.int .i64 0, .int .i64 0, .int .i64 0, .int .i64 0, .int .i64 0, .int .i64 0, .int .i64 0, .slice none 0 0, .slice none 0 0] ∧ Box wh120 (ob) 61 #[.int .i64 0, .int .i64 far, .int .i64 (-1), .int .i64 (fp : Int), .int .i64 fa, .int .i64 fw, .int .i64 lg, .slice oa nb oc, .slice xa no xc] ∧ VOwn w.heap.size 74 2 wh120 (.slice oa nb oc) nb (intF B) ∧ VOwn w.heap.size 112 3 wh120 (.slice xa no xc) no (intF O)) := ⟨MD109.out.1.trans (hb.mono MD109.out.1.size), MD109.out.2.1.mono hb nr, MD109.out.2.2.1.mono hb nr, MD109.out.2.2.2.1.mono hb nr, MD109.out.2.2.2.2.1.mono hb nr, MD109.out.2.2.2.2.2.1.mono nr hb nr, MD109.out.2.2.2.2.2.2.mono nr hb nr⟩
       clear hb MD109
       go_wp2_with fail
       refine hK.out _ _ ?_ (fun hHeld => ?_)
       ·
        exact ⟨MA121.out.2.1.cell 0, MA121.out.2.1.cell 1, MA121.out.2.2.2.2.1.cell 3, MA121.out.2.2.2.2.1.cell 5⟩
       clear hK K
       refine ready2_lit (i := 1) (j := 16) (by kernel_rfl) rfl rfl (fun K hK => ?_) (fun K hK => ?_)
       ·
        have o8 : wh120.cell? ⟨ob, 8, none⟩ = some (.slice xa no xc) := MA121.out.2.2.2.2.1.cell 8
        go_simp
        refine hK.out _ _ ?_ (fun hHeld => ?_)
        ·
         exact ⟨MA121.out.2.1.cell 0, MA121.out.2.1.cell 1, MA121.out.2.2.2.2.1.cell 3, MA121.out.2.2.2.2.1.cell 5⟩
        clear hK K
        clear o8
        refine rl 16 fun K hK => ?_
        have MA123 : Hid (Below w.heap.size w (wh120.alloc (.cells #[.int .i64 (fp : Int), .int .i64 t1, .int .i64 t2] 112)) ∧ Box (wh120.alloc (.cells #[.int .i64 (fp : Int), .int .i64 t1, .int .i64 t2] 112)) (w.heap.size) 40 #[.slice pa v.n pc, .slice ja v.m jc] ∧ Box (wh120.alloc (.cells #[.int .i64 (fp : Int), .int .i64 t1, .int .i64 t2] 112)) (w.heap.size + 1) 33 #[.int .i64 (fq : Int), .int .i64 ga, .int .i64 gw, .int .i64 lg, .slice ba mb bk] ∧ Box (wh120.alloc (.cells #[.int .i64 (fp : Int), .int .i64 t1, .int .i64 t2] 112)) (w.heap.size + 1 + 1) 61 #[.int .i64 0, .int .i64 0, .int .i64 0, .int .i64 0, .int .i64 0, .int .i64 0, .int .i64 0, .slice none 0 0, .slice none 0 0] ∧ Box (wh120.alloc (.cells #[.int .i64 (fp : Int), .int .i64 t1, .int .i64 t2] 112)) (ob) 61 #[.int .i64 0, .int .i64 far, .int .i64 (-1), .int .i64 (fp : Int), .int .i64 fa, .int .i64 fw, .int .i64 lg, .slice oa nb oc, .slice xa no xc] ∧ VOwn w.heap.size 74 2 (wh120.alloc (.cells #[.int .i64 (fp : Int), .int .i64 t1, .int .i64 t2] 112)) (.slice oa nb oc) nb (intF B) ∧ VOwn w.heap.size 112 3 (wh120.alloc (.cells #[.int .i64 (fp : Int), .int .i64 t1, .int .i64 t2] 112)) (.slice xa no xc) no (intF O) ∧ Box (wh120.alloc (.cells #[.int .i64 (fp : Int), .int .i64 t1, .int .i64 t2] 112)) (wh120.heap.size) 112 #[.int .i64 (fp : Int), .int .i64 t1, .int .i64 t2]) := ⟨MA121.out.1.alloc MA121.out.1.size _, MA121.out.2.1.alloc _, MA121.out.2.2.1.alloc _, MA121.out.2.2.2.1.alloc _, MA121.out.2.2.2.2.1.alloc _, MA121.out.2.2.2.2.2.1.alloc _, MA121.out.2.2.2.2.2.2.alloc _, Box.new _ _ _⟩
        have HL124 : Hid (w.heap.size ≤ wh120.heap.size) := MA121.out.1.size
        have HO125 : Hid (∀ g, (Value.slice xa no xc).ownBlock = some g → g < wh120.heap.size) := fun g hg => (MA121.out.2.2.2.2.2.2.lt hg).2
        clear MA121
        go_simp
        refine hK.out _ _ ?_ (fun hHeld => ?_)
        ·
         exact ⟨MA123.out.2.1.cell 0, MA123.out.2.1.cell 1, MA123.out.2.2.2.2.1.cell 3, MA123.out.2.2.2.2.1.cell 5⟩
        clear hK K
        clear hHeld
        generalize wh120.alloc (.cells #[.int .i64 (fp : Int), .int .i64 t1, .int .i64 t2] 112) = V122 at MA123 ⊢
        generalize wh120.heap.size = qb at MA123 HL124 HO125 ⊢
        have HOV : Hid (VOwn w.heap.size 112 3 V122 (.slice xa no xc) no (intF (ovF no O (fp : Int) t1 t2))) := MA123.out.2.2.2.2.2.2.1.congr (fun i hi j _ => by show Value.int .i64 (O i j) = Value.int .i64 (ovF no O (fp : Int) t1 t2 i j); rw [ovF, if_neg (by omega)])
        have HSZ : Hid (w.heap.size ≤ V122.heap.size) := MA123.out.1.size
        refine rl 17 fun K hK => ?_
        refine step_vapp V122 rfl _ _ 59 rfl w.heap.size 112 i1 _ 3 24 Tryz.underlying59 hi1 hz1 hs1 hb1 rfl (by decide) (.slice xa no xc) no (intF (ovF no O (fp : Int) t1 t2)) rfl HOV.out (fun _ _ => rfl) qb 1 #[.int .i64 (fp : Int), .int .i64 t1, .int .i64 t2] rfl MA123.out.2.2.2.2.2.2.2 HVS.out (by simp only [maxLen]; omega) (by omega) HSZ.out ?_
        intro g2 gc wg126 ho2 hg2
        have MG127 : Hid (Below w.heap.size w wg126 ∧ Box wg126 (w.heap.size) 40 #[.slice pa v.n pc, .slice ja v.m jc] ∧ Box wg126 (w.heap.size + 1) 33 #[.int .i64 (fq : Int), .int .i64 ga, .int .i64 gw, .int .i64 lg, .slice ba mb bk] ∧ Box wg126 (w.heap.size + 1 + 1) 61 #[.int .i64 0, .int .i64 0, .int .i64 0, .int .i64 0, .int .i64 0, .int .i64 0, .int .i64 0, .slice none 0 0, .slice none 0 0] ∧ Box wg126 (ob) 61 #[.int .i64 0, .int .i64 far, .int .i64 (-1), .int .i64 (fp : Int), .int .i64 fa, .int .i64 fw, .int .i64 lg, .slice oa nb oc, .slice xa no xc] ∧ VOwn w.heap.size 74 2 wg126 (.slice oa nb oc) nb (intF B) ∧ VOwn w.heap.size 112 3 wg126 (.slice (some ⟨g2, 0, none⟩) (no + 1) gc) (no + 1) (intF (ovF no O (fp : Int) t1 t2))) := ⟨MA123.out.1.grown hg2 MA123.out.1.size (fun _ hj => (MA123.out.2.2.2.2.2.2.1.lt hj).1), MA123.out.2.1.grown hg2 (fun e => MA123.out.2.2.2.2.2.2.1.off MA123.out.2.1 (by decide) e rfl), MA123.out.2.2.1.grown hg2 (fun e => MA123.out.2.2.2.2.2.2.1.off MA123.out.2.2.1 (by decide) e rfl), MA123.out.2.2.2.1.grown hg2 (fun e => MA123.out.2.2.2.2.2.2.1.off MA123.out.2.2.2.1 (by decide) e rfl), MA123.out.2.2.2.2.1.grown hg2 (fun e => MA123.out.2.2.2.2.2.2.1.off MA123.out.2.2.2.2.1 (by decide) e rfl), MA123.out.2.2.2.2.2.1.grown' hg2 (fun _ hh => MA123.out.2.2.2.2.2.1.apart MA123.out.2.2.2.2.2.2.1 (by decide) hh), ho2⟩
        clear ho2 hg2 HOV HSZ MA123
        simp only [Act.put, List.setIfInBounds_toArray, List.set_cons_zero, List.set_cons_succ]
        refine hK.out _ _ ?_ (fun hHeld => ?_)
        ·
         exact ⟨MG127.out.2.1.cell 0, MG127.out.2.1.cell 1, MG127.out.2.2.2.2.1.cell 3, MG127.out.2.2.2.2.1.cell 5⟩
        clear hK K
        refine tk 18 ?_
        have m0 : wg126.cell? ⟨ob, 0, none⟩ = some (.int .i64 0) := MG127.out.2.2.2.2.1.cell 0
        have m1 : wg126.cell? ⟨ob, 1, none⟩ = some (.int .i64 far) := MG127.out.2.2.2.2.1.cell 1
        have m2 : wg126.cell? ⟨ob, 2, none⟩ = some (.int .i64 (-1)) := MG127.out.2.2.2.2.1.cell 2
        have m3 : wg126.cell? ⟨ob, 3, none⟩ = some (.int .i64 (fp : Int)) := MG127.out.2.2.2.2.1.cell 3
        have m4 : wg126.cell? ⟨ob, 4, none⟩ = some (.int .i64 fa) := MG127.out.2.2.2.2.1.cell 4
        have m5 : wg126.cell? ⟨ob, 5, none⟩ = some (.int .i64 fw) := MG127.out.2.2.2.2.1.cell 5
        have m6 : wg126.cell? ⟨ob, 6, none⟩ = some (.int .i64 lg) := MG127.out.2.2.2.2.1.cell 6
        have m7 : wg126.cell? ⟨ob, 7, none⟩ = some (.slice oa nb oc) := MG127.out.2.2.2.2.1.cell 7
        have m8 : wg126.cell? ⟨ob, 8, none⟩ = some (.slice xa no xc) := MG127.out.2.2.2.2.1.cell 8
        have mf0 := MG127.out.2.2.2.2.1.free 0
        have mf1 := MG127.out.2.2.2.2.1.free 1
        have mf2 := MG127.out.2.2.2.2.1.free 2
        have mf3 := MG127.out.2.2.2.2.1.free 3
        have mf4 := MG127.out.2.2.2.2.1.free 4
        have mf5 := MG127.out.2.2.2.2.1.free 5
        have mf6 := MG127.out.2.2.2.2.1.free 6
        have mf7 := MG127.out.2.2.2.2.1.free 7
        have mf8 := MG127.out.2.2.2.2.1.free 8
        have MA128 : Hid (Below w.heap.size w (wg126.setCell ⟨ob, 8, none⟩ (.slice (some ⟨g2, 0, none⟩) (no + 1) gc)) ∧ Box (wg126.setCell ⟨ob, 8, none⟩ (.slice (some ⟨g2, 0, none⟩) (no + 1) gc)) (w.heap.size) 40 #[.slice pa v.n pc, .slice ja v.m jc] ∧ Box (wg126.setCell ⟨ob, 8, none⟩ (.slice (some ⟨g2, 0, none⟩) (no + 1) gc)) (w.heap.size + 1) 33 #[.int .i64 (fq : Int), .int .i64 ga, .int .i64 gw, .int .i64 lg, .slice ba mb bk] ∧ Box (wg126.setCell ⟨ob, 8, none⟩ (.slice (some ⟨g2, 0, none⟩) (no + 1) gc)) (w.heap.size + 1 + 1) 61 #[.int .i64 0, .int .i64 0, .int .i64 0, .int .i64 0, .int .i64 0, .int .i64 0, .int .i64 0, .slice none 0 0, .slice none 0 0] ∧ Box (wg126.setCell ⟨ob, 8, none⟩ (.slice (some ⟨g2, 0, none⟩) (no + 1) gc)) (ob) 61 #[.int .i64 0, .int .i64 far, .int .i64 (-1), .int .i64 (fp : Int), .int .i64 fa, .int .i64 fw, .int .i64 lg, .slice oa nb oc, .slice (some ⟨g2, 0, none⟩) (no + 1) gc] ∧ VOwn w.heap.size 74 2 (wg126.setCell ⟨ob, 8, none⟩ (.slice (some ⟨g2, 0, none⟩) (no + 1) gc)) (.slice oa nb oc) nb (intF B) ∧ VOwn w.heap.size 112 3 (wg126.setCell ⟨ob, 8, none⟩ (.slice (some ⟨g2, 0, none⟩) (no + 1) gc)) (.slice (some ⟨g2, 0, none⟩) (no + 1) gc) (no + 1) (intF (ovF no O (fp : Int) t1 t2))) := ⟨(MG127.out.1.setCell HL73.out _), (MG127.out.2.1.other (box_ne MG127.out.2.1 MG127.out.2.2.2.2.1 (by decide)) _), (MG127.out.2.2.1.other (box_ne MG127.out.2.2.1 MG127.out.2.2.2.2.1 (by decide)) _), (MG127.out.2.2.2.1.other HE74.out _), by have h9 := (MG127.out.2.2.2.2.1.set 8 (.slice (some ⟨g2, 0, none⟩) (no + 1) gc)); exact h9, (MG127.out.2.2.2.2.2.1.set MG127.out.2.2.2.2.1 (by decide) 8 _), (MG127.out.2.2.2.2.2.2.set MG127.out.2.2.2.2.1 (by decide) 8 _)⟩
        clear MG127
        refine rl 19 fun K hK => ?_
        go_simp
        refine hK.out _ _ ?_ (fun hHeld => ?_)
        ·
         exact ⟨MA128.out.2.1.cell 0, MA128.out.2.1.cell 1, MA128.out.2.2.2.2.1.cell 3, MA128.out.2.2.2.2.1.cell 5⟩
        clear hK K
        refine wpAnyH_done (by kernel_rfl) ?_ _
        clear m0 m1 m2 m3 m4 m5 m6 m7 m8 mf0 mf1 mf2 mf3 mf4 mf5 mf6 mf7 mf8 hHeld
        generalize (wg126.setCell ⟨ob, 8, none⟩ (.slice (some ⟨g2, 0, none⟩) (no + 1) gc)) = W129 at MA128 ⊢
        go_wp2_with fail
        go_meet
        case rel => exact ⟨some ⟨g2, 0, none⟩, gc, ⟨MA128.out.1, MA128.out.2.1, MA128.out.2.2.1, MA128.out.2.2.2.1, MA128.out.2.2.2.2.1, MA128.out.2.2.2.2.2.1, MA128.out.2.2.2.2.2.2⟩⟩
       ·
        have MA131 : Hid (Below w.heap.size w (wh120.alloc (.cells #[.int .i64 (fp : Int), .int .i64 t1, .int .i64 t2] 112)) ∧ Box (wh120.alloc (.cells #[.int .i64 (fp : Int), .int .i64 t1, .int .i64 t2] 112)) (w.heap.size) 40 #[.slice pa v.n pc, .slice ja v.m jc] ∧ Box (wh120.alloc (.cells #[.int .i64 (fp : Int), .int .i64 t1, .int .i64 t2] 112)) (w.heap.size + 1) 33 #[.int .i64 (fq : Int), .int .i64 ga, .int .i64 gw, .int .i64 lg, .slice ba mb bk] ∧ Box (wh120.alloc (.cells #[.int .i64 (fp : Int), .int .i64 t1, .int .i64 t2] 112)) (w.heap.size + 1 + 1) 61 #[.int .i64 0, .int .i64 0, .int .i64 0, .int .i64 0, .int .i64 0, .int .i64 0, .int .i64 0, .slice none 0 0, .slice none 0 0] ∧ Box (wh120.alloc (.cells #[.int .i64 (fp : Int), .int .i64 t1, .int .i64 t2] 112)) (ob) 61 #[.int .i64 0, .int .i64 far, .int .i64 (-1), .int .i64 (fp : Int), .int .i64 fa, .int .i64 fw, .int .i64 lg, .slice oa nb oc, .slice xa no xc] ∧ VOwn w.heap.size 74 2 (wh120.alloc (.cells #[.int .i64 (fp : Int), .int .i64 t1, .int .i64 t2] 112)) (.slice oa nb oc) nb (intF B) ∧ VOwn w.heap.size 112 3 (wh120.alloc (.cells #[.int .i64 (fp : Int), .int .i64 t1, .int .i64 t2] 112)) (.slice xa no xc) no (intF O) ∧ Box (wh120.alloc (.cells #[.int .i64 (fp : Int), .int .i64 t1, .int .i64 t2] 112)) (wh120.heap.size) 112 #[.int .i64 (fp : Int), .int .i64 t1, .int .i64 t2]) := ⟨MA121.out.1.alloc MA121.out.1.size _, MA121.out.2.1.alloc _, MA121.out.2.2.1.alloc _, MA121.out.2.2.2.1.alloc _, MA121.out.2.2.2.2.1.alloc _, MA121.out.2.2.2.2.2.1.alloc _, MA121.out.2.2.2.2.2.2.alloc _, Box.new _ _ _⟩
        have HL132 : Hid (w.heap.size ≤ wh120.heap.size) := MA121.out.1.size
        have HO133 : Hid (∀ g, (Value.slice xa no xc).ownBlock = some g → g < wh120.heap.size) := fun g hg => (MA121.out.2.2.2.2.2.2.lt hg).2
        clear MA121
        go_simp
        refine hK.out _ _ ?_ (fun hHeld => ?_)
        ·
         exact ⟨MA131.out.2.1.cell 0, MA131.out.2.1.cell 1, MA131.out.2.2.2.2.1.cell 3, MA131.out.2.2.2.2.1.cell 5⟩
        clear hK K
        clear hHeld
        generalize wh120.alloc (.cells #[.int .i64 (fp : Int), .int .i64 t1, .int .i64 t2] 112) = V130 at MA131 ⊢
        generalize wh120.heap.size = qb at MA131 HL132 HO133 ⊢
        refine rl 1 fun K hK => ?_
        have o8 : V130.cell? ⟨ob, 8, none⟩ = some (.slice xa no xc) := MA131.out.2.2.2.2.1.cell 8
        go_simp
        refine hK.out _ _ ?_ (fun hHeld => ?_)
        ·
         exact ⟨MA131.out.2.1.cell 0, MA131.out.2.1.cell 1, MA131.out.2.2.2.2.1.cell 3, MA131.out.2.2.2.2.1.cell 5⟩
        clear hK K
        clear o8
        have HOV : Hid (VOwn w.heap.size 112 3 V130 (.slice xa no xc) no (intF (ovF no O (fp : Int) t1 t2))) := MA131.out.2.2.2.2.2.2.1.congr (fun i hi j _ => by show Value.int .i64 (O i j) = Value.int .i64 (ovF no O (fp : Int) t1 t2 i j); rw [ovF, if_neg (by omega)])
        have HSZ : Hid (w.heap.size ≤ V130.heap.size) := MA131.out.1.size
        refine rl 17 fun K hK => ?_
        refine step_vapp V130 rfl _ _ 59 rfl w.heap.size 112 i1 _ 3 24 Tryz.underlying59 hi1 hz1 hs1 hb1 rfl (by decide) (.slice xa no xc) no (intF (ovF no O (fp : Int) t1 t2)) rfl HOV.out (fun _ _ => rfl) qb 1 #[.int .i64 (fp : Int), .int .i64 t1, .int .i64 t2] rfl MA131.out.2.2.2.2.2.2.2 HVS.out (by simp only [maxLen]; omega) (by omega) HSZ.out ?_
        intro g2 gc wg134 ho2 hg2
        have MG135 : Hid (Below w.heap.size w wg134 ∧ Box wg134 (w.heap.size) 40 #[.slice pa v.n pc, .slice ja v.m jc] ∧ Box wg134 (w.heap.size + 1) 33 #[.int .i64 (fq : Int), .int .i64 ga, .int .i64 gw, .int .i64 lg, .slice ba mb bk] ∧ Box wg134 (w.heap.size + 1 + 1) 61 #[.int .i64 0, .int .i64 0, .int .i64 0, .int .i64 0, .int .i64 0, .int .i64 0, .int .i64 0, .slice none 0 0, .slice none 0 0] ∧ Box wg134 (ob) 61 #[.int .i64 0, .int .i64 far, .int .i64 (-1), .int .i64 (fp : Int), .int .i64 fa, .int .i64 fw, .int .i64 lg, .slice oa nb oc, .slice xa no xc] ∧ VOwn w.heap.size 74 2 wg134 (.slice oa nb oc) nb (intF B) ∧ VOwn w.heap.size 112 3 wg134 (.slice (some ⟨g2, 0, none⟩) (no + 1) gc) (no + 1) (intF (ovF no O (fp : Int) t1 t2))) := ⟨MA131.out.1.grown hg2 MA131.out.1.size (fun _ hj => (MA131.out.2.2.2.2.2.2.1.lt hj).1), MA131.out.2.1.grown hg2 (fun e => MA131.out.2.2.2.2.2.2.1.off MA131.out.2.1 (by decide) e rfl), MA131.out.2.2.1.grown hg2 (fun e => MA131.out.2.2.2.2.2.2.1.off MA131.out.2.2.1 (by decide) e rfl), MA131.out.2.2.2.1.grown hg2 (fun e => MA131.out.2.2.2.2.2.2.1.off MA131.out.2.2.2.1 (by decide) e rfl), MA131.out.2.2.2.2.1.grown hg2 (fun e => MA131.out.2.2.2.2.2.2.1.off MA131.out.2.2.2.2.1 (by decide) e rfl), MA131.out.2.2.2.2.2.1.grown' hg2 (fun _ hh => MA131.out.2.2.2.2.2.1.apart MA131.out.2.2.2.2.2.2.1 (by decide) hh), ho2⟩
        clear ho2 hg2 HOV HSZ MA131
        simp only [Act.put, List.setIfInBounds_toArray, List.set_cons_zero, List.set_cons_succ]
        refine hK.out _ _ ?_ (fun hHeld => ?_)
        ·
         exact ⟨MG135.out.2.1.cell 0, MG135.out.2.1.cell 1, MG135.out.2.2.2.2.1.cell 3, MG135.out.2.2.2.2.1.cell 5⟩
        clear hK K
        refine tk 18 ?_
        have m0 : wg134.cell? ⟨ob, 0, none⟩ = some (.int .i64 0) := MG135.out.2.2.2.2.1.cell 0
        have m1 : wg134.cell? ⟨ob, 1, none⟩ = some (.int .i64 far) := MG135.out.2.2.2.2.1.cell 1
        have m2 : wg134.cell? ⟨ob, 2, none⟩ = some (.int .i64 (-1)) := MG135.out.2.2.2.2.1.cell 2
        have m3 : wg134.cell? ⟨ob, 3, none⟩ = some (.int .i64 (fp : Int)) := MG135.out.2.2.2.2.1.cell 3
        have m4 : wg134.cell? ⟨ob, 4, none⟩ = some (.int .i64 fa) := MG135.out.2.2.2.2.1.cell 4
        have m5 : wg134.cell? ⟨ob, 5, none⟩ = some (.int .i64 fw) := MG135.out.2.2.2.2.1.cell 5
        have m6 : wg134.cell? ⟨ob, 6, none⟩ = some (.int .i64 lg) := MG135.out.2.2.2.2.1.cell 6
        have m7 : wg134.cell? ⟨ob, 7, none⟩ = some (.slice oa nb oc) := MG135.out.2.2.2.2.1.cell 7
        have m8 : wg134.cell? ⟨ob, 8, none⟩ = some (.slice xa no xc) := MG135.out.2.2.2.2.1.cell 8
        have mf0 := MG135.out.2.2.2.2.1.free 0
        have mf1 := MG135.out.2.2.2.2.1.free 1
        have mf2 := MG135.out.2.2.2.2.1.free 2
        have mf3 := MG135.out.2.2.2.2.1.free 3
        have mf4 := MG135.out.2.2.2.2.1.free 4
        have mf5 := MG135.out.2.2.2.2.1.free 5
        have mf6 := MG135.out.2.2.2.2.1.free 6
        have mf7 := MG135.out.2.2.2.2.1.free 7
        have mf8 := MG135.out.2.2.2.2.1.free 8
        have MA136 : Hid (Below w.heap.size w (wg134.setCell ⟨ob, 8, none⟩ (.slice (some ⟨g2, 0, none⟩) (no + 1) gc)) ∧ Box (wg134.setCell ⟨ob, 8, none⟩ (.slice (some ⟨g2, 0, none⟩) (no + 1) gc)) (w.heap.size) 40 #[.slice pa v.n pc, .slice ja v.m jc] ∧ Box (wg134.setCell ⟨ob, 8, none⟩ (.slice (some ⟨g2, 0, none⟩) (no + 1) gc)) (w.heap.size + 1) 33 #[.int .i64 (fq : Int), .int .i64 ga, .int .i64 gw, .int .i64 lg, .slice ba mb bk] ∧ Box (wg134.setCell ⟨ob, 8, none⟩ (.slice (some ⟨g2, 0, none⟩) (no + 1) gc)) (w.heap.size + 1 + 1) 61 #[.int .i64 0, .int .i64 0, .int .i64 0, .int .i64 0, .int .i64 0, .int .i64 0, .int .i64 0, .slice none 0 0, .slice none 0 0] ∧ Box (wg134.setCell ⟨ob, 8, none⟩ (.slice (some ⟨g2, 0, none⟩) (no + 1) gc)) (ob) 61 #[.int .i64 0, .int .i64 far, .int .i64 (-1), .int .i64 (fp : Int), .int .i64 fa, .int .i64 fw, .int .i64 lg, .slice oa nb oc, .slice (some ⟨g2, 0, none⟩) (no + 1) gc] ∧ VOwn w.heap.size 74 2 (wg134.setCell ⟨ob, 8, none⟩ (.slice (some ⟨g2, 0, none⟩) (no + 1) gc)) (.slice oa nb oc) nb (intF B) ∧ VOwn w.heap.size 112 3 (wg134.setCell ⟨ob, 8, none⟩ (.slice (some ⟨g2, 0, none⟩) (no + 1) gc)) (.slice (some ⟨g2, 0, none⟩) (no + 1) gc) (no + 1) (intF (ovF no O (fp : Int) t1 t2))) := ⟨(MG135.out.1.setCell HL73.out _), (MG135.out.2.1.other (box_ne MG135.out.2.1 MG135.out.2.2.2.2.1 (by decide)) _), (MG135.out.2.2.1.other (box_ne MG135.out.2.2.1 MG135.out.2.2.2.2.1 (by decide)) _), (MG135.out.2.2.2.1.other HE74.out _), by have h9 := (MG135.out.2.2.2.2.1.set 8 (.slice (some ⟨g2, 0, none⟩) (no + 1) gc)); exact h9, (MG135.out.2.2.2.2.2.1.set MG135.out.2.2.2.2.1 (by decide) 8 _), (MG135.out.2.2.2.2.2.2.set MG135.out.2.2.2.2.1 (by decide) 8 _)⟩
        clear MG135
        refine rl 19 fun K hK => ?_
        go_simp
        refine hK.out _ _ ?_ (fun hHeld => ?_)
        ·
         exact ⟨MA136.out.2.1.cell 0, MA136.out.2.1.cell 1, MA136.out.2.2.2.2.1.cell 3, MA136.out.2.2.2.2.1.cell 5⟩
        clear hK K
        refine wpAnyH_done (by kernel_rfl) ?_ _
        clear m0 m1 m2 m3 m4 m5 m6 m7 m8 mf0 mf1 mf2 mf3 mf4 mf5 mf6 mf7 mf8 hHeld
        generalize (wg134.setCell ⟨ob, 8, none⟩ (.slice (some ⟨g2, 0, none⟩) (no + 1) gc)) = W137 at MA136 ⊢
        go_wp2_with fail
        go_meet
        case rel => exact ⟨some ⟨g2, 0, none⟩, gc, ⟨MA136.out.1, MA136.out.2.1, MA136.out.2.2.1, MA136.out.2.2.2.1, MA136.out.2.2.2.2.1, MA136.out.2.2.2.2.2.1, MA136.out.2.2.2.2.2.2⟩⟩
     case rest =>
      obtain ⟨g2, gc, M24⟩ := hcut
      clear M22
      generalize wc = W24 at M24 ⊢
      have m0 : W24.cell? ⟨ob, 0, none⟩ = some (.int .i64 0) := M24.out.2.2.2.2.1.cell 0
      have m1 : W24.cell? ⟨ob, 1, none⟩ = some (.int .i64 far) := M24.out.2.2.2.2.1.cell 1
      have m2 : W24.cell? ⟨ob, 2, none⟩ = some (.int .i64 (-1)) := M24.out.2.2.2.2.1.cell 2
      have m3 : W24.cell? ⟨ob, 3, none⟩ = some (.int .i64 (fp : Int)) := M24.out.2.2.2.2.1.cell 3
      have m4 : W24.cell? ⟨ob, 4, none⟩ = some (.int .i64 fa) := M24.out.2.2.2.2.1.cell 4
      have m5 : W24.cell? ⟨ob, 5, none⟩ = some (.int .i64 fw) := M24.out.2.2.2.2.1.cell 5
      have m6 : W24.cell? ⟨ob, 6, none⟩ = some (.int .i64 lg) := M24.out.2.2.2.2.1.cell 6
      have m7 : W24.cell? ⟨ob, 7, none⟩ = some (.slice oa nb oc) := M24.out.2.2.2.2.1.cell 7
      have m8 : W24.cell? ⟨ob, 8, none⟩ = some (.slice g2 (no + 1) gc) := M24.out.2.2.2.2.1.cell 8
      have mf0 := M24.out.2.2.2.2.1.free 0
      have mf1 := M24.out.2.2.2.2.1.free 1
      have mf2 := M24.out.2.2.2.2.1.free 2
      have mf3 := M24.out.2.2.2.2.1.free 3
      have mf4 := M24.out.2.2.2.2.1.free 4
      have mf5 := M24.out.2.2.2.2.1.free 5
      have mf6 := M24.out.2.2.2.2.1.free 6
      have mf7 := M24.out.2.2.2.2.1.free 7
      have mf8 := M24.out.2.2.2.2.1.free 8
      have M25 : Hid (Below w.heap.size w ((W24.setCell ⟨ob, 4, none⟩ (.int .i64 (fa + rm * fw))).setCell ⟨ob, 1, none⟩ (.int .i64 (far + rm))) ∧ Box ((W24.setCell ⟨ob, 4, none⟩ (.int .i64 (fa + rm * fw))).setCell ⟨ob, 1, none⟩ (.int .i64 (far + rm))) (w.heap.size) 40 #[.slice pa v.n pc, .slice ja v.m jc] ∧ Box ((W24.setCell ⟨ob, 4, none⟩ (.int .i64 (fa + rm * fw))).setCell ⟨ob, 1, none⟩ (.int .i64 (far + rm))) (w.heap.size + 1) 33 #[.int .i64 (fq : Int), .int .i64 ga, .int .i64 gw, .int .i64 lg, .slice ba mb bk] ∧ Box ((W24.setCell ⟨ob, 4, none⟩ (.int .i64 (fa + rm * fw))).setCell ⟨ob, 1, none⟩ (.int .i64 (far + rm))) (w.heap.size + 1 + 1) 61 #[.int .i64 0, .int .i64 0, .int .i64 0, .int .i64 0, .int .i64 0, .int .i64 0, .int .i64 0, .slice none 0 0, .slice none 0 0] ∧ Box ((W24.setCell ⟨ob, 4, none⟩ (.int .i64 (fa + rm * fw))).setCell ⟨ob, 1, none⟩ (.int .i64 (far + rm))) (ob) 61 #[.int .i64 0, .int .i64 (far + rm), .int .i64 (-1), .int .i64 (fp : Int), .int .i64 (fa + rm * fw), .int .i64 fw, .int .i64 lg, .slice oa nb oc, .slice g2 (no + 1) gc] ∧ VOwn w.heap.size 74 2 ((W24.setCell ⟨ob, 4, none⟩ (.int .i64 (fa + rm * fw))).setCell ⟨ob, 1, none⟩ (.int .i64 (far + rm))) (.slice oa nb oc) nb (intF B) ∧ VOwn w.heap.size 112 3 ((W24.setCell ⟨ob, 4, none⟩ (.int .i64 (fa + rm * fw))).setCell ⟨ob, 1, none⟩ (.int .i64 (far + rm))) (.slice g2 (no + 1) gc) (no + 1) (intF (ovF no O (fp : Int) t1 t2))) := ⟨((M24.out.1.setCell HL73.out _).setCell HL73.out _), ((M24.out.2.1.other (box_ne M24.out.2.1 M24.out.2.2.2.2.1 (by decide)) _).other (box_ne M24.out.2.1 M24.out.2.2.2.2.1 (by decide)) _), ((M24.out.2.2.1.other (box_ne M24.out.2.2.1 M24.out.2.2.2.2.1 (by decide)) _).other (box_ne M24.out.2.2.1 M24.out.2.2.2.2.1 (by decide)) _), ((M24.out.2.2.2.1.other HE74.out _).other HE74.out _), by have h9 := ((M24.out.2.2.2.2.1.set 4 (.int .i64 (fa + rm * fw))).set 1 (.int .i64 (far + rm))); exact h9, ((M24.out.2.2.2.2.2.1.set M24.out.2.2.2.2.1 (by decide) 4 _).set (M24.out.2.2.2.2.1.set 4 (.int .i64 (fa + rm * fw))) (by decide) 1 _), ((M24.out.2.2.2.2.2.2.set M24.out.2.2.2.2.1 (by decide) 4 _).set (M24.out.2.2.2.2.1.set 4 (.int .i64 (fa + rm * fw))) (by decide) 1 _)⟩
      clear M24
      go_upto_region 26 with fail
      clear m0 m1 m2 m3 m4 m5 m6 m7 m8 mf0 mf1 mf2 mf3 mf4 mf5 mf6 mf7 mf8
      generalize ((W24.setCell ⟨ob, 4, none⟩ (.int .i64 (fa + rm * fw))).setCell ⟨ob, 1, none⟩ (.int .i64 (far + rm))) = W26 at M25 ⊢
      have x0 : W26.cell? ⟨w.heap.size, 0, none⟩ = some (.slice pa v.n pc) := M25.out.2.1.cell 0
      have x1 : W26.cell? ⟨w.heap.size, 1, none⟩ = some (.slice ja v.m jc) := M25.out.2.1.cell 1
      have m0 : W26.cell? ⟨ob, 0, none⟩ = some (.int .i64 0) := M25.out.2.2.2.2.1.cell 0
      have m1 : W26.cell? ⟨ob, 1, none⟩ = some (.int .i64 (far + rm)) := M25.out.2.2.2.2.1.cell 1
      have m2 : W26.cell? ⟨ob, 2, none⟩ = some (.int .i64 (-1)) := M25.out.2.2.2.2.1.cell 2
      have m3 : W26.cell? ⟨ob, 3, none⟩ = some (.int .i64 (fp : Int)) := M25.out.2.2.2.2.1.cell 3
      have m4 : W26.cell? ⟨ob, 4, none⟩ = some (.int .i64 (fa + rm * fw)) := M25.out.2.2.2.2.1.cell 4
      have m5 : W26.cell? ⟨ob, 5, none⟩ = some (.int .i64 fw) := M25.out.2.2.2.2.1.cell 5
      have m6 : W26.cell? ⟨ob, 6, none⟩ = some (.int .i64 lg) := M25.out.2.2.2.2.1.cell 6
      have m7 : W26.cell? ⟨ob, 7, none⟩ = some (.slice oa nb oc) := M25.out.2.2.2.2.1.cell 7
      have m8 : W26.cell? ⟨ob, 8, none⟩ = some (.slice g2 (no + 1) gc) := M25.out.2.2.2.2.1.cell 8
      go_wp2_with fail
      clear x0 x1 m0 m1 m2 m3 m4 m5 m6 m7 m8
      refine (trim108 OK.out.1 pa pc ja jc fp (fa + rm * fw) fw lg nb B oa oc W26 (H.out.1.mono nr M25.out.1 nr) HA1.out.1 ⟨HOK.out.lg0, HOK.out.lg1⟩ (Nat.le_trans HOK.out.nb1 (by decide)) HOK.out.step (M25.out.2.2.2.2.2.1.vs.le (Nat.zero_le _))).mono ?_
      rintro e w27 ⟨z, ta, tc, rfl, hz, hoz, hb⟩
      have HZN : Hid (z = (mvA v lg T (⟨fp, fa, fw, nb, B, far, no, O⟩ : Mv)).nb) := (trim_nd hz HA1.out.2).trans HNB.out
      clear hz
      have M27 : Hid (Below w.heap.size w w27 ∧ Box w27 (w.heap.size) 40 #[.slice pa v.n pc, .slice ja v.m jc] ∧ Box w27 (w.heap.size + 1) 33 #[.int .i64 (fq : Int), .int .i64 ga, .int .i64 gw, .int .i64 lg, .slice ba mb bk] ∧ Box w27 (w.heap.size + 1 + 1) 61 #[.int .i64 0, .int .i64 0, .int .i64 0, .int .i64 0, .int .i64 0, .int .i64 0, .int .i64 0, .slice none 0 0, .slice none 0 0] ∧ Box w27 (ob) 61 #[.int .i64 0, .int .i64 (far + rm), .int .i64 (-1), .int .i64 (fp : Int), .int .i64 (fa + rm * fw), .int .i64 fw, .int .i64 lg, .slice oa nb oc, .slice g2 (no + 1) gc] ∧ VOwn w.heap.size 112 3 w27 (.slice g2 (no + 1) gc) (no + 1) (intF (ovF no O (fp : Int) t1 t2)) ∧ VOwn w.heap.size 74 2 w27 (.slice ta z tc) z (intF B)) := ⟨M25.out.1.trans (hb.mono M25.out.1.size), M25.out.2.1.mono hb nr, M25.out.2.2.1.mono hb nr, M25.out.2.2.2.1.mono hb nr, M25.out.2.2.2.2.1.mono hb nr, M25.out.2.2.2.2.2.2.mono nr hb nr, hoz.keep M25.out.1.size (fun _ _ => rfl)⟩
      clear hb hoz M25
      have m0 : w27.cell? ⟨ob, 0, none⟩ = some (.int .i64 0) := M27.out.2.2.2.2.1.cell 0
      have m1 : w27.cell? ⟨ob, 1, none⟩ = some (.int .i64 (far + rm)) := M27.out.2.2.2.2.1.cell 1
      have m2 : w27.cell? ⟨ob, 2, none⟩ = some (.int .i64 (-1)) := M27.out.2.2.2.2.1.cell 2
      have m3 : w27.cell? ⟨ob, 3, none⟩ = some (.int .i64 (fp : Int)) := M27.out.2.2.2.2.1.cell 3
      have m4 : w27.cell? ⟨ob, 4, none⟩ = some (.int .i64 (fa + rm * fw)) := M27.out.2.2.2.2.1.cell 4
      have m5 : w27.cell? ⟨ob, 5, none⟩ = some (.int .i64 fw) := M27.out.2.2.2.2.1.cell 5
      have m6 : w27.cell? ⟨ob, 6, none⟩ = some (.int .i64 lg) := M27.out.2.2.2.2.1.cell 6
      have m7 : w27.cell? ⟨ob, 7, none⟩ = some (.slice oa nb oc) := M27.out.2.2.2.2.1.cell 7
      have m8 : w27.cell? ⟨ob, 8, none⟩ = some (.slice g2 (no + 1) gc) := M27.out.2.2.2.2.1.cell 8
      have mf0 := M27.out.2.2.2.2.1.free 0
      have mf1 := M27.out.2.2.2.2.1.free 1
      have mf2 := M27.out.2.2.2.2.1.free 2
      have mf3 := M27.out.2.2.2.2.1.free 3
      have mf4 := M27.out.2.2.2.2.1.free 4
      have mf5 := M27.out.2.2.2.2.1.free 5
      have mf6 := M27.out.2.2.2.2.1.free 6
      have mf7 := M27.out.2.2.2.2.1.free 7
      have mf8 := M27.out.2.2.2.2.1.free 8
      have M28 : Hid (Below w.heap.size w (((((w27.setCell ⟨ob, 3, none⟩ (.int .i64 (fp : Int))).setCell ⟨ob, 4, none⟩ (.int .i64 (fa + rm * fw))).setCell ⟨ob, 5, none⟩ (.int .i64 fw)).setCell ⟨ob, 6, none⟩ (.int .i64 lg)).setCell ⟨ob, 7, none⟩ (.slice ta z tc)) ∧ Box (((((w27.setCell ⟨ob, 3, none⟩ (.int .i64 (fp : Int))).setCell ⟨ob, 4, none⟩ (.int .i64 (fa + rm * fw))).setCell ⟨ob, 5, none⟩ (.int .i64 fw)).setCell ⟨ob, 6, none⟩ (.int .i64 lg)).setCell ⟨ob, 7, none⟩ (.slice ta z tc)) (w.heap.size) 40 #[.slice pa v.n pc, .slice ja v.m jc] ∧ Box (((((w27.setCell ⟨ob, 3, none⟩ (.int .i64 (fp : Int))).setCell ⟨ob, 4, none⟩ (.int .i64 (fa + rm * fw))).setCell ⟨ob, 5, none⟩ (.int .i64 fw)).setCell ⟨ob, 6, none⟩ (.int .i64 lg)).setCell ⟨ob, 7, none⟩ (.slice ta z tc)) (w.heap.size + 1) 33 #[.int .i64 (fq : Int), .int .i64 ga, .int .i64 gw, .int .i64 lg, .slice ba mb bk] ∧ Box (((((w27.setCell ⟨ob, 3, none⟩ (.int .i64 (fp : Int))).setCell ⟨ob, 4, none⟩ (.int .i64 (fa + rm * fw))).setCell ⟨ob, 5, none⟩ (.int .i64 fw)).setCell ⟨ob, 6, none⟩ (.int .i64 lg)).setCell ⟨ob, 7, none⟩ (.slice ta z tc)) (w.heap.size + 1 + 1) 61 #[.int .i64 0, .int .i64 0, .int .i64 0, .int .i64 0, .int .i64 0, .int .i64 0, .int .i64 0, .slice none 0 0, .slice none 0 0] ∧ Box (((((w27.setCell ⟨ob, 3, none⟩ (.int .i64 (fp : Int))).setCell ⟨ob, 4, none⟩ (.int .i64 (fa + rm * fw))).setCell ⟨ob, 5, none⟩ (.int .i64 fw)).setCell ⟨ob, 6, none⟩ (.int .i64 lg)).setCell ⟨ob, 7, none⟩ (.slice ta z tc)) (ob) 61 #[.int .i64 0, .int .i64 (far + rm), .int .i64 (-1), .int .i64 (fp : Int), .int .i64 (fa + rm * fw), .int .i64 fw, .int .i64 lg, .slice ta z tc, .slice g2 (no + 1) gc] ∧ VOwn w.heap.size 112 3 (((((w27.setCell ⟨ob, 3, none⟩ (.int .i64 (fp : Int))).setCell ⟨ob, 4, none⟩ (.int .i64 (fa + rm * fw))).setCell ⟨ob, 5, none⟩ (.int .i64 fw)).setCell ⟨ob, 6, none⟩ (.int .i64 lg)).setCell ⟨ob, 7, none⟩ (.slice ta z tc)) (.slice g2 (no + 1) gc) (no + 1) (intF (ovF no O (fp : Int) t1 t2)) ∧ VOwn w.heap.size 74 2 (((((w27.setCell ⟨ob, 3, none⟩ (.int .i64 (fp : Int))).setCell ⟨ob, 4, none⟩ (.int .i64 (fa + rm * fw))).setCell ⟨ob, 5, none⟩ (.int .i64 fw)).setCell ⟨ob, 6, none⟩ (.int .i64 lg)).setCell ⟨ob, 7, none⟩ (.slice ta z tc)) (.slice ta z tc) z (intF B)) := ⟨(((((M27.out.1.setCell HL73.out _).setCell HL73.out _).setCell HL73.out _).setCell HL73.out _).setCell HL73.out _), (((((M27.out.2.1.other (box_ne M27.out.2.1 M27.out.2.2.2.2.1 (by decide)) _).other (box_ne M27.out.2.1 M27.out.2.2.2.2.1 (by decide)) _).other (box_ne M27.out.2.1 M27.out.2.2.2.2.1 (by decide)) _).other (box_ne M27.out.2.1 M27.out.2.2.2.2.1 (by decide)) _).other (box_ne M27.out.2.1 M27.out.2.2.2.2.1 (by decide)) _), (((((M27.out.2.2.1.other (box_ne M27.out.2.2.1 M27.out.2.2.2.2.1 (by decide)) _).other (box_ne M27.out.2.2.1 M27.out.2.2.2.2.1 (by decide)) _).other (box_ne M27.out.2.2.1 M27.out.2.2.2.2.1 (by decide)) _).other (box_ne M27.out.2.2.1 M27.out.2.2.2.2.1 (by decide)) _).other (box_ne M27.out.2.2.1 M27.out.2.2.2.2.1 (by decide)) _), (((((M27.out.2.2.2.1.other HE74.out _).other HE74.out _).other HE74.out _).other HE74.out _).other HE74.out _), by have h9 := (((((M27.out.2.2.2.2.1.set 3 (.int .i64 (fp : Int))).set 4 (.int .i64 (fa + rm * fw))).set 5 (.int .i64 fw)).set 6 (.int .i64 lg)).set 7 (.slice ta z tc)); exact h9, (((((M27.out.2.2.2.2.2.1.set M27.out.2.2.2.2.1 (by decide) 3 _).set (M27.out.2.2.2.2.1.set 3 (.int .i64 (fp : Int))) (by decide) 4 _).set ((M27.out.2.2.2.2.1.set 3 (.int .i64 (fp : Int))).set 4 (.int .i64 (fa + rm * fw))) (by decide) 5 _).set (((M27.out.2.2.2.2.1.set 3 (.int .i64 (fp : Int))).set 4 (.int .i64 (fa + rm * fw))).set 5 (.int .i64 fw)) (by decide) 6 _).set ((((M27.out.2.2.2.2.1.set 3 (.int .i64 (fp : Int))).set 4 (.int .i64 (fa + rm * fw))).set 5 (.int .i64 fw)).set 6 (.int .i64 lg)) (by decide) 7 _), (((((M27.out.2.2.2.2.2.2.set M27.out.2.2.2.2.1 (by decide) 3 _).set (M27.out.2.2.2.2.1.set 3 (.int .i64 (fp : Int))) (by decide) 4 _).set ((M27.out.2.2.2.2.1.set 3 (.int .i64 (fp : Int))).set 4 (.int .i64 (fa + rm * fw))) (by decide) 5 _).set (((M27.out.2.2.2.2.1.set 3 (.int .i64 (fp : Int))).set 4 (.int .i64 (fa + rm * fw))).set 5 (.int .i64 fw)) (by decide) 6 _).set ((((M27.out.2.2.2.2.1.set 3 (.int .i64 (fp : Int))).set 4 (.int .i64 (fa + rm * fw))).set 5 (.int .i64 fw)).set 6 (.int .i64 lg)) (by decide) 7 _)⟩
      clear M27
      generalize hgen : (((((w27.setCell ⟨ob, 3, none⟩ (.int .i64 (fp : Int))).setCell ⟨ob, 4, none⟩ (.int .i64 (fa + rm * fw))).setCell ⟨ob, 5, none⟩ (.int .i64 fw)).setCell ⟨ob, 6, none⟩ (.int .i64 lg)).setCell ⟨ob, 7, none⟩ (.slice ta z tc)) = W28 at M28
      have HMW : Hid (mvM v T (W28.cell? ⟨ob, 1, none⟩) (W28.cell? ⟨ob, 3, none⟩) (W28.cell? ⟨ob, 4, none⟩) (W28.cell? ⟨ob, 5, none⟩) = 2 * (T - (far + rm)).toNat + (if mvR v (mvA v lg T (⟨fp, fa, fw, nb, B, far, no, O⟩ : Mv)) = 0 then 1 else 0)) := by
       have h9 := M28.out.2.2.2.2.1
       rw [← HBY.out] at h9
       have h8 := mvM_at (T := T) (v := v) (mvA v lg T (⟨fp, fa, fw, nb, B, far, no, O⟩ : Mv)) (h9.cell 1) (h9.cell 3) (h9.cell 4) (h9.cell 5)
       rw [← HBY.out]
       exact h8
      go_wp2_with fail
      go_roundw
      case rel => exact ⟨(mvA v lg T (⟨fp, fa, fw, nb, B, far, no, O⟩ : Mv)), ta, tc, g2, gc, fun r c j h => HS.out r c j (.along hlt HR1.out h), HOA.out, HNO2.out, ⟨M28.out.1, M28.out.2.1, M28.out.2.2.1, M28.out.2.2.2.1, by have h9 := M28.out.2.2.2.2.1; rw [HZN.out, ← HBY.out] at h9; exact h9, by have h9 := M28.out.2.2.2.2.2.2; rw [HZN.out] at h9; exact h9, by have h9 := M28.out.2.2.2.2.2.1; rw [← HT12.out.1, ← HT12.out.2, ← HAL.out, ← HBY.out] at h9; exact h9⟩⟩
      case measure =>
       rw [HMW.out, HMT0.out, if_neg HR1.out]
       split <;> omega
  ·
   have hlt' : decide (far < T) = false := by simp; omega
   have hobf : wr.cell? ⟨ob, 1, none⟩ = some (.int .i64 far) := D.out.2.2.2.2.1.cell 1
   go_wp2_with fail
   go_meet
   case rel => exact ⟨0, (-1), ⟨fp, fa, fw, nb, B, far, no, O⟩, oa, oc, xa, xc, ⟨fun _ => HS.out _ _ _ (.done (by show ¬ far < T; omega)), fun h => absurd (h.symm.trans HRB.out) (by decide)⟩, HOK, ⟨D.out.1, D.out.2.1, D.out.2.2.1, D.out.2.2.2.1, D.out.2.2.2.2.1, D.out.2.2.2.2.2.1, D.out.2.2.2.2.2.2⟩⟩
end Go.Proofs.YtjhmaofjmalglaaGreat
