import Derived.Test.YtjhmaofjmalglaaGreatZbs
import Derived.Test.YtjhmaofjmalglaaGreatZbw
namespace Go.Proofs.YtjhmaofjmalglaaGreat
open Go.RowKit Go.Lib
set_option maxRecDepth 100000 in
set_option maxHeartbeats 16000000 in
theorem implMove25 {v : Nv} (pa : Option Addr) (pc : Nat) (ja : Option Addr) (jc : Nat) (la : Option Addr) (nl lc : Nat) (L : Nat → Int) (fp fa fw lg : Int) (nb : Nat) (B : Nat → Nat → Int) (b0 o0 bk : Nat) (T : Int) (w : World) (hn : v.n ≤ 1048576) (hm : v.m ≤ 1048576) (hnl : nl ≤ 1048576) (hnb : nb ≤ 1048576) (hpc : v.n ≤ pc) (hpm : pc ≤ maxLen) (hjc : v.m ≤ jc) (hjm : jc ≤ maxLen) (hP : PsAt 0 w pa v.n v.P) (hJ : JsAt 0 w ja v.m v.J) (hps : ∀ i, i < v.n → (v.P i).nm.size ≤ maxLen) (hjs : ∀ i, i < v.m → (v.J i).ne ≤ 1048576 ∧ (v.J i).nm.size ≤ maxLen) (hL : IsAt 0 w la nl L) (hB : Lst w b0 o0 nb B) (hbk : nb ≤ bk) :
  Calls Tryz.prog 25 #[.agg #[.slice pa v.n pc, .slice ja v.m jc], .slice la nl lc, .agg #[.int .i64 fp, .int .i64 fa, .int .i64 fw, .int .i64 lg, .slice (some ⟨b0, o0, none⟩) nb bk], .int .i64 T] w fun e w' => MoR w v nl L fp fa fw lg nb B T e w' := by
 have H : Hid (PsAt 0 w pa v.n v.P ∧ JsAt 0 w ja v.m v.J ∧ (∀ i, i < v.n → (v.P i).nm.size ≤ maxLen) ∧ (∀ i, i < v.m → (v.J i).ne ≤ 1048576 ∧ (v.J i).nm.size ≤ maxLen) ∧ IsAt 0 w la nl L ∧ Lst w b0 o0 nb B ∧ nb ≤ bk) := ⟨hP, hJ, hps, hjs, hL, hB, hbk⟩
 obtain ⟨u1, HU1⟩ : ∃ u, Hid (liesF v.n v.P v.m v.J nl L = u) := ⟨_, rfl⟩
 obtain ⟨u2, HU2⟩ : ∃ u, Hid (trnB v fp fa fw lg nb B = u) := ⟨_, rfl⟩
 obtain ⟨u3, HU3⟩ : ∃ u, Hid (inB T 0 10000 = u) := ⟨_, rfl⟩
 have S0 : Hid (Sts [kBx (w.heap.size + 1 + 1) 61 #[.int .i64 0, .int .i64 0, .int .i64 0, .int .i64 0, .int .i64 0, .int .i64 0, .int .i64 0, .slice none 0 0, .slice none 0 0], kBx (w.heap.size + 1) 33 #[.int .i64 fp, .int .i64 fa, .int .i64 fw, .int .i64 lg, .slice (some ⟨b0, o0, none⟩) nb bk], kBx (w.heap.size) 40 #[.slice pa v.n pc, .slice ja v.m jc], kBn w.heap.size w] (((w.alloc (.cells #[.slice pa v.n pc, .slice ja v.m jc] 40)).alloc (.cells #[.int .i64 fp, .int .i64 fa, .int .i64 fw, .int .i64 lg, .slice (some ⟨b0, o0, none⟩) nb bk] 33)).alloc (.cells #[.int .i64 0, .int .i64 0, .int .i64 0, .int .i64 0, .int .i64 0, .int .i64 0, .int .i64 0, .slice none 0 0, .slice none 0 0] 61))) := ⟨by show Box _ _ _ _; have := (Box.new ((w.alloc (.cells #[.slice pa v.n pc, .slice ja v.m jc] 40)).alloc (.cells #[.int .i64 fp, .int .i64 fa, .int .i64 fw, .int .i64 lg, .slice (some ⟨b0, o0, none⟩) nb bk] 33)) 61 #[.int .i64 0, .int .i64 0, .int .i64 0, .int .i64 0, .int .i64 0, .int .i64 0, .int .i64 0, .slice none 0 0, .slice none 0 0]); simpa using this, by show Box _ _ _ _; have := ((Box.new (w.alloc (.cells #[.slice pa v.n pc, .slice ja v.m jc] 40)) 33 #[.int .i64 fp, .int .i64 fa, .int .i64 fw, .int .i64 lg, .slice (some ⟨b0, o0, none⟩) nb bk]).alloc (.cells #[.int .i64 0, .int .i64 0, .int .i64 0, .int .i64 0, .int .i64 0, .int .i64 0, .int .i64 0, .slice none 0 0, .slice none 0 0] 61)); simpa using this, (((Box.new w 40 #[.slice pa v.n pc, .slice ja v.m jc]).alloc (.cells #[.int .i64 fp, .int .i64 fa, .int .i64 fw, .int .i64 lg, .slice (some ⟨b0, o0, none⟩) nb bk] 33)).alloc (.cells #[.int .i64 0, .int .i64 0, .int .i64 0, .int .i64 0, .int .i64 0, .int .i64 0, .int .i64 0, .slice none 0 0, .slice none 0 0] 61)), ⟨((Below.refl _ _).alloc nr _ |>.alloc (by simp) _ |>.alloc (by simp; omega) _), rfl⟩, trivial⟩
 clear hP hJ hps hjs hL hB hbk
 go_enter Tryz.func25, Tryz.ntmps25
 go_upto_region 1 with fail
 generalize (((w.alloc (.cells #[.slice pa v.n pc, .slice ja v.m jc] 40)).alloc (.cells #[.int .i64 fp, .int .i64 fa, .int .i64 fw, .int .i64 lg, .slice (some ⟨b0, o0, none⟩) nb bk] 33)).alloc (.cells #[.int .i64 0, .int .i64 0, .int .i64 0, .int .i64 0, .int .i64 0, .int .i64 0, .int .i64 0, .slice none 0 0, .slice none 0 0] 61)) = V0 at S0 ⊢
 have x0 := (gB S0.out.2.2.1).cel 0
 have x1 := (gB S0.out.2.2.1).cel 1
 have y0 := (gB S0.out.2.1).cel 0
 have y1 := (gB S0.out.2.1).cel 1
 have y2 := (gB S0.out.2.1).cel 2
 have y3 := (gB S0.out.2.1).cel 3
 have y4 := (gB S0.out.2.1).cel 4
 go_wp2_with fail
 clear x0 x1 y0 y1 y2 y3 y4
 refine (impl11 pa v.n pc v.P ja v.m jc v.J la nl lc L V0 hn hm hnl hpc hpm hjc hjm (H.out.1.mono nr (gL S0.out.2.2.2.1) nr) (H.out.2.1.mono nr (gL S0.out.2.2.2.1) nr) H.out.2.2.1 H.out.2.2.2.1 (H.out.2.2.2.2.1.mono nr (gL S0.out.2.2.2.1) nr)).mono ?_
 rintro e w1 ⟨he, hb⟩
 rw [HU1.out] at he
 subst he
 have S1 := stm S0 hb
 clear hb S0
 cases u1 with
 | false =>
  have HG : Hid (gdB v nl L fp fa fw lg nb B T = false) := by show _ = _; rw [gdB, HU1.out]; rfl
  have z0 := (gB S1.out.1).cel 0
  have z1 := (gB S1.out.1).cel 1
  have z2 := (gB S1.out.1).cel 2
  have z3 := (gB S1.out.1).cel 3
  have z4 := (gB S1.out.1).cel 4
  have z5 := (gB S1.out.1).cel 5
  have z6 := (gB S1.out.1).cel 6
  have z7 := (gB S1.out.1).cel 7
  have z8 := (gB S1.out.1).cel 8
  have zf0 := (gB S1.out.1).free 0
  have zf1 := (gB S1.out.1).free 1
  have zf2 := (gB S1.out.1).free 2
  have zf3 := (gB S1.out.1).free 3
  have zf4 := (gB S1.out.1).free 4
  have zf5 := (gB S1.out.1).free 5
  have zf6 := (gB S1.out.1).free 6
  have zf7 := (gB S1.out.1).free 7
  have zf8 := (gB S1.out.1).free 8
  have hF137 := (((((((((Fr.refl (fun x => x = w.heap.size + 1 + 1) w1).put 0 (.int .i64 5)).put 1 (.int .i64 0)).put 2 (.int .i64 0)).put 3 (.int .i64 0)).put 4 (.int .i64 0)).put 5 (.int .i64 0)).put 6 (.int .i64 0)).put 7 (.slice none 0 0)).put 8 (.slice none 0 0)
  have MA136 : Hid (Sts [kBx (w.heap.size + 1 + 1) 61 #[.int .i64 5, .int .i64 0, .int .i64 0, .int .i64 0, .int .i64 0, .int .i64 0, .int .i64 0, .slice none 0 0, .slice none 0 0], kBx (w.heap.size + 1) 33 #[.int .i64 fp, .int .i64 fa, .int .i64 fw, .int .i64 lg, .slice (some ⟨b0, o0, none⟩) nb bk], kBx (w.heap.size) 40 #[.slice pa v.n pc, .slice ja v.m jc], kBn w.heap.size w] _) := ⟨by have h9 := ((((((((((gB S1.out.1).set 0 (.int .i64 5)).set 1 (.int .i64 0)).set 2 (.int .i64 0)).set 3 (.int .i64 0)).set 4 (.int .i64 0)).set 5 (.int .i64 0)).set 6 (.int .i64 0)).set 7 (.slice none 0 0)).set 8 (.slice none 0 0)); exact h9, bxf (gB S1.out.2.1) (gB S1.out.1) hF137, bxf (gB S1.out.2.2.1) (gB S1.out.1) hF137, ⟨blf S1.out.2.2.2.1 (Nat.le_add_right _ 2) hF137, rfl⟩, trivial⟩
  clear hF137
  clear S1
  go_wp2_with fail
  clear z0 z1 z2 z3 z4 z5 z6 z7 z8 zf0 zf1 zf2 zf3 zf4 zf5 zf6 zf7 zf8
  generalize (((((((((w1.setCell ⟨w.heap.size + 1 + 1, 0, none⟩ (.int .i64 5)).setCell ⟨w.heap.size + 1 + 1, 1, none⟩ (.int .i64 0)).setCell ⟨w.heap.size + 1 + 1, 2, none⟩ (.int .i64 0)).setCell ⟨w.heap.size + 1 + 1, 3, none⟩ (.int .i64 0)).setCell ⟨w.heap.size + 1 + 1, 4, none⟩ (.int .i64 0)).setCell ⟨w.heap.size + 1 + 1, 5, none⟩ (.int .i64 0)).setCell ⟨w.heap.size + 1 + 1, 6, none⟩ (.int .i64 0)).setCell ⟨w.heap.size + 1 + 1, 7, none⟩ (.slice none 0 0)).setCell ⟨w.heap.size + 1 + 1, 8, none⟩ (.slice none 0 0)) = W9 at MA136 ⊢
  have z0 := (gB MA136.out.1).cel 0
  have z1 := (gB MA136.out.1).cel 1
  have z2 := (gB MA136.out.1).cel 2
  have z3 := (gB MA136.out.1).cel 3
  have z4 := (gB MA136.out.1).cel 4
  have z5 := (gB MA136.out.1).cel 5
  have z6 := (gB MA136.out.1).cel 6
  have z7 := (gB MA136.out.1).cel 7
  have z8 := (gB MA136.out.1).cel 8
  exact bodyPost_ret (v := .agg #[.int .i64 5, .int .i64 0, .int .i64 0, .int .i64 0, .int .i64 0, .int .i64 0, .int .i64 0, .slice none 0 0, .slice none 0 0]) (by simp [results, Tryz.results25, go_sem, z0, z1, z2, z3, z4, z5, z6, z7, z8]) rfl (mo_no HG.out (gL MA136.out.2.2.2.1))
 | true =>
 have HTF : Hid (trainF v fp fa fw lg nb B = trnB v fp fa fw lg nb B) := by
  show _ = _
  rw [trainF, lies_ok HU1.out]
  rfl
 have x0 := (gB S1.out.2.2.1).cel 0
 have x1 := (gB S1.out.2.2.1).cel 1
 have y0 := (gB S1.out.2.1).cel 0
 have y1 := (gB S1.out.2.1).cel 1
 have y2 := (gB S1.out.2.1).cel 2
 have y3 := (gB S1.out.2.1).cel 3
 have y4 := (gB S1.out.2.1).cel 4
 go_wp2_with fail
 clear x0 x1 y0 y1 y2 y3 y4
 refine (implTrain17 pa pc ja jc fp fa fw lg nb B (some ⟨b0, o0, none⟩) bk w1 hn hm hnb hpc hpm hjc hjm (H.out.1.mono nr (gL S1.out.2.2.2.1) nr) (H.out.2.1.mono nr (gL S1.out.2.2.2.1) nr) H.out.2.2.1 H.out.2.2.2.1 (H.out.2.2.2.2.2.1.mono (gL S1.out.2.2.2.1) nr).ns).mono ?_
 rintro e w2 ⟨he, hb⟩
 rw [HTF.out, HU2.out] at he
 subst he
 have S2 := stm S1 hb
 clear hb S1
 cases u2 with
 | false =>
  have HG : Hid (gdB v nl L fp fa fw lg nb B T = false) := by show _ = _; rw [gdB, HU1.out, HU2.out]; rfl
  have z0 := (gB S2.out.1).cel 0
  have z1 := (gB S2.out.1).cel 1
  have z2 := (gB S2.out.1).cel 2
  have z3 := (gB S2.out.1).cel 3
  have z4 := (gB S2.out.1).cel 4
  have z5 := (gB S2.out.1).cel 5
  have z6 := (gB S2.out.1).cel 6
  have z7 := (gB S2.out.1).cel 7
  have z8 := (gB S2.out.1).cel 8
  have zf0 := (gB S2.out.1).free 0
  have zf1 := (gB S2.out.1).free 1
  have zf2 := (gB S2.out.1).free 2
  have zf3 := (gB S2.out.1).free 3
  have zf4 := (gB S2.out.1).free 4
  have zf5 := (gB S2.out.1).free 5
  have zf6 := (gB S2.out.1).free 6
  have zf7 := (gB S2.out.1).free 7
  have zf8 := (gB S2.out.1).free 8
  have hF139 := (((((((((Fr.refl (fun x => x = w.heap.size + 1 + 1) w2).put 0 (.int .i64 5)).put 1 (.int .i64 0)).put 2 (.int .i64 0)).put 3 (.int .i64 0)).put 4 (.int .i64 0)).put 5 (.int .i64 0)).put 6 (.int .i64 0)).put 7 (.slice none 0 0)).put 8 (.slice none 0 0)
  have MA138 : Hid (Sts [kBx (w.heap.size + 1 + 1) 61 #[.int .i64 5, .int .i64 0, .int .i64 0, .int .i64 0, .int .i64 0, .int .i64 0, .int .i64 0, .slice none 0 0, .slice none 0 0], kBx (w.heap.size + 1) 33 #[.int .i64 fp, .int .i64 fa, .int .i64 fw, .int .i64 lg, .slice (some ⟨b0, o0, none⟩) nb bk], kBx (w.heap.size) 40 #[.slice pa v.n pc, .slice ja v.m jc], kBn w.heap.size w] _) := ⟨by have h9 := ((((((((((gB S2.out.1).set 0 (.int .i64 5)).set 1 (.int .i64 0)).set 2 (.int .i64 0)).set 3 (.int .i64 0)).set 4 (.int .i64 0)).set 5 (.int .i64 0)).set 6 (.int .i64 0)).set 7 (.slice none 0 0)).set 8 (.slice none 0 0)); exact h9, bxf (gB S2.out.2.1) (gB S2.out.1) hF139, bxf (gB S2.out.2.2.1) (gB S2.out.1) hF139, ⟨blf S2.out.2.2.2.1 (Nat.le_add_right _ 2) hF139, rfl⟩, trivial⟩
  clear hF139
  clear S2
  go_wp2_with fail
  clear z0 z1 z2 z3 z4 z5 z6 z7 z8 zf0 zf1 zf2 zf3 zf4 zf5 zf6 zf7 zf8
  generalize (((((((((w2.setCell ⟨w.heap.size + 1 + 1, 0, none⟩ (.int .i64 5)).setCell ⟨w.heap.size + 1 + 1, 1, none⟩ (.int .i64 0)).setCell ⟨w.heap.size + 1 + 1, 2, none⟩ (.int .i64 0)).setCell ⟨w.heap.size + 1 + 1, 3, none⟩ (.int .i64 0)).setCell ⟨w.heap.size + 1 + 1, 4, none⟩ (.int .i64 0)).setCell ⟨w.heap.size + 1 + 1, 5, none⟩ (.int .i64 0)).setCell ⟨w.heap.size + 1 + 1, 6, none⟩ (.int .i64 0)).setCell ⟨w.heap.size + 1 + 1, 7, none⟩ (.slice none 0 0)).setCell ⟨w.heap.size + 1 + 1, 8, none⟩ (.slice none 0 0)) = W9 at MA138 ⊢
  have z0 := (gB MA138.out.1).cel 0
  have z1 := (gB MA138.out.1).cel 1
  have z2 := (gB MA138.out.1).cel 2
  have z3 := (gB MA138.out.1).cel 3
  have z4 := (gB MA138.out.1).cel 4
  have z5 := (gB MA138.out.1).cel 5
  have z6 := (gB MA138.out.1).cel 6
  have z7 := (gB MA138.out.1).cel 7
  have z8 := (gB MA138.out.1).cel 8
  exact bodyPost_ret (v := .agg #[.int .i64 5, .int .i64 0, .int .i64 0, .int .i64 0, .int .i64 0, .int .i64 0, .int .i64 0, .slice none 0 0, .slice none 0 0]) (by simp [results, Tryz.results25, go_sem, z0, z1, z2, z3, z4, z5, z6, z7, z8]) rfl (mo_no HG.out (gL MA138.out.2.2.2.1))
 | true =>
 go_wp2_with fail
 refine (within43 T 0 10000 w2).mono ?_
 rintro e w3 ⟨he, hb⟩
 rw [HU3.out] at he
 subst he
 have hb2 : Below w2.heap.size w2 w3 := by rw [hb]; exact Below.refl _ _
 clear hb
 have hb := hb2
 clear hb2
 have S3 := stm S2 hb
 clear hb S2
 cases u3 with
 | false =>
  have HG : Hid (gdB v nl L fp fa fw lg nb B T = false) := by show _ = _; rw [gdB, HU1.out, HU2.out, HU3.out]; rfl
  have z0 := (gB S3.out.1).cel 0
  have z1 := (gB S3.out.1).cel 1
  have z2 := (gB S3.out.1).cel 2
  have z3 := (gB S3.out.1).cel 3
  have z4 := (gB S3.out.1).cel 4
  have z5 := (gB S3.out.1).cel 5
  have z6 := (gB S3.out.1).cel 6
  have z7 := (gB S3.out.1).cel 7
  have z8 := (gB S3.out.1).cel 8
  have zf0 := (gB S3.out.1).free 0
  have zf1 := (gB S3.out.1).free 1
  have zf2 := (gB S3.out.1).free 2
  have zf3 := (gB S3.out.1).free 3
  have zf4 := (gB S3.out.1).free 4
  have zf5 := (gB S3.out.1).free 5
  have zf6 := (gB S3.out.1).free 6
  have zf7 := (gB S3.out.1).free 7
  have zf8 := (gB S3.out.1).free 8
  have hF141 := (((((((((Fr.refl (fun x => x = w.heap.size + 1 + 1) w3).put 0 (.int .i64 5)).put 1 (.int .i64 0)).put 2 (.int .i64 0)).put 3 (.int .i64 0)).put 4 (.int .i64 0)).put 5 (.int .i64 0)).put 6 (.int .i64 0)).put 7 (.slice none 0 0)).put 8 (.slice none 0 0)
  have MA140 : Hid (Sts [kBx (w.heap.size + 1 + 1) 61 #[.int .i64 5, .int .i64 0, .int .i64 0, .int .i64 0, .int .i64 0, .int .i64 0, .int .i64 0, .slice none 0 0, .slice none 0 0], kBx (w.heap.size + 1) 33 #[.int .i64 fp, .int .i64 fa, .int .i64 fw, .int .i64 lg, .slice (some ⟨b0, o0, none⟩) nb bk], kBx (w.heap.size) 40 #[.slice pa v.n pc, .slice ja v.m jc], kBn w.heap.size w] _) := ⟨by have h9 := ((((((((((gB S3.out.1).set 0 (.int .i64 5)).set 1 (.int .i64 0)).set 2 (.int .i64 0)).set 3 (.int .i64 0)).set 4 (.int .i64 0)).set 5 (.int .i64 0)).set 6 (.int .i64 0)).set 7 (.slice none 0 0)).set 8 (.slice none 0 0)); exact h9, bxf (gB S3.out.2.1) (gB S3.out.1) hF141, bxf (gB S3.out.2.2.1) (gB S3.out.1) hF141, ⟨blf S3.out.2.2.2.1 (Nat.le_add_right _ 2) hF141, rfl⟩, trivial⟩
  clear hF141
  clear S3
  go_wp2_with fail
  clear z0 z1 z2 z3 z4 z5 z6 z7 z8 zf0 zf1 zf2 zf3 zf4 zf5 zf6 zf7 zf8
  generalize (((((((((w3.setCell ⟨w.heap.size + 1 + 1, 0, none⟩ (.int .i64 5)).setCell ⟨w.heap.size + 1 + 1, 1, none⟩ (.int .i64 0)).setCell ⟨w.heap.size + 1 + 1, 2, none⟩ (.int .i64 0)).setCell ⟨w.heap.size + 1 + 1, 3, none⟩ (.int .i64 0)).setCell ⟨w.heap.size + 1 + 1, 4, none⟩ (.int .i64 0)).setCell ⟨w.heap.size + 1 + 1, 5, none⟩ (.int .i64 0)).setCell ⟨w.heap.size + 1 + 1, 6, none⟩ (.int .i64 0)).setCell ⟨w.heap.size + 1 + 1, 7, none⟩ (.slice none 0 0)).setCell ⟨w.heap.size + 1 + 1, 8, none⟩ (.slice none 0 0)) = W9 at MA140 ⊢
  have z0 := (gB MA140.out.1).cel 0
  have z1 := (gB MA140.out.1).cel 1
  have z2 := (gB MA140.out.1).cel 2
  have z3 := (gB MA140.out.1).cel 3
  have z4 := (gB MA140.out.1).cel 4
  have z5 := (gB MA140.out.1).cel 5
  have z6 := (gB MA140.out.1).cel 6
  have z7 := (gB MA140.out.1).cel 7
  have z8 := (gB MA140.out.1).cel 8
  exact bodyPost_ret (v := .agg #[.int .i64 5, .int .i64 0, .int .i64 0, .int .i64 0, .int .i64 0, .int .i64 0, .int .i64 0, .slice none 0 0, .slice none 0 0]) (by simp [results, Tryz.results25, go_sem, z0, z1, z2, z3, z4, z5, z6, z7, z8]) rfl (mo_no HG.out (gL MA140.out.2.2.2.1))
 | true =>
 have HG : Hid (gdB v nl L fp fa fw lg nb B T = true) := by show _ = _; rw [gdB, HU1.out, HU2.out, HU3.out]; rfl
 have OK : Hid (v.Ok ∧ (nl = v.m ∧ ∀ i, i < v.m → lieB v.J L i = true) ∧ Trn v fp fa fw lg nb B ∧ 0 ≤ T ∧ T ≤ 10000) := gd_parts HG.out
 obtain ⟨fq, rfl, hfq, hfw, hfa⟩ : ∃ q : Nat, fp = (q : Int) ∧ q < v.n ∧ (fw = 1 ∨ fw = -1) ∧ (0 ≤ fa ∧ fa ≤ (v.P q).ln) := spot_nat OK.out.2.2.1.spot
 obtain ⟨_, ⟨hnlm, _⟩, _⟩ := OK.out
 subst hnlm
 go_upto_region 3 with fail
 have x0 := (gB S3.out.2.2.1).cel 0
 have x1 := (gB S3.out.2.2.1).cel 1
 have y0 := (gB S3.out.2.1).cel 0
 have y1 := (gB S3.out.2.1).cel 1
 have y2 := (gB S3.out.2.1).cel 2
 have y3 := (gB S3.out.2.1).cel 3
 have y4 := (gB S3.out.2.1).cel 4
 go_wp2_with fail
 refine wp_region_held_drew (S := (fun wx : World => wx.cell? ⟨w.heap.size, 0, none⟩ = some (.slice pa v.n pc) ∧ wx.cell? ⟨w.heap.size, 1, none⟩ = some (.slice ja v.m jc) ∧ wx.cell? ⟨w.heap.size + 1, 0, none⟩ = some (.int .i64 (fq : Int)) ∧ wx.cell? ⟨w.heap.size + 1, 1, none⟩ = some (.int .i64 fa) ∧ wx.cell? ⟨w.heap.size + 1, 2, none⟩ = some (.int .i64 fw) ∧ wx.cell? ⟨w.heap.size + 1, 3, none⟩ = some (.int .i64 lg) ∧ wx.cell? ⟨w.heap.size + 1, 4, none⟩ = some (.slice (some ⟨b0, o0, none⟩) nb bk))) (by kernel_rfl) ?_ (fun hHeld => ?_)
 ·
  exact ⟨x0, x1, y0, y1, y2, y3, y4⟩
 have MD142 := std S3
 clear x0 x1 y0 y1 y2 y3 y4 S3
 generalize w3.drew = VD at MD142 hHeld ⊢
 refine tk 0 ?_
 refine tk 1 ?_
 refine tk 3 ?_
 refine tk 5 ?_
 refine rl 2 fun K hK => ?_
 go_simp
 refine (railsOf48 OK.out.1 pa pc ja jc la v.m lc _ (H.out.1.mono nr (gL MD142.out.2.2.2.1) nr) (H.out.2.1.mono nr (gL MD142.out.2.2.2.1) nr)).mono ?_
 rintro e wh143 ⟨bt, sb, rfl, htk, hb⟩
 have MA144 := stx (k := kTk bt sb v pa pc ja jc) (stm MD142 hb) (htk)
 clear hb htk MD142
 go_wp2_with fail
 refine hK.out _ _ ?_ (fun hHeld => ?_)
 ·
  exact ⟨(gB MA144.out.2.2.2.1).cell 0, (gB MA144.out.2.2.2.1).cell 1, (gB MA144.out.2.2.1).cell 0, (gB MA144.out.2.2.1).cell 1, (gB MA144.out.2.2.1).cell 2, (gB MA144.out.2.2.1).cell 3, (gB MA144.out.2.2.1).cell 4⟩
 clear hK K
 refine rl 4 fun K hK => ?_
 go_simp
 refine (bodyOf46 (fq : Int) fa fw lg (some ⟨b0, o0, none⟩) nb bk _).mono ?_
 rintro e wh145 ⟨rfl, hb⟩
 have MA146 := stm MA144 hb
 clear hb MA144
 go_wp2_with fail
 refine hK.out _ _ ?_ (fun hHeld => ?_)
 ·
  exact ⟨(gB MA146.out.2.2.2.1).cell 0, (gB MA146.out.2.2.2.1).cell 1, (gB MA146.out.2.2.1).cell 0, (gB MA146.out.2.2.1).cell 1, (gB MA146.out.2.2.1).cell 2, (gB MA146.out.2.2.1).cell 3, (gB MA146.out.2.2.1).cell 4⟩
 clear hK K
 refine rl 6 fun K hK => ?_
 go_simp
 refine (move68 OK.out.1 fq fa fw lg nb B b0 o0 bk la lc L T _ (gT MA146.out.1) (H.out.2.2.2.2.1.mono nr (gL MA146.out.2.2.2.2.1) nr) OK.out.2.1.2 OK.out.2.2.1 OK.out.2.2.2 (H.out.2.2.2.2.2.1.mono (gL MA146.out.2.2.2.2.1) nr) H.out.2.2.2.2.2.2).mono ?_
 rintro e wh147 ⟨⟨rfp, rfa, rfw, rnb, rB, rfar, rno, rO⟩, c, j, a1, c1, a2, c2, hF, rfl, ho1, ho2, hb⟩
 have HF : Hid (MvF v L lg T (mv0 fq fa fw nb B) ⟨rfp, rfa, rfw, rnb, rB, rfar, rno, rO⟩ c j) := hF
 have MA148 : Hid (Sts [kOw w.heap.size 112 3 (.slice a2 rno c2) rno (intF rO), kOw w.heap.size 74 2 (.slice a1 rnb c1) rnb (intF rB), kBx (w.heap.size + 1 + 1) 61 #[.int .i64 0, .int .i64 0, .int .i64 0, .int .i64 0, .int .i64 0, .int .i64 0, .int .i64 0, .slice none 0 0, .slice none 0 0], kBx (w.heap.size + 1) 33 #[.int .i64 (fq : Int), .int .i64 fa, .int .i64 fw, .int .i64 lg, .slice (some ⟨b0, o0, none⟩) nb bk], kBx (w.heap.size) 40 #[.slice pa v.n pc, .slice ja v.m jc], kBn w.heap.size w] wh147) := ⟨ho2.keep (gL MA146.out.2.2.2.2.1).size (fun _ _ => rfl), ho1.keep (gL MA146.out.2.2.2.2.1).size (fun _ _ => rfl), (gB MA146.out.2.1).mono hb nr, (gB MA146.out.2.2.1).mono hb nr, (gB MA146.out.2.2.2.1).mono hb nr, ⟨(gL MA146.out.2.2.2.2.1).trans (hb.mono (gL MA146.out.2.2.2.2.1).size), rfl⟩, trivial⟩
 clear hb ho1 ho2 hF MA146
 go_wp2_with fail
 refine hK.out _ _ ?_ (fun hHeld => ?_)
 ·
  exact ⟨(gB MA148.out.2.2.2.2.1).cell 0, (gB MA148.out.2.2.2.2.1).cell 1, (gB MA148.out.2.2.2.1).cell 0, (gB MA148.out.2.2.2.1).cell 1, (gB MA148.out.2.2.2.1).cell 2, (gB MA148.out.2.2.2.1).cell 3, (gB MA148.out.2.2.2.1).cell 4⟩
 clear hK K
 have z0 := (gB MA148.out.2.2.1).cel 0
 have z1 := (gB MA148.out.2.2.1).cel 1
 have z2 := (gB MA148.out.2.2.1).cel 2
 have z3 := (gB MA148.out.2.2.1).cel 3
 have z4 := (gB MA148.out.2.2.1).cel 4
 have z5 := (gB MA148.out.2.2.1).cel 5
 have z6 := (gB MA148.out.2.2.1).cel 6
 have z7 := (gB MA148.out.2.2.1).cel 7
 have z8 := (gB MA148.out.2.2.1).cel 8
 have zf0 := (gB MA148.out.2.2.1).free 0
 have zf1 := (gB MA148.out.2.2.1).free 1
 have zf2 := (gB MA148.out.2.2.1).free 2
 have zf3 := (gB MA148.out.2.2.1).free 3
 have zf4 := (gB MA148.out.2.2.1).free 4
 have zf5 := (gB MA148.out.2.2.1).free 5
 have zf6 := (gB MA148.out.2.2.1).free 6
 have zf7 := (gB MA148.out.2.2.1).free 7
 have zf8 := (gB MA148.out.2.2.1).free 8
 have hF150 := (((((((((Fr.refl (fun x => x = w.heap.size + 1 + 1) wh147).put 0 (.int .i64 c)).put 1 (.int .i64 rfar)).put 2 (.int .i64 j)).put 3 (.int .i64 (rfp : Int))).put 4 (.int .i64 rfa)).put 5 (.int .i64 rfw)).put 6 (.int .i64 lg)).put 7 (.slice a1 rnb c1)).put 8 (.slice a2 rno c2)
 have MA149 : Hid (Sts [kOw w.heap.size 112 3 (.slice a2 rno c2) rno (intF rO), kOw w.heap.size 74 2 (.slice a1 rnb c1) rnb (intF rB), kBx (w.heap.size + 1 + 1) 61 #[.int .i64 c, .int .i64 rfar, .int .i64 j, .int .i64 (rfp : Int), .int .i64 rfa, .int .i64 rfw, .int .i64 lg, .slice a1 rnb c1, .slice a2 rno c2], kBx (w.heap.size + 1) 33 #[.int .i64 (fq : Int), .int .i64 fa, .int .i64 fw, .int .i64 lg, .slice (some ⟨b0, o0, none⟩) nb bk], kBx (w.heap.size) 40 #[.slice pa v.n pc, .slice ja v.m jc], kBn w.heap.size w] _) := ⟨owf (gO MA148.out.1) (gB MA148.out.2.2.1) hF150, owf (gO MA148.out.2.1) (gB MA148.out.2.2.1) hF150, by have h9 := ((((((((((gB MA148.out.2.2.1).set 0 (.int .i64 c)).set 1 (.int .i64 rfar)).set 2 (.int .i64 j)).set 3 (.int .i64 (rfp : Int))).set 4 (.int .i64 rfa)).set 5 (.int .i64 rfw)).set 6 (.int .i64 lg)).set 7 (.slice a1 rnb c1)).set 8 (.slice a2 rno c2)); exact h9, bxf (gB MA148.out.2.2.2.1) (gB MA148.out.2.2.1) hF150, bxf (gB MA148.out.2.2.2.2.1) (gB MA148.out.2.2.1) hF150, ⟨blf MA148.out.2.2.2.2.2.1 (Nat.le_add_right _ 2) hF150, rfl⟩, trivial⟩
 clear hF150
 clear MA148
 refine rl 7 fun K hK => ?_
 go_simp
 refine hK.out _ _ ?_ (fun hHeld => ?_)
 ·
  exact ⟨(gB MA149.out.2.2.2.2.1).cell 0, (gB MA149.out.2.2.2.2.1).cell 1, (gB MA149.out.2.2.2.1).cell 0, (gB MA149.out.2.2.2.1).cell 1, (gB MA149.out.2.2.2.1).cell 2, (gB MA149.out.2.2.2.1).cell 3, (gB MA149.out.2.2.2.1).cell 4⟩
 clear hK K
 refine wpAnyH_done (by kernel_rfl) ?_ _
 clear z0 z1 z2 z3 z4 z5 z6 z7 z8 zf0 zf1 zf2 zf3 zf4 zf5 zf6 zf7 zf8 hHeld
 generalize (((((((((wh147.setCell ⟨w.heap.size + 1 + 1, 0, none⟩ (.int .i64 c)).setCell ⟨w.heap.size + 1 + 1, 1, none⟩ (.int .i64 rfar)).setCell ⟨w.heap.size + 1 + 1, 2, none⟩ (.int .i64 j)).setCell ⟨w.heap.size + 1 + 1, 3, none⟩ (.int .i64 (rfp : Int))).setCell ⟨w.heap.size + 1 + 1, 4, none⟩ (.int .i64 rfa)).setCell ⟨w.heap.size + 1 + 1, 5, none⟩ (.int .i64 rfw)).setCell ⟨w.heap.size + 1 + 1, 6, none⟩ (.int .i64 lg)).setCell ⟨w.heap.size + 1 + 1, 7, none⟩ (.slice a1 rnb c1)).setCell ⟨w.heap.size + 1 + 1, 8, none⟩ (.slice a2 rno c2)) = W151 at MA149 ⊢
 have z0 := (gB MA149.out.2.2.1).cel 0
 have z1 := (gB MA149.out.2.2.1).cel 1
 have z2 := (gB MA149.out.2.2.1).cel 2
 have z3 := (gB MA149.out.2.2.1).cel 3
 have z4 := (gB MA149.out.2.2.1).cel 4
 have z5 := (gB MA149.out.2.2.1).cel 5
 have z6 := (gB MA149.out.2.2.1).cel 6
 have z7 := (gB MA149.out.2.2.1).cel 7
 have z8 := (gB MA149.out.2.2.1).cel 8
 go_wp2_with fail
 exact bodyPost_ret (v := .agg #[.int .i64 c, .int .i64 rfar, .int .i64 j, .int .i64 (rfp : Int), .int .i64 rfa, .int .i64 rfw, .int .i64 lg, .slice a1 rnb c1, .slice a2 rno c2]) (by simp [results, Tryz.results25, go_sem, z0, z1, z2, z3, z4, z5, z6, z7, z8]) rfl (mo_yes HG.out HF.out (gO MA149.out.2.1) (gO MA149.out.1) (gL MA149.out.2.2.2.2.2.1))
end Go.Proofs.YtjhmaofjmalglaaGreat
