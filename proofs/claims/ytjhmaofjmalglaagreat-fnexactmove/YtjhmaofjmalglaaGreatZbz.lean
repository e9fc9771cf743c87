import Derived.Test.YtjhmaofjmalglaaGreatZbs
import Derived.Test.YtjhmaofjmalglaaGreatZby
namespace Go.Proofs.YtjhmaofjmalglaaGreat
open Go.RowKit Go.Lib
set_option maxRecDepth 100000 in
set_option maxHeartbeats 16000000 in
theorem good65 {v : Nv} (pa : Option Addr) (pc : Nat) (ja : Option Addr) (jc : Nat) (la : Option Addr) (nl lc : Nat) (L : Nat → Int) (fp fa fw lg : Int) (nb : Nat) (B : Nat → Nat → Int) (ba : Option Addr) (bk : Nat) (T : Int) (w : World) (hn : v.n ≤ 1048576) (hm : v.m ≤ 1048576) (hnl : nl ≤ 1048576) (hnb : nb ≤ 1048576) (hP : PsAt 0 w pa v.n v.P) (hJ : JsAt 0 w ja v.m v.J) (hps : ∀ i, i < v.n → (v.P i).nm.size ≤ maxLen) (hjs : ∀ i, i < v.m → (v.J i).ne ≤ 1048576 ∧ (v.J i).nm.size ≤ maxLen) (hL : IsAt 0 w la nl L) (hB : NsAt 2 0 w ba nb B) :
  Calls Tryz.prog 65 #[.agg #[.slice pa v.n pc, .slice ja v.m jc], .slice la nl lc, .agg #[.int .i64 fp, .int .i64 fa, .int .i64 fw, .int .i64 lg, .slice ba nb bk], .int .i64 T] w fun e w' => e = .returned (.bool (gdB v nl L fp fa fw lg nb B T)) ∧ Below w.heap.size w w' := by
 have H : Hid (PsAt 0 w pa v.n v.P ∧ JsAt 0 w ja v.m v.J ∧ (∀ i, i < v.n → (v.P i).nm.size ≤ maxLen) ∧ (∀ i, i < v.m → (v.J i).ne ≤ 1048576 ∧ (v.J i).nm.size ≤ maxLen) ∧ IsAt 0 w la nl L ∧ NsAt 2 0 w ba nb B) := ⟨hP, hJ, hps, hjs, hL, hB⟩
 obtain ⟨u1, HU1⟩ : ∃ u, Hid (liesF v.n v.P v.m v.J nl L = u) := ⟨_, rfl⟩
 obtain ⟨u2, HU2⟩ : ∃ u, Hid (trnB v fp fa fw lg nb B = u) := ⟨_, rfl⟩
 obtain ⟨u3, HU3⟩ : ∃ u, Hid (inB T 0 10000 = u) := ⟨_, rfl⟩
 have S0 : Hid (Sts [kBx (w.heap.size + 1) 33 #[.int .i64 fp, .int .i64 fa, .int .i64 fw, .int .i64 lg, .slice ba nb bk], kBx (w.heap.size) 40 #[.slice pa v.n pc, .slice ja v.m jc], kBn w.heap.size w] ((w.alloc (.cells #[.slice pa v.n pc, .slice ja v.m jc] 40)).alloc (.cells #[.int .i64 fp, .int .i64 fa, .int .i64 fw, .int .i64 lg, .slice ba nb bk] 33))) := ⟨by show Box _ _ _ _; have := (Box.new (w.alloc (.cells #[.slice pa v.n pc, .slice ja v.m jc] 40)) 33 #[.int .i64 fp, .int .i64 fa, .int .i64 fw, .int .i64 lg, .slice ba nb bk]); simpa using this, ((Box.new w 40 #[.slice pa v.n pc, .slice ja v.m jc]).alloc (.cells #[.int .i64 fp, .int .i64 fa, .int .i64 fw, .int .i64 lg, .slice ba nb bk] 33)), ⟨bel2 _ _ _, rfl⟩, trivial⟩
 clear hP hJ hps hjs hL hB
 go_enter Tryz.func65, Tryz.ntmps65
 go_upto_region 1 with fail
 generalize ((w.alloc (.cells #[.slice pa v.n pc, .slice ja v.m jc] 40)).alloc (.cells #[.int .i64 fp, .int .i64 fa, .int .i64 fw, .int .i64 lg, .slice ba nb bk] 33)) = V0 at S0 ⊢
 have x0 := (gB S0.out.2.1).cel 0
 have x1 := (gB S0.out.2.1).cel 1
 have y0 := (gB S0.out.1).cel 0
 have y1 := (gB S0.out.1).cel 1
 have y2 := (gB S0.out.1).cel 2
 have y3 := (gB S0.out.1).cel 3
 have y4 := (gB S0.out.1).cel 4
 go_wp2_with fail
 clear x0 x1 y0 y1 y2 y3 y4
 refine (spec8 pa v.n pc v.P ja v.m jc v.J la nl lc L V0 hn hm hnl (H.out.1.mono nr (gL S0.out.2.2.1) nr) (H.out.2.1.mono nr (gL S0.out.2.2.1) nr) H.out.2.2.1 H.out.2.2.2.1 (H.out.2.2.2.2.1.mono nr (gL S0.out.2.2.1) nr)).mono ?_
 rintro e w1 ⟨he, hb⟩
 rw [HU1.out] at he
 subst he
 have S1 := stm S0 hb
 clear hb S0
 cases u1 with
 | false =>
  go_wp2_with fail
  go_ret
  exact ⟨by rw [gdB, HU1.out]; rfl, (gL S1.out.2.2.1)⟩
 | true =>
 have OK : Hid v.Ok := nvOk (lies_ok HU1.out)
 have x0 := (gB S1.out.2.1).cel 0
 have x1 := (gB S1.out.2.1).cel 1
 have y0 := (gB S1.out.1).cel 0
 have y1 := (gB S1.out.1).cel 1
 have y2 := (gB S1.out.1).cel 2
 have y3 := (gB S1.out.1).cel 3
 have y4 := (gB S1.out.1).cel 4
 go_wp2_with fail
 clear x0 x1 y0 y1 y2 y3 y4
 refine (train37 OK.out pa pc ja jc fp fa fw lg nb B ba bk w1 hnb (H.out.1.mono nr (gL S1.out.2.2.1) nr) (H.out.2.1.mono nr (gL S1.out.2.2.1) nr) (H.out.2.2.2.2.2.mono nr (gL S1.out.2.2.1) nr)).mono ?_
 rintro e w2 ⟨he, hb⟩
 rw [HU2.out] at he
 subst he
 have S2 := stm S1 hb
 clear hb S1
 cases u2 with
 | false =>
  go_wp2_with fail
  go_ret
  exact ⟨by rw [gdB, HU1.out, HU2.out]; rfl, (gL S2.out.2.2.1)⟩
 | true =>
 go_wp2_with fail
 refine (l22in53 T 0 10000 w2).mono ?_
 rintro e w3 ⟨he, hb⟩
 rw [HU3.out] at he
 subst he
 have hb2 : Below w2.heap.size w2 w3 := by rw [hb]; exact Below.refl _ _
 clear hb
 have hb := hb2
 clear hb2
 have S3 := stm S2 hb
 clear hb S2
 go_wp2_with fail
 go_ret
 exact ⟨by rw [gdB, HU1.out, HU2.out, HU3.out]; rfl, (gL S3.out.2.2.1)⟩
set_option maxRecDepth 100000 in
set_option maxHeartbeats 16000000 in
theorem specMove24 {v : Nv} (pa : Option Addr) (pc : Nat) (ja : Option Addr) (jc : Nat) (la : Option Addr) (nl lc : Nat) (L : Nat → Int) (fp fa fw lg : Int) (nb : Nat) (B : Nat → Nat → Int) (ba : Option Addr) (bk : Nat) (T : Int) (w : World) (hn : v.n ≤ 1048576) (hm : v.m ≤ 1048576) (hnl : nl ≤ 1048576) (hnb : nb ≤ 1048576) (hP : PsAt 0 w pa v.n v.P) (hJ : JsAt 0 w ja v.m v.J) (hps : ∀ i, i < v.n → (v.P i).nm.size ≤ maxLen) (hjs : ∀ i, i < v.m → (v.J i).ne ≤ 1048576 ∧ (v.J i).nm.size ≤ maxLen) (hL : IsAt 0 w la nl L) (hB : NsAt 2 0 w ba nb B) :
  Calls Tryz.prog 24 #[.agg #[.slice pa v.n pc, .slice ja v.m jc], .slice la nl lc, .agg #[.int .i64 fp, .int .i64 fa, .int .i64 fw, .int .i64 lg, .slice ba nb bk], .int .i64 T] w fun e w' => MoR w v nl L fp fa fw lg nb B T e w' := by
 have H : Hid (PsAt 0 w pa v.n v.P ∧ JsAt 0 w ja v.m v.J ∧ (∀ i, i < v.n → (v.P i).nm.size ≤ maxLen) ∧ (∀ i, i < v.m → (v.J i).ne ≤ 1048576 ∧ (v.J i).nm.size ≤ maxLen) ∧ IsAt 0 w la nl L ∧ NsAt 2 0 w ba nb B) := ⟨hP, hJ, hps, hjs, hL, hB⟩
 obtain ⟨gd, HG⟩ : ∃ u, Hid (gdB v nl L fp fa fw lg nb B T = u) := ⟨_, rfl⟩
 have S0 : Hid (Sts [kBx (w.heap.size + 1 + 1) 61 #[.int .i64 0, .int .i64 0, .int .i64 0, .int .i64 0, .int .i64 0, .int .i64 0, .int .i64 0, .slice none 0 0, .slice none 0 0], kBx (w.heap.size + 1) 33 #[.int .i64 fp, .int .i64 fa, .int .i64 fw, .int .i64 lg, .slice ba nb bk], kBx (w.heap.size) 40 #[.slice pa v.n pc, .slice ja v.m jc], kBn w.heap.size w] (((w.alloc (.cells #[.slice pa v.n pc, .slice ja v.m jc] 40)).alloc (.cells #[.int .i64 fp, .int .i64 fa, .int .i64 fw, .int .i64 lg, .slice ba nb bk] 33)).alloc (.cells #[.int .i64 0, .int .i64 0, .int .i64 0, .int .i64 0, .int .i64 0, .int .i64 0, .int .i64 0, .slice none 0 0, .slice none 0 0] 61))) := ⟨by show Box _ _ _ _; have := (Box.new ((w.alloc (.cells #[.slice pa v.n pc, .slice ja v.m jc] 40)).alloc (.cells #[.int .i64 fp, .int .i64 fa, .int .i64 fw, .int .i64 lg, .slice ba nb bk] 33)) 61 #[.int .i64 0, .int .i64 0, .int .i64 0, .int .i64 0, .int .i64 0, .int .i64 0, .int .i64 0, .slice none 0 0, .slice none 0 0]); simpa using this, by show Box _ _ _ _; have := ((Box.new (w.alloc (.cells #[.slice pa v.n pc, .slice ja v.m jc] 40)) 33 #[.int .i64 fp, .int .i64 fa, .int .i64 fw, .int .i64 lg, .slice ba nb bk]).alloc (.cells #[.int .i64 0, .int .i64 0, .int .i64 0, .int .i64 0, .int .i64 0, .int .i64 0, .int .i64 0, .slice none 0 0, .slice none 0 0] 61)); simpa using this, (((Box.new w 40 #[.slice pa v.n pc, .slice ja v.m jc]).alloc (.cells #[.int .i64 fp, .int .i64 fa, .int .i64 fw, .int .i64 lg, .slice ba nb bk] 33)).alloc (.cells #[.int .i64 0, .int .i64 0, .int .i64 0, .int .i64 0, .int .i64 0, .int .i64 0, .int .i64 0, .slice none 0 0, .slice none 0 0] 61)), ⟨((Below.refl _ _).alloc nr _ |>.alloc (by simp) _ |>.alloc (by simp; omega) _), rfl⟩, trivial⟩
 clear hP hJ hps hjs hL hB
 go_enter Tryz.func24, Tryz.ntmps24
 go_upto_region 1 with fail
 generalize (((w.alloc (.cells #[.slice pa v.n pc, .slice ja v.m jc] 40)).alloc (.cells #[.int .i64 fp, .int .i64 fa, .int .i64 fw, .int .i64 lg, .slice ba nb bk] 33)).alloc (.cells #[.int .i64 0, .int .i64 0, .int .i64 0, .int .i64 0, .int .i64 0, .int .i64 0, .int .i64 0, .slice none 0 0, .slice none 0 0] 61)) = V0 at S0 ⊢
 have x0 := (gB S0.out.2.2.1).cel 0
 have x1 := (gB S0.out.2.2.1).cel 1
 have y0 := (gB S0.out.2.1).cel 0
 have y1 := (gB S0.out.2.1).cel 1
 have y2 := (gB S0.out.2.1).cel 2
 have y3 := (gB S0.out.2.1).cel 3
 have y4 := (gB S0.out.2.1).cel 4
 go_wp2_with fail
 clear x0 x1 y0 y1 y2 y3 y4
 refine (good65 pa pc ja jc la nl lc L fp fa fw lg nb B ba bk T V0 hn hm hnl hnb (H.out.1.mono nr (gL S0.out.2.2.2.1) nr) (H.out.2.1.mono nr (gL S0.out.2.2.2.1) nr) H.out.2.2.1 H.out.2.2.2.1 (H.out.2.2.2.2.1.mono nr (gL S0.out.2.2.2.1) nr) (H.out.2.2.2.2.2.mono nr (gL S0.out.2.2.2.1) nr)).mono ?_
 rintro e w1 ⟨he, hb⟩
 rw [HG.out] at he
 subst he
 have S1 := stm S0 hb
 clear hb S0
 cases gd with
 | false =>
  have z0 := (gB S1.out.1).cel 0
  have z1 := (gB S1.out.1).cel 1
  have z2 := (gB S1.out.1).cel 2
  have z3 := (gB S1.out.1).cel 3
  have z4 := (gB S1.out.1).cel 4
  have z5 := (gB S1.out.1).cel 5
  have z6 := (gB S1.out.1).cel 6
  have z7 := (gB S1.out.1).cel 7
  have z8 := (gB S1.out.1).cel 8
  have zf0 := (gB S1.out.1).free 0
  have zf1 := (gB S1.out.1).free 1
  have zf2 := (gB S1.out.1).free 2
  have zf3 := (gB S1.out.1).free 3
  have zf4 := (gB S1.out.1).free 4
  have zf5 := (gB S1.out.1).free 5
  have zf6 := (gB S1.out.1).free 6
  have zf7 := (gB S1.out.1).free 7
  have zf8 := (gB S1.out.1).free 8
  have hF133 := (((((((((Fr.refl (fun x => x = w.heap.size + 1 + 1) w1).put 0 (.int .i64 5)).put 1 (.int .i64 0)).put 2 (.int .i64 0)).put 3 (.int .i64 0)).put 4 (.int .i64 0)).put 5 (.int .i64 0)).put 6 (.int .i64 0)).put 7 (.slice none 0 0)).put 8 (.slice none 0 0)
  have MA132 : Hid (Sts [kBx (w.heap.size + 1 + 1) 61 #[.int .i64 5, .int .i64 0, .int .i64 0, .int .i64 0, .int .i64 0, .int .i64 0, .int .i64 0, .slice none 0 0, .slice none 0 0], kBx (w.heap.size + 1) 33 #[.int .i64 fp, .int .i64 fa, .int .i64 fw, .int .i64 lg, .slice ba nb bk], kBx (w.heap.size) 40 #[.slice pa v.n pc, .slice ja v.m jc], kBn w.heap.size w] _) := ⟨by have h9 := ((((((((((gB S1.out.1).set 0 (.int .i64 5)).set 1 (.int .i64 0)).set 2 (.int .i64 0)).set 3 (.int .i64 0)).set 4 (.int .i64 0)).set 5 (.int .i64 0)).set 6 (.int .i64 0)).set 7 (.slice none 0 0)).set 8 (.slice none 0 0)); exact h9, bxf (gB S1.out.2.1) (gB S1.out.1) hF133, bxf (gB S1.out.2.2.1) (gB S1.out.1) hF133, ⟨blf S1.out.2.2.2.1 (Nat.le_add_right _ 2) hF133, rfl⟩, trivial⟩
  clear hF133
  clear S1
  go_wp2_with fail
  clear z0 z1 z2 z3 z4 z5 z6 z7 z8 zf0 zf1 zf2 zf3 zf4 zf5 zf6 zf7 zf8
  generalize (((((((((w1.setCell ⟨w.heap.size + 1 + 1, 0, none⟩ (.int .i64 5)).setCell ⟨w.heap.size + 1 + 1, 1, none⟩ (.int .i64 0)).setCell ⟨w.heap.size + 1 + 1, 2, none⟩ (.int .i64 0)).setCell ⟨w.heap.size + 1 + 1, 3, none⟩ (.int .i64 0)).setCell ⟨w.heap.size + 1 + 1, 4, none⟩ (.int .i64 0)).setCell ⟨w.heap.size + 1 + 1, 5, none⟩ (.int .i64 0)).setCell ⟨w.heap.size + 1 + 1, 6, none⟩ (.int .i64 0)).setCell ⟨w.heap.size + 1 + 1, 7, none⟩ (.slice none 0 0)).setCell ⟨w.heap.size + 1 + 1, 8, none⟩ (.slice none 0 0)) = W9 at MA132 ⊢
  have z0 := (gB MA132.out.1).cel 0
  have z1 := (gB MA132.out.1).cel 1
  have z2 := (gB MA132.out.1).cel 2
  have z3 := (gB MA132.out.1).cel 3
  have z4 := (gB MA132.out.1).cel 4
  have z5 := (gB MA132.out.1).cel 5
  have z6 := (gB MA132.out.1).cel 6
  have z7 := (gB MA132.out.1).cel 7
  have z8 := (gB MA132.out.1).cel 8
  exact bodyPost_ret (v := .agg #[.int .i64 5, .int .i64 0, .int .i64 0, .int .i64 0, .int .i64 0, .int .i64 0, .int .i64 0, .slice none 0 0, .slice none 0 0]) (by simp [results, Tryz.results24, go_sem, z0, z1, z2, z3, z4, z5, z6, z7, z8]) rfl (mo_no HG.out (gL MA132.out.2.2.2.1))
 | true =>
 have OK : Hid (v.Ok ∧ (nl = v.m ∧ ∀ i, i < v.m → lieB v.J L i = true) ∧ Trn v fp fa fw lg nb B ∧ 0 ≤ T ∧ T ≤ 10000) := gd_parts HG.out
 obtain ⟨fq, rfl, hfq, hfw, hfa⟩ : ∃ q : Nat, fp = (q : Int) ∧ q < v.n ∧ (fw = 1 ∨ fw = -1) ∧ (0 ≤ fa ∧ fa ≤ (v.P q).ln) := spot_nat OK.out.2.2.1.spot
 obtain ⟨_, ⟨hnlm, _⟩, _⟩ := OK.out
 subst hnlm
 have x0 := (gB S1.out.2.2.1).cel 0
 have x1 := (gB S1.out.2.2.1).cel 1
 have y0 := (gB S1.out.2.1).cel 0
 have y1 := (gB S1.out.2.1).cel 1
 have y2 := (gB S1.out.2.1).cel 2
 have y3 := (gB S1.out.2.1).cel 3
 have y4 := (gB S1.out.2.1).cel 4
 go_wp2_with fail
 clear x0 x1 y0 y1 y2 y3 y4
 refine (move66 pa pc ja jc la lc L fq fa fw lg nb B ba bk T w1 OK.out.1 OK.out.2.1.2 OK.out.2.2.1 OK.out.2.2.2 (H.out.1.mono nr (gL S1.out.2.2.2.1) nr) (H.out.2.1.mono nr (gL S1.out.2.2.2.1) nr) (H.out.2.2.2.2.2.mono nr (gL S1.out.2.2.2.1) nr) (H.out.2.2.2.2.1.mono nr (gL S1.out.2.2.2.1) nr)).mono ?_
 rintro e w2 ⟨⟨rfp, rfa, rfw, rnb, rB, rfar, rno, rO⟩, c, j, a1, c1, a2, c2, hF, rfl, ho1, ho2, hb⟩
 have HF : Hid (MvF v L lg T (mv0 fq fa fw nb B) ⟨rfp, rfa, rfw, rnb, rB, rfar, rno, rO⟩ c j) := hF
 have S2 : Hid (Sts [kOw w.heap.size 112 3 (.slice a2 rno c2) rno (intF rO), kOw w.heap.size 74 2 (.slice a1 rnb c1) rnb (intF rB), kBx (w.heap.size + 1 + 1) 61 #[.int .i64 0, .int .i64 0, .int .i64 0, .int .i64 0, .int .i64 0, .int .i64 0, .int .i64 0, .slice none 0 0, .slice none 0 0], kBx (w.heap.size + 1) 33 #[.int .i64 (fq : Int), .int .i64 fa, .int .i64 fw, .int .i64 lg, .slice ba nb bk], kBx (w.heap.size) 40 #[.slice pa v.n pc, .slice ja v.m jc], kBn w.heap.size w] w2) := ⟨ho2.keep (gL S1.out.2.2.2.1).size (fun _ _ => rfl), ho1.keep (gL S1.out.2.2.2.1).size (fun _ _ => rfl), (gB S1.out.1).mono hb nr, (gB S1.out.2.1).mono hb nr, (gB S1.out.2.2.1).mono hb nr, ⟨(gL S1.out.2.2.2.1).trans (hb.mono (gL S1.out.2.2.2.1).size), rfl⟩, trivial⟩
 clear hb ho1 ho2 hF S1
 have z0 := (gB S2.out.2.2.1).cel 0
 have z1 := (gB S2.out.2.2.1).cel 1
 have z2 := (gB S2.out.2.2.1).cel 2
 have z3 := (gB S2.out.2.2.1).cel 3
 have z4 := (gB S2.out.2.2.1).cel 4
 have z5 := (gB S2.out.2.2.1).cel 5
 have z6 := (gB S2.out.2.2.1).cel 6
 have z7 := (gB S2.out.2.2.1).cel 7
 have z8 := (gB S2.out.2.2.1).cel 8
 have zf0 := (gB S2.out.2.2.1).free 0
 have zf1 := (gB S2.out.2.2.1).free 1
 have zf2 := (gB S2.out.2.2.1).free 2
 have zf3 := (gB S2.out.2.2.1).free 3
 have zf4 := (gB S2.out.2.2.1).free 4
 have zf5 := (gB S2.out.2.2.1).free 5
 have zf6 := (gB S2.out.2.2.1).free 6
 have zf7 := (gB S2.out.2.2.1).free 7
 have zf8 := (gB S2.out.2.2.1).free 8
 have hF135 := (((((((((Fr.refl (fun x => x = w.heap.size + 1 + 1) w2).put 0 (.int .i64 c)).put 1 (.int .i64 rfar)).put 2 (.int .i64 j)).put 3 (.int .i64 (rfp : Int))).put 4 (.int .i64 rfa)).put 5 (.int .i64 rfw)).put 6 (.int .i64 lg)).put 7 (.slice a1 rnb c1)).put 8 (.slice a2 rno c2)
 have MA134 : Hid (Sts [kOw w.heap.size 112 3 (.slice a2 rno c2) rno (intF rO), kOw w.heap.size 74 2 (.slice a1 rnb c1) rnb (intF rB), kBx (w.heap.size + 1 + 1) 61 #[.int .i64 c, .int .i64 rfar, .int .i64 j, .int .i64 (rfp : Int), .int .i64 rfa, .int .i64 rfw, .int .i64 lg, .slice a1 rnb c1, .slice a2 rno c2], kBx (w.heap.size + 1) 33 #[.int .i64 (fq : Int), .int .i64 fa, .int .i64 fw, .int .i64 lg, .slice ba nb bk], kBx (w.heap.size) 40 #[.slice pa v.n pc, .slice ja v.m jc], kBn w.heap.size w] _) := ⟨owf (gO S2.out.1) (gB S2.out.2.2.1) hF135, owf (gO S2.out.2.1) (gB S2.out.2.2.1) hF135, by have h9 := ((((((((((gB S2.out.2.2.1).set 0 (.int .i64 c)).set 1 (.int .i64 rfar)).set 2 (.int .i64 j)).set 3 (.int .i64 (rfp : Int))).set 4 (.int .i64 rfa)).set 5 (.int .i64 rfw)).set 6 (.int .i64 lg)).set 7 (.slice a1 rnb c1)).set 8 (.slice a2 rno c2)); exact h9, bxf (gB S2.out.2.2.2.1) (gB S2.out.2.2.1) hF135, bxf (gB S2.out.2.2.2.2.1) (gB S2.out.2.2.1) hF135, ⟨blf S2.out.2.2.2.2.2.1 (Nat.le_add_right _ 2) hF135, rfl⟩, trivial⟩
 clear hF135
 clear S2
 go_wp2_with fail
 clear z0 z1 z2 z3 z4 z5 z6 z7 z8 zf0 zf1 zf2 zf3 zf4 zf5 zf6 zf7 zf8
 generalize (((((((((w2.setCell ⟨w.heap.size + 1 + 1, 0, none⟩ (.int .i64 c)).setCell ⟨w.heap.size + 1 + 1, 1, none⟩ (.int .i64 rfar)).setCell ⟨w.heap.size + 1 + 1, 2, none⟩ (.int .i64 j)).setCell ⟨w.heap.size + 1 + 1, 3, none⟩ (.int .i64 (rfp : Int))).setCell ⟨w.heap.size + 1 + 1, 4, none⟩ (.int .i64 rfa)).setCell ⟨w.heap.size + 1 + 1, 5, none⟩ (.int .i64 rfw)).setCell ⟨w.heap.size + 1 + 1, 6, none⟩ (.int .i64 lg)).setCell ⟨w.heap.size + 1 + 1, 7, none⟩ (.slice a1 rnb c1)).setCell ⟨w.heap.size + 1 + 1, 8, none⟩ (.slice a2 rno c2)) = W9 at MA134 ⊢
 have z0 := (gB MA134.out.2.2.1).cel 0
 have z1 := (gB MA134.out.2.2.1).cel 1
 have z2 := (gB MA134.out.2.2.1).cel 2
 have z3 := (gB MA134.out.2.2.1).cel 3
 have z4 := (gB MA134.out.2.2.1).cel 4
 have z5 := (gB MA134.out.2.2.1).cel 5
 have z6 := (gB MA134.out.2.2.1).cel 6
 have z7 := (gB MA134.out.2.2.1).cel 7
 have z8 := (gB MA134.out.2.2.1).cel 8
 exact bodyPost_ret (v := .agg #[.int .i64 c, .int .i64 rfar, .int .i64 j, .int .i64 (rfp : Int), .int .i64 rfa, .int .i64 rfw, .int .i64 lg, .slice a1 rnb c1, .slice a2 rno c2]) (by simp [results, Tryz.results24, go_sem, z0, z1, z2, z3, z4, z5, z6, z7, z8]) rfl (mo_yes HG.out HF.out (gO MA134.out.2.1) (gO MA134.out.1) (gL MA134.out.2.2.2.2.2.1))
end Go.Proofs.YtjhmaofjmalglaaGreat
