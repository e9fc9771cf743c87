import Derived.Test.YtjhmaofjmalglaaGreatZbv
namespace Go.Proofs.YtjhmaofjmalglaaGreat
open Go.RowKit Go.Lib
set_option maxRecDepth 100000 in
set_option maxHeartbeats 64000000 in
theorem move68 {v : Nv} (ok : v.Ok) {bt sb : Nat} {pa : Option Addr} {pc : Nat} {ja : Option Addr} {jc : Nat} (fq : Nat) (ga gw lg : Int) (mb : Nat) (C : Nat → Nat → Int) (b0 o0 k0 : Nat) (la : Option Addr) (lc : Nat) (L : Nat → Int) (T : Int) (w : World) (h : TkAt w bt sb v pa pc ja jc) (hL : IsAt 0 w la v.m L) (hl : ∀ i, i < v.m → lieB v.J L i = true) (ht : Trn v (fq : Int) ga gw lg mb C) (hT : 0 ≤ T ∧ T ≤ 10000) (hB : Lst w b0 o0 mb C) (hk0 : mb ≤ k0) :
  Calls Tryz.prog 68 #[.agg #[.pointer (some ⟨bt, 0, none⟩), .slice la v.m lc], .agg #[.int .i64 (fq : Int), .int .i64 ga, .int .i64 gw, .int .i64 lg, .slice (some ⟨b0, o0, none⟩) mb k0], .int .i64 T] w fun e w' => MvR w v L lg T (mv0 fq ga gw mb C) e w' := by
 have H : Hid (v.Ok ∧ TkAt w bt sb v pa pc ja jc ∧ IsAt 0 w la v.m L ∧ (∀ i, i < v.m → lieB v.J L i = true) ∧ Lst w b0 o0 mb C ∧ mb ≤ k0) := ⟨ok, h, hL, hl, hB, hk0⟩
 have HT : Hid (Trn v (fq : Int) ga gw lg mb C) := ht
 obtain ⟨i1, hi1, hz1, hs1, hb1⟩ := info_parts infoPart
 obtain ⟨rb, HRB⟩ : ∃ u, Hid (railedB v L (fq : Int) gw mb C = u) := ⟨_, rfl⟩
 have S0 : Hid (Sts [kBx (w.heap.size + 1 + 1) 61 #[.int .i64 0, .int .i64 0, .int .i64 0, .int .i64 0, .int .i64 0, .int .i64 0, .int .i64 0, .slice none 0 0, .slice none 0 0], kBx (w.heap.size + 1) 90 #[.int .i64 (fq : Int), .int .i64 ga, .int .i64 gw, .int .i64 lg, .slice (some ⟨b0, o0, none⟩) mb k0], kBx (w.heap.size) 87 #[.pointer (some ⟨bt, 0, none⟩), .slice la v.m lc], kBn w.heap.size w] (((w.alloc (.cells #[.pointer (some ⟨bt, 0, none⟩), .slice la v.m lc] 87)).alloc (.cells #[.int .i64 (fq : Int), .int .i64 ga, .int .i64 gw, .int .i64 lg, .slice (some ⟨b0, o0, none⟩) mb k0] 90)).alloc (.cells #[.int .i64 0, .int .i64 0, .int .i64 0, .int .i64 0, .int .i64 0, .int .i64 0, .int .i64 0, .slice none 0 0, .slice none 0 0] 61))) := ⟨by show Box _ _ _ _; have := (Box.new ((w.alloc (.cells #[.pointer (some ⟨bt, 0, none⟩), .slice la v.m lc] 87)).alloc (.cells #[.int .i64 (fq : Int), .int .i64 ga, .int .i64 gw, .int .i64 lg, .slice (some ⟨b0, o0, none⟩) mb k0] 90)) 61 #[.int .i64 0, .int .i64 0, .int .i64 0, .int .i64 0, .int .i64 0, .int .i64 0, .int .i64 0, .slice none 0 0, .slice none 0 0]); simpa using this, by show Box _ _ _ _; have := ((Box.new (w.alloc (.cells #[.pointer (some ⟨bt, 0, none⟩), .slice la v.m lc] 87)) 90 #[.int .i64 (fq : Int), .int .i64 ga, .int .i64 gw, .int .i64 lg, .slice (some ⟨b0, o0, none⟩) mb k0]).alloc (.cells #[.int .i64 0, .int .i64 0, .int .i64 0, .int .i64 0, .int .i64 0, .int .i64 0, .int .i64 0, .slice none 0 0, .slice none 0 0] 61)); simpa using this, (((Box.new w 87 #[.pointer (some ⟨bt, 0, none⟩), .slice la v.m lc]).alloc (.cells #[.int .i64 (fq : Int), .int .i64 ga, .int .i64 gw, .int .i64 lg, .slice (some ⟨b0, o0, none⟩) mb k0] 90)).alloc (.cells #[.int .i64 0, .int .i64 0, .int .i64 0, .int .i64 0, .int .i64 0, .int .i64 0, .int .i64 0, .slice none 0 0, .slice none 0 0] 61)), ⟨((Below.refl _ _).alloc nr _ |>.alloc (by simp) _ |>.alloc (by simp; omega) _), rfl⟩, trivial⟩
 clear ok h hL hl ht hB hk0
 go_enter Tryz.func68, Tryz.ntmps68
 go_upto_region 1 with fail
 generalize (((w.alloc (.cells #[.pointer (some ⟨bt, 0, none⟩), .slice la v.m lc] 87)).alloc (.cells #[.int .i64 (fq : Int), .int .i64 ga, .int .i64 gw, .int .i64 lg, .slice (some ⟨b0, o0, none⟩) mb k0] 90)).alloc (.cells #[.int .i64 0, .int .i64 0, .int .i64 0, .int .i64 0, .int .i64 0, .int .i64 0, .int .i64 0, .slice none 0 0, .slice none 0 0] 61)) = V0 at S0 ⊢
 have x0 := (gB S0.out.2.2.1).cel 0
 have x1 := (gB S0.out.2.2.1).cel 1
 have y0 := (gB S0.out.2.1).cel 0
 have y1 := (gB S0.out.2.1).cel 1
 have y2 := (gB S0.out.2.1).cel 2
 have y3 := (gB S0.out.2.1).cel 3
 have y4 := (gB S0.out.2.1).cel 4
 go_wp2_with fail
 clear x0 x1 y0 y1 y2 y3 y4
 refine (joinedR47 H.out.1 (fq : Int) ga gw lg mb C (some ⟨b0, o0, none⟩) k0 la lc L V0 (H.out.2.1.mono (gL S0.out.2.2.2.1) nr) HT.out.spot HT.out.nb1 (H.out.2.2.2.2.1.mono (gL S0.out.2.2.2.1) nr).ns HT.out.step (H.out.2.2.1.mono nr (gL S0.out.2.2.2.1) nr) H.out.2.2.2.1).mono ?_
 rintro e w1 ⟨he, hb⟩
 rw [HRB.out] at he
 subst he
 have S1 := stm S0 hb
 clear hb S0
 cases rb with
 | false =>
  have y0 := (gB S1.out.2.1).cel 0
  have y1 := (gB S1.out.2.1).cel 1
  have y2 := (gB S1.out.2.1).cel 2
  have y3 := (gB S1.out.2.1).cel 3
  have y4 := (gB S1.out.2.1).cel 4
  go_wp2_with fail
  clear y0 y1 y2 y3 y4
  refine (train48c (fq : Int) ga gw lg (some ⟨b0, o0, none⟩) mb k0 C w1 (Nat.le_trans HT.out.nb1 (by decide)) (H.out.2.2.2.2.1.mono (gL S1.out.2.2.2.1) nr).cp).mono ?_
  rintro e w2 ⟨ta, tc, rfl, ho, hb⟩
  have S2 := stx (k := kOw w.heap.size 74 2 (.slice ta mb tc) mb (intF C)) (stm S1 hb) (ho.keep (gL S1.out.2.2.2.1).size (fun _ _ => rfl))
  clear hb ho S1
  have z0 := (gB S2.out.2.1).cel 0
  have z1 := (gB S2.out.2.1).cel 1
  have z2 := (gB S2.out.2.1).cel 2
  have z3 := (gB S2.out.2.1).cel 3
  have z4 := (gB S2.out.2.1).cel 4
  have z5 := (gB S2.out.2.1).cel 5
  have z6 := (gB S2.out.2.1).cel 6
  have z7 := (gB S2.out.2.1).cel 7
  have z8 := (gB S2.out.2.1).cel 8
  have zf0 := (gB S2.out.2.1).free 0
  have zf1 := (gB S2.out.2.1).free 1
  have zf2 := (gB S2.out.2.1).free 2
  have zf3 := (gB S2.out.2.1).free 3
  have zf4 := (gB S2.out.2.1).free 4
  have zf5 := (gB S2.out.2.1).free 5
  have zf6 := (gB S2.out.2.1).free 6
  have zf7 := (gB S2.out.2.1).free 7
  have zf8 := (gB S2.out.2.1).free 8
  have hF129 := (((((((((Fr.refl (fun x => x = w.heap.size + 1 + 1) w2).put 0 (.int .i64 4)).put 1 (.int .i64 0)).put 2 (.int .i64 (-1))).put 3 (.int .i64 (fq : Int))).put 4 (.int .i64 ga)).put 5 (.int .i64 gw)).put 6 (.int .i64 lg)).put 7 (.slice ta mb tc)).put 8 (.slice none 0 0)
  have MA128 : Hid (Sts [kOw w.heap.size 74 2 (.slice ta mb tc) mb (intF C), kBx (w.heap.size + 1 + 1) 61 #[.int .i64 4, .int .i64 0, .int .i64 (-1), .int .i64 (fq : Int), .int .i64 ga, .int .i64 gw, .int .i64 lg, .slice ta mb tc, .slice none 0 0], kBx (w.heap.size + 1) 90 #[.int .i64 (fq : Int), .int .i64 ga, .int .i64 gw, .int .i64 lg, .slice (some ⟨b0, o0, none⟩) mb k0], kBx (w.heap.size) 87 #[.pointer (some ⟨bt, 0, none⟩), .slice la v.m lc], kBn w.heap.size w] _) := ⟨owf (gO S2.out.1) (gB S2.out.2.1) hF129, by have h9 := ((((((((((gB S2.out.2.1).set 0 (.int .i64 4)).set 1 (.int .i64 0)).set 2 (.int .i64 (-1))).set 3 (.int .i64 (fq : Int))).set 4 (.int .i64 ga)).set 5 (.int .i64 gw)).set 6 (.int .i64 lg)).set 7 (.slice ta mb tc)).set 8 (.slice none 0 0)); exact h9, bxf (gB S2.out.2.2.1) (gB S2.out.2.1) hF129, bxf (gB S2.out.2.2.2.1) (gB S2.out.2.1) hF129, ⟨blf S2.out.2.2.2.2.1 (Nat.le_add_right _ 2) hF129, rfl⟩, trivial⟩
  clear hF129
  clear S2
  go_wp2_with fail
  clear z0 z1 z2 z3 z4 z5 z6 z7 z8 zf0 zf1 zf2 zf3 zf4 zf5 zf6 zf7 zf8
  generalize (((((((((w2.setCell ⟨w.heap.size + 1 + 1, 0, none⟩ (.int .i64 4)).setCell ⟨w.heap.size + 1 + 1, 1, none⟩ (.int .i64 0)).setCell ⟨w.heap.size + 1 + 1, 2, none⟩ (.int .i64 (-1))).setCell ⟨w.heap.size + 1 + 1, 3, none⟩ (.int .i64 (fq : Int))).setCell ⟨w.heap.size + 1 + 1, 4, none⟩ (.int .i64 ga)).setCell ⟨w.heap.size + 1 + 1, 5, none⟩ (.int .i64 gw)).setCell ⟨w.heap.size + 1 + 1, 6, none⟩ (.int .i64 lg)).setCell ⟨w.heap.size + 1 + 1, 7, none⟩ (.slice ta mb tc)).setCell ⟨w.heap.size + 1 + 1, 8, none⟩ (.slice none 0 0)) = W9 at MA128 ⊢
  have z0 := (gB MA128.out.2.1).cel 0
  have z1 := (gB MA128.out.2.1).cel 1
  have z2 := (gB MA128.out.2.1).cel 2
  have z3 := (gB MA128.out.2.1).cel 3
  have z4 := (gB MA128.out.2.1).cel 4
  have z5 := (gB MA128.out.2.1).cel 5
  have z6 := (gB MA128.out.2.1).cel 6
  have z7 := (gB MA128.out.2.1).cel 7
  have z8 := (gB MA128.out.2.1).cel 8
  exact bodyPost_ret (v := .agg #[.int .i64 4, .int .i64 0, .int .i64 (-1), .int .i64 (fq : Int), .int .i64 ga, .int .i64 gw, .int .i64 lg, .slice ta mb tc, .slice none 0 0]) (by simp [results, Tryz.results68, go_sem, z0, z1, z2, z3, z4, z5, z6, z7, z8]) rfl (⟨(mv0 fq ga gw mb C), 4, -1, ta, tc, none, 0, ⟨fun h => absurd (h.symm.trans HRB.out) (by decide), fun _ => ⟨rfl, rfl, rfl⟩⟩, rfl, (gO MA128.out.1), VOwn.nil _ _ _ _ _, (gL MA128.out.2.2.2.2.1)⟩)
 | true =>
 have S3 := stx (k := kBx (w1.heap.size) 61 #[.int .i64 0, .int .i64 0, .int .i64 (-1), .int .i64 0, .int .i64 0, .int .i64 0, .int .i64 0, .slice none 0 0, .slice none 0 0]) (sta S1 (.cells #[.int .i64 0, .int .i64 0, .int .i64 (-1), .int .i64 0, .int .i64 0, .int .i64 0, .int .i64 0, .slice none 0 0, .slice none 0 0] 61)) (Box.new _ _ _)
 have HL130 : Hid (w.heap.size ≤ w1.heap.size) := (gL S1.out.2.2.2.1).size
 have HE131 : Hid (w.heap.size + 1 + 1 ≠ w1.heap.size) := by have h9 := (gB S1.out.1).lt; show _ ≠ _; omega
 go_upto_block 0 with fail
 clear S1
 generalize w1.alloc (.cells #[.int .i64 0, .int .i64 0, .int .i64 (-1), .int .i64 0, .int .i64 0, .int .i64 0, .int .i64 0, .slice none 0 0, .slice none 0 0] 61) = V3 at S3 ⊢
 generalize w1.heap.size = ob at S3 HL130 HE131 ⊢
 go_cut [] from 8 (fun wx => ∃ (cc j2 : Int) (s : Mv) (bg bo bk : Nat) (xa : Option Addr) (xc : Nat), Hid (MvF v L lg T (mv0 fq ga gw mb C) s cc j2) ∧ Hid (MvOk v lg s) ∧ Hid (Sts [kOw w.heap.size 112 3 (.slice xa s.no xc) s.no (intF s.O), kLq w.heap.size bg bo (s.nb) bk (s.B), kBx (ob) 61 #[.int .i64 cc, .int .i64 s.far, .int .i64 j2, .int .i64 0, .int .i64 0, .int .i64 0, .int .i64 0, .slice none 0 0, .slice xa s.no xc], kBx (w.heap.size + 1) 90 #[.int .i64 (s.fp : Int), .int .i64 s.fa, .int .i64 s.fw, .int .i64 lg, .slice (some ⟨bg, bo, none⟩) s.nb bk], kBx (w.heap.size + 1 + 1) 61 #[.int .i64 0, .int .i64 0, .int .i64 0, .int .i64 0, .int .i64 0, .int .i64 0, .int .i64 0, .slice none 0 0, .slice none 0 0], kBx (w.heap.size) 87 #[.pointer (some ⟨bt, 0, none⟩), .slice la v.m lc], kBn w.heap.size w] wx))
 case rest =>
  clear S3
  obtain ⟨cc, j2, ⟨fp, fa, fw, nb, B, far, no, O⟩, bg, bo, bk, xa, xc, HMF, HOK, T0⟩ := hcut
  generalize wc = WB at T0 ⊢
  have E : Hid (Sts [kOw w.heap.size 112 3 (.slice xa no xc) no (intF O), kLq w.heap.size bg bo (nb) bk (B), kBx (ob) 61 #[.int .i64 cc, .int .i64 far, .int .i64 j2, .int .i64 0, .int .i64 0, .int .i64 0, .int .i64 0, .slice none 0 0, .slice xa no xc], kBx (w.heap.size + 1) 90 #[.int .i64 (fp : Int), .int .i64 fa, .int .i64 fw, .int .i64 lg, .slice (some ⟨bg, bo, none⟩) nb bk], kBx (w.heap.size + 1 + 1) 61 #[.int .i64 0, .int .i64 0, .int .i64 0, .int .i64 0, .int .i64 0, .int .i64 0, .int .i64 0, .slice none 0 0, .slice none 0 0], kBx (w.heap.size) 87 #[.pointer (some ⟨bt, 0, none⟩), .slice la v.m lc], kBn w.heap.size w] WB) := T0
  clear T0
  have y0 := (gB E.out.2.2.2.1).cel 0
  have y1 := (gB E.out.2.2.2.1).cel 1
  have y2 := (gB E.out.2.2.2.1).cel 2
  have y3 := (gB E.out.2.2.2.1).cel 3
  have y4 := (gB E.out.2.2.2.1).cel 4
  go_wp2_with fail
  clear y0 y1 y2 y3 y4
  refine (train48c (fp : Int) fa fw lg (some ⟨bg, bo, none⟩) nb bk B WB (Nat.le_trans HOK.out.nb1 (by decide)) (gQ E.out.2.1).1.cp).mono ?_
  rintro e wT ⟨ta, tc, rfl, ho, hb⟩
  have MT := stx (k := kOw w.heap.size 74 2 (.slice ta nb tc) nb (intF B)) (stm E hb) (ho.keep (gL E.out.2.2.2.2.2.2.1).size (fun _ _ => rfl))
  clear hb ho E
  have m0 := (gB MT.out.2.2.2.1).cel 0
  have m1 := (gB MT.out.2.2.2.1).cel 1
  have m2 := (gB MT.out.2.2.2.1).cel 2
  have m3 := (gB MT.out.2.2.2.1).cel 3
  have m4 := (gB MT.out.2.2.2.1).cel 4
  have m5 := (gB MT.out.2.2.2.1).cel 5
  have m6 := (gB MT.out.2.2.2.1).cel 6
  have m7 := (gB MT.out.2.2.2.1).cel 7
  have m8 := (gB MT.out.2.2.2.1).cel 8
  have mf0 := (gB MT.out.2.2.2.1).free 0
  have mf1 := (gB MT.out.2.2.2.1).free 1
  have mf2 := (gB MT.out.2.2.2.1).free 2
  have mf3 := (gB MT.out.2.2.2.1).free 3
  have mf4 := (gB MT.out.2.2.2.1).free 4
  have mf5 := (gB MT.out.2.2.2.1).free 5
  have mf6 := (gB MT.out.2.2.2.1).free 6
  have mf7 := (gB MT.out.2.2.2.1).free 7
  have mf8 := (gB MT.out.2.2.2.1).free 8
  have hF171 := (((((Fr.refl (fun x => x = ob) wT).put 3 (.int .i64 (fp : Int))).put 4 (.int .i64 fa)).put 5 (.int .i64 fw)).put 6 (.int .i64 lg)).put 7 (.slice ta nb tc)
  have MU : Hid (Sts [kOw w.heap.size 74 2 (.slice ta nb tc) nb (intF B), kOw w.heap.size 112 3 (.slice xa no xc) no (intF O), kLq w.heap.size bg bo (nb) bk (B), kBx (ob) 61 #[.int .i64 cc, .int .i64 far, .int .i64 j2, .int .i64 (fp : Int), .int .i64 fa, .int .i64 fw, .int .i64 lg, .slice ta nb tc, .slice xa no xc], kBx (w.heap.size + 1) 90 #[.int .i64 (fp : Int), .int .i64 fa, .int .i64 fw, .int .i64 lg, .slice (some ⟨bg, bo, none⟩) nb bk], kBx (w.heap.size + 1 + 1) 61 #[.int .i64 0, .int .i64 0, .int .i64 0, .int .i64 0, .int .i64 0, .int .i64 0, .int .i64 0, .slice none 0 0, .slice none 0 0], kBx (w.heap.size) 87 #[.pointer (some ⟨bt, 0, none⟩), .slice la v.m lc], kBn w.heap.size w] _) := ⟨owf (gO MT.out.1) (gB MT.out.2.2.2.1) hF171, owf (gO MT.out.2.1) (gB MT.out.2.2.2.1) hF171, (gQ MT.out.2.2.1).fr hF171 ((gQ MT.out.2.2.1).ne HL130.out (gB MT.out.2.2.2.1) (by decide)), by have h9 := ((((((gB MT.out.2.2.2.1).set 3 (.int .i64 (fp : Int))).set 4 (.int .i64 fa)).set 5 (.int .i64 fw)).set 6 (.int .i64 lg)).set 7 (.slice ta nb tc)); exact h9, bxf (gB MT.out.2.2.2.2.1) (gB MT.out.2.2.2.1) hF171, (gB MT.out.2.2.2.2.2.1).fr hF171 HE131.out, bxf (gB MT.out.2.2.2.2.2.2.1) (gB MT.out.2.2.2.1) hF171, ⟨blf MT.out.2.2.2.2.2.2.2.1 HL130.out hF171, rfl⟩, trivial⟩
  clear hF171
  clear MT
  go_upto_region 13 with fail
  clear m0 m1 m2 m3 m4 m5 m6 m7 m8 mf0 mf1 mf2 mf3 mf4 mf5 mf6 mf7 mf8
  generalize (((((wT.setCell ⟨ob, 3, none⟩ (.int .i64 (fp : Int))).setCell ⟨ob, 4, none⟩ (.int .i64 fa)).setCell ⟨ob, 5, none⟩ (.int .i64 fw)).setCell ⟨ob, 6, none⟩ (.int .i64 lg)).setCell ⟨ob, 7, none⟩ (.slice ta nb tc)) = WU at MU ⊢
  have m0 := (gB MU.out.2.2.2.1).cel 0
  have m1 := (gB MU.out.2.2.2.1).cel 1
  have m2 := (gB MU.out.2.2.2.1).cel 2
  have m3 := (gB MU.out.2.2.2.1).cel 3
  have m4 := (gB MU.out.2.2.2.1).cel 4
  have m5 := (gB MU.out.2.2.2.1).cel 5
  have m6 := (gB MU.out.2.2.2.1).cel 6
  have m7 := (gB MU.out.2.2.2.1).cel 7
  have m8 := (gB MU.out.2.2.2.1).cel 8
  have z0 := (gB MU.out.2.2.2.2.2.1).cel 0
  have z1 := (gB MU.out.2.2.2.2.2.1).cel 1
  have z2 := (gB MU.out.2.2.2.2.2.1).cel 2
  have z3 := (gB MU.out.2.2.2.2.2.1).cel 3
  have z4 := (gB MU.out.2.2.2.2.2.1).cel 4
  have z5 := (gB MU.out.2.2.2.2.2.1).cel 5
  have z6 := (gB MU.out.2.2.2.2.2.1).cel 6
  have z7 := (gB MU.out.2.2.2.2.2.1).cel 7
  have z8 := (gB MU.out.2.2.2.2.2.1).cel 8
  have zf0 := (gB MU.out.2.2.2.2.2.1).free 0
  have zf1 := (gB MU.out.2.2.2.2.2.1).free 1
  have zf2 := (gB MU.out.2.2.2.2.2.1).free 2
  have zf3 := (gB MU.out.2.2.2.2.2.1).free 3
  have zf4 := (gB MU.out.2.2.2.2.2.1).free 4
  have zf5 := (gB MU.out.2.2.2.2.2.1).free 5
  have zf6 := (gB MU.out.2.2.2.2.2.1).free 6
  have zf7 := (gB MU.out.2.2.2.2.2.1).free 7
  have zf8 := (gB MU.out.2.2.2.2.2.1).free 8
  have hF173 := (((((((((Fr.refl (fun x => x = w.heap.size + 1 + 1) WU).put 0 (.int .i64 cc)).put 1 (.int .i64 far)).put 2 (.int .i64 j2)).put 3 (.int .i64 (fp : Int))).put 4 (.int .i64 fa)).put 5 (.int .i64 fw)).put 6 (.int .i64 lg)).put 7 (.slice ta nb tc)).put 8 (.slice xa no xc)
  have MA172 : Hid (Sts [kOw w.heap.size 74 2 (.slice ta nb tc) nb (intF B), kOw w.heap.size 112 3 (.slice xa no xc) no (intF O), kLq w.heap.size bg bo (nb) bk (B), kBx (ob) 61 #[.int .i64 cc, .int .i64 far, .int .i64 j2, .int .i64 (fp : Int), .int .i64 fa, .int .i64 fw, .int .i64 lg, .slice ta nb tc, .slice xa no xc], kBx (w.heap.size + 1) 90 #[.int .i64 (fp : Int), .int .i64 fa, .int .i64 fw, .int .i64 lg, .slice (some ⟨bg, bo, none⟩) nb bk], kBx (w.heap.size + 1 + 1) 61 #[.int .i64 cc, .int .i64 far, .int .i64 j2, .int .i64 (fp : Int), .int .i64 fa, .int .i64 fw, .int .i64 lg, .slice ta nb tc, .slice xa no xc], kBx (w.heap.size) 87 #[.pointer (some ⟨bt, 0, none⟩), .slice la v.m lc], kBn w.heap.size w] _) := ⟨owf (gO MU.out.1) (gB MU.out.2.2.2.2.2.1) hF173, owf (gO MU.out.2.1) (gB MU.out.2.2.2.2.2.1) hF173, (gQ MU.out.2.2.1).fr hF173 ((gQ MU.out.2.2.1).ne (Nat.le_add_right _ 2) (gB MU.out.2.2.2.2.2.1) (by decide)), (gB MU.out.2.2.2.1).fr hF173 HE131.out.symm, bxf (gB MU.out.2.2.2.2.1) (gB MU.out.2.2.2.2.2.1) hF173, by have h9 := ((((((((((gB MU.out.2.2.2.2.2.1).set 0 (.int .i64 cc)).set 1 (.int .i64 far)).set 2 (.int .i64 j2)).set 3 (.int .i64 (fp : Int))).set 4 (.int .i64 fa)).set 5 (.int .i64 fw)).set 6 (.int .i64 lg)).set 7 (.slice ta nb tc)).set 8 (.slice xa no xc)); exact h9, bxf (gB MU.out.2.2.2.2.2.2.1) (gB MU.out.2.2.2.2.2.1) hF173, ⟨blf MU.out.2.2.2.2.2.2.2.1 (Nat.le_add_right _ 2) hF173, rfl⟩, trivial⟩
  clear hF173
  clear MU
  go_wp2_with fail
  clear m0 m1 m2 m3 m4 m5 m6 m7 m8 z0 z1 z2 z3 z4 z5 z6 z7 z8 zf0 zf1 zf2 zf3 zf4 zf5 zf6 zf7 zf8
  generalize (((((((((WU.setCell ⟨w.heap.size + 1 + 1, 0, none⟩ (.int .i64 cc)).setCell ⟨w.heap.size + 1 + 1, 1, none⟩ (.int .i64 far)).setCell ⟨w.heap.size + 1 + 1, 2, none⟩ (.int .i64 j2)).setCell ⟨w.heap.size + 1 + 1, 3, none⟩ (.int .i64 (fp : Int))).setCell ⟨w.heap.size + 1 + 1, 4, none⟩ (.int .i64 fa)).setCell ⟨w.heap.size + 1 + 1, 5, none⟩ (.int .i64 fw)).setCell ⟨w.heap.size + 1 + 1, 6, none⟩ (.int .i64 lg)).setCell ⟨w.heap.size + 1 + 1, 7, none⟩ (.slice ta nb tc)).setCell ⟨w.heap.size + 1 + 1, 8, none⟩ (.slice xa no xc)) = W9 at MA172 ⊢
  have z0 := (gB MA172.out.2.2.2.2.2.1).cel 0
  have z1 := (gB MA172.out.2.2.2.2.2.1).cel 1
  have z2 := (gB MA172.out.2.2.2.2.2.1).cel 2
  have z3 := (gB MA172.out.2.2.2.2.2.1).cel 3
  have z4 := (gB MA172.out.2.2.2.2.2.1).cel 4
  have z5 := (gB MA172.out.2.2.2.2.2.1).cel 5
  have z6 := (gB MA172.out.2.2.2.2.2.1).cel 6
  have z7 := (gB MA172.out.2.2.2.2.2.1).cel 7
  have z8 := (gB MA172.out.2.2.2.2.2.1).cel 8
  exact bodyPost_ret (v := .agg #[.int .i64 cc, .int .i64 far, .int .i64 j2, .int .i64 (fp : Int), .int .i64 fa, .int .i64 fw, .int .i64 lg, .slice ta nb tc, .slice xa no xc]) (by simp [results, Tryz.results68, go_sem, z0, z1, z2, z3, z4, z5, z6, z7, z8]) rfl (⟨⟨fp, fa, fw, nb, B, far, no, O⟩, cc, j2, ta, tc, xa, xc, HMF.out, rfl, (gO MA172.out.1), (gO MA172.out.2.1), (gL MA172.out.2.2.2.2.2.2.2.1)⟩)
 case first =>
 go_wp2_with fail
 go_loopw [] (fun wr => ∃ (s : Mv) (bg bo bk : Nat) (xa : Option Addr) (xc : Nat), Hid (∀ r c j, MvTo v L lg T s r c j → MvTo v L lg T (mv0 fq ga gw mb C) r c j) ∧ Hid (MvOk v lg s) ∧ ((s.no : Int) ≤ s.far ∧ s.far ≤ T) ∧ Hid (Sts [kOw w.heap.size 112 3 (.slice xa s.no xc) s.no (intF s.O), kLq w.heap.size bg bo (s.nb) bk (s.B), kBx (ob) 61 #[.int .i64 0, .int .i64 s.far, .int .i64 (-1), .int .i64 0, .int .i64 0, .int .i64 0, .int .i64 0, .slice none 0 0, .slice xa s.no xc], kBx (w.heap.size + 1) 90 #[.int .i64 (s.fp : Int), .int .i64 s.fa, .int .i64 s.fw, .int .i64 lg, .slice (some ⟨bg, bo, none⟩) s.nb bk], kBx (w.heap.size + 1 + 1) 61 #[.int .i64 0, .int .i64 0, .int .i64 0, .int .i64 0, .int .i64 0, .int .i64 0, .int .i64 0, .slice none 0 0, .slice none 0 0], kBx (w.heap.size) 87 #[.pointer (some ⟨bt, 0, none⟩), .slice la v.m lc], kBn w.heap.size w] wr)) (fun wr => (T - intAt (wr.cell? ⟨ob, 1, none⟩)).toNat)
 case atStart => exact ⟨(mv0 fq ga gw mb C), b0, o0, k0, none, 0, fun _ _ _ h => h, HT.out, ⟨by simp [mv0], hT.1⟩, ⟨VOwn.nil _ _ _ _ _, ⟨H.out.2.2.2.2.1.mono (gL S3.out.2.2.2.2.1) nr, H.out.2.2.2.2.2, .inl H.out.2.2.2.2.1.1⟩, (gB S3.out.1), (gB S3.out.2.2.1), (gB S3.out.2.1), (gB S3.out.2.2.2.1), ⟨(gL S3.out.2.2.2.2.1), rfl⟩, trivial⟩⟩
 case round =>
  clear S3
  obtain ⟨⟨fp, fa, fw, nb, B, far, no, O⟩, bg, bo, bk, xa, xc, HS, HOK, hno, T0⟩ := hrel
  have D : Hid (Sts [kOw w.heap.size 112 3 (.slice xa no xc) no (intF O), kLq w.heap.size bg bo (nb) bk (B), kBx (ob) 61 #[.int .i64 0, .int .i64 far, .int .i64 (-1), .int .i64 0, .int .i64 0, .int .i64 0, .int .i64 0, .slice none 0 0, .slice xa no xc], kBx (w.heap.size + 1) 90 #[.int .i64 (fp : Int), .int .i64 fa, .int .i64 fw, .int .i64 lg, .slice (some ⟨bg, bo, none⟩) nb bk], kBx (w.heap.size + 1 + 1) 61 #[.int .i64 0, .int .i64 0, .int .i64 0, .int .i64 0, .int .i64 0, .int .i64 0, .int .i64 0, .slice none 0 0, .slice none 0 0], kBx (w.heap.size) 87 #[.pointer (some ⟨bt, 0, none⟩), .slice la v.m lc], kBn w.heap.size w] wr) := T0
  have hno : (no : Int) ≤ far ∧ far ≤ T := hno
  clear T0
  have HMT0 : Hid ((T - intAt (wr.cell? ⟨ob, 1, none⟩)).toNat = (T - far).toNat) := by
   show _ = _
   rw [(gB D.out.2.2.1).cell 1]
   rfl
  obtain ⟨hfp, hfw, hfa⟩ : fp < v.n ∧ (fw = 1 ∨ fw = -1) ∧ 0 ≤ fa ∧ fa ≤ (v.P fp).ln := mv_spot HOK.out
  have hln := H.out.1.ln fp hfp
  by_cases hlt : far < T
  ·
   obtain ⟨rm, HRM⟩ : ∃ r, Hid ((v.P fp).ln - farI (v.P fp).ln fa fw = r) := ⟨_, rfl⟩
   have HRS : Hid (mvR v (⟨fp, fa, fw, nb, B, far, no, O⟩ : Mv) = rm) := (mv_room HOK.out).2.2.1.trans HRM.out
   have x0 := (gB D.out.2.2.2.2.2.1).cel 0
   have x1 := (gB D.out.2.2.2.2.2.1).cel 1
   have y0 := (gB D.out.2.2.2.1).cel 0
   have y1 := (gB D.out.2.2.2.1).cel 1
   have y2 := (gB D.out.2.2.2.1).cel 2
   have y3 := (gB D.out.2.2.2.1).cel 3
   have y4 := (gB D.out.2.2.2.1).cel 4
   have m0 := (gB D.out.2.2.1).cel 0
   have m1 := (gB D.out.2.2.1).cel 1
   have m2 := (gB D.out.2.2.1).cel 2
   have m3 := (gB D.out.2.2.1).cel 3
   have m4 := (gB D.out.2.2.1).cel 4
   have m5 := (gB D.out.2.2.1).cel 5
   have m6 := (gB D.out.2.2.1).cel 6
   have m7 := (gB D.out.2.2.1).cel 7
   have m8 := (gB D.out.2.2.1).cel 8
   go_wp2_with fail
   clear x0 x1 y0 y1 y2 y3 y4 m0 m1 m2 m3 m4 m5 m6 m7 m8
   refine (room113 H.out.1 fp fa fw lg (some ⟨bg, bo, none⟩) nb bk la lc wr (H.out.2.1.mono (gL D.out.2.2.2.2.2.2.1) nr) hfp ⟨hfa.1, by omega⟩).mono ?_
   rintro e w7 ⟨he, hb⟩
   rw [HRM.out] at he
   subst he
   have M7 := stm D hb
   clear hb D
   go_upto_if 25 with fail
   go_cut [] from 18 to 60 (fun wx => ∃ (fp : Nat) (fa fw : Int) (nb : Nat) (B : Nat → Nat → Int) (bg bo bk : Nat), Hid (∀ r c j, MvTo v L lg T (⟨fp, fa, fw, nb, B, far, no, O⟩ : Mv) r c j → MvTo v L lg T (mv0 fq ga gw mb C) r c j) ∧ Hid (MvOk v lg (⟨fp, fa, fw, nb, B, far, no, O⟩ : Mv)) ∧ Hid (¬ mvR v (⟨fp, fa, fw, nb, B, far, no, O⟩ : Mv) = 0) ∧ Hid (Sts [kOw w.heap.size 112 3 (.slice xa no xc) no (intF O), kLq w.heap.size bg bo (nb) bk (B), kBx (ob) 61 #[.int .i64 0, .int .i64 far, .int .i64 (-1), .int .i64 0, .int .i64 0, .int .i64 0, .int .i64 0, .slice none 0 0, .slice xa no xc], kBx (w.heap.size + 1) 90 #[.int .i64 (fp : Int), .int .i64 fa, .int .i64 fw, .int .i64 lg, .slice (some ⟨bg, bo, none⟩) nb bk], kBx (w.heap.size + 1 + 1) 61 #[.int .i64 0, .int .i64 0, .int .i64 0, .int .i64 0, .int .i64 0, .int .i64 0, .int .i64 0, .slice none 0 0, .slice none 0 0], kBx (w.heap.size) 87 #[.pointer (some ⟨bt, 0, none⟩), .slice la v.m lc], kBn w.heap.size w] wx))
   case first =>
    by_cases hr0 : rm = 0
    ·
     subst hr0
     have HR0 : Hid (mvR v (⟨fp, fa, fw, nb, B, far, no, O⟩ : Mv) = 0) := HRS.out
     obtain ⟨jj, HJJ⟩ : ∃ j : Int, Hid (((v.at (headE (fp : Int) fw)).1 : Int) = j) := ⟨_, rfl⟩
     have HJS : Hid (mvJ v (⟨fp, fa, fw, nb, B, far, no, O⟩ : Mv) = jj) := HJJ.out
     have x0 := (gB M7.out.2.2.2.2.2.1).cel 0
     have x1 := (gB M7.out.2.2.2.2.2.1).cel 1
     go_wp2_with fail
     clear x0 x1
     refine (enter114 H.out.1 (w.heap.size + 1) fp fa fw lg bg bo nb bk B la lc L w7 (H.out.2.1.mono (gL M7.out.2.2.2.2.2.2.1) nr) hfp hfw HOK.out.nb1 (H.out.2.2.1.mono nr (gL M7.out.2.2.2.2.2.2.1) nr) H.out.2.2.2.1 (gQ M7.out.2.1).1 (gB M7.out.2.2.2.1)).mono ?_
     rintro e w8 hE
     rcases hE with ⟨hc, he, hf, hbx⟩ | ⟨hc, hn, he, hf, hbx⟩ | ⟨hc, hn, q2, nw, yg, yc, hq2n, hq2, he, hf, hbx, hown⟩
     ·
      obtain ⟨cd, HCD⟩ : ∃ c, Hid ((exitAt v L fp fw).2 = c) := ⟨_, rfl⟩
      have HC1 : Hid (¬ mvC v L (⟨fp, fa, fw, nb, B, far, no, O⟩ : Mv) = 0 ∧ mvC v L (⟨fp, fa, fw, nb, B, far, no, O⟩ : Mv) = cd) := ⟨hc, HCD.out⟩
      rw [HCD.out] at he hc
      subst he
      have hcd' : (cd != 0) = true := by simpa using hc
      clear hc
      have M8 : Hid (Sts [kOw w.heap.size 112 3 (.slice xa no xc) no (intF O), kLq w.heap.size bg bo (nb) bk (B), kBx (ob) 61 #[.int .i64 0, .int .i64 far, .int .i64 (-1), .int .i64 0, .int .i64 0, .int .i64 0, .int .i64 0, .slice none 0 0, .slice xa no xc], kBx (w.heap.size + 1) 90 #[.int .i64 (fp : Int), .int .i64 fa, .int .i64 fw, .int .i64 lg, .slice (some ⟨bg, bo, none⟩) nb bk], kBx (w.heap.size + 1 + 1) 61 #[.int .i64 0, .int .i64 0, .int .i64 0, .int .i64 0, .int .i64 0, .int .i64 0, .int .i64 0, .slice none 0 0, .slice none 0 0], kBx (w.heap.size) 87 #[.pointer (some ⟨bt, 0, none⟩), .slice la v.m lc], kBn w.heap.size w] w8) := ⟨(gO M7.out.1).fr hf (fun g hg e => (gO M7.out.1).off (gB M7.out.2.2.2.1) (by decide) hg e), (gQ M7.out.2.1).fr hf ((gQ M7.out.2.1).ne (Nat.le_add_right _ 1) (gB M7.out.2.2.2.1) (by decide)), (gB M7.out.2.2.1).fr hf (fun e => box_ne (gB M7.out.2.2.1) (gB M7.out.2.2.2.1) (by decide) e), hbx, (gB M7.out.2.2.2.2.1).fr hf (fun e => box_ne (gB M7.out.2.2.2.2.1) (gB M7.out.2.2.2.1) (by decide) e), (gB M7.out.2.2.2.2.2.1).fr hf (fun e => box_ne (gB M7.out.2.2.2.2.2.1) (gB M7.out.2.2.2.1) (by decide) e), ⟨(gL M7.out.2.2.2.2.2.2.1).trans (hf.below (gL M7.out.2.2.2.2.2.2.1).size (fun k hk (e : k = w.heap.size + 1) => by omega)), rfl⟩, trivial⟩
      clear hf hbx M7
      have m0 := (gB M8.out.2.2.1).cel 0
      have m1 := (gB M8.out.2.2.1).cel 1
      have m2 := (gB M8.out.2.2.1).cel 2
      have m3 := (gB M8.out.2.2.1).cel 3
      have m4 := (gB M8.out.2.2.1).cel 4
      have m5 := (gB M8.out.2.2.1).cel 5
      have m6 := (gB M8.out.2.2.1).cel 6
      have m7 := (gB M8.out.2.2.1).cel 7
      have m8 := (gB M8.out.2.2.1).cel 8
      have mf0 := (gB M8.out.2.2.1).free 0
      have mf1 := (gB M8.out.2.2.1).free 1
      have mf2 := (gB M8.out.2.2.1).free 2
      have mf3 := (gB M8.out.2.2.1).free 3
      have mf4 := (gB M8.out.2.2.1).free 4
      have mf5 := (gB M8.out.2.2.1).free 5
      have mf6 := (gB M8.out.2.2.1).free 6
      have mf7 := (gB M8.out.2.2.1).free 7
      have mf8 := (gB M8.out.2.2.1).free 8
      have hF174 := (Fr.refl (fun x => x = ob) w8).put 0 (.int .i64 cd)
      have MP : Hid (Sts [kOw w.heap.size 112 3 (.slice xa no xc) no (intF O), kLq w.heap.size bg bo (nb) bk (B), kBx (ob) 61 #[.int .i64 cd, .int .i64 far, .int .i64 (-1), .int .i64 0, .int .i64 0, .int .i64 0, .int .i64 0, .slice none 0 0, .slice xa no xc], kBx (w.heap.size + 1) 90 #[.int .i64 (fp : Int), .int .i64 fa, .int .i64 fw, .int .i64 lg, .slice (some ⟨bg, bo, none⟩) nb bk], kBx (w.heap.size + 1 + 1) 61 #[.int .i64 0, .int .i64 0, .int .i64 0, .int .i64 0, .int .i64 0, .int .i64 0, .int .i64 0, .slice none 0 0, .slice none 0 0], kBx (w.heap.size) 87 #[.pointer (some ⟨bt, 0, none⟩), .slice la v.m lc], kBn w.heap.size w] _) := ⟨owf (gO M8.out.1) (gB M8.out.2.2.1) hF174, (gQ M8.out.2.1).fr hF174 ((gQ M8.out.2.1).ne HL130.out (gB M8.out.2.2.1) (by decide)), by have h9 := ((gB M8.out.2.2.1).set 0 (.int .i64 cd)); exact h9, bxf (gB M8.out.2.2.2.1) (gB M8.out.2.2.1) hF174, (gB M8.out.2.2.2.2.1).fr hF174 HE131.out, bxf (gB M8.out.2.2.2.2.2.1) (gB M8.out.2.2.1) hF174, ⟨blf M8.out.2.2.2.2.2.2.1 HL130.out hF174, rfl⟩, trivial⟩
      clear hF174
      clear M8
      go_upto_region 7 with fail
      clear m0 m1 m2 m3 m4 m5 m6 m7 m8 mf0 mf1 mf2 mf3 mf4 mf5 mf6 mf7 mf8
      generalize (w8.setCell ⟨ob, 0, none⟩ (.int .i64 cd)) = WP at MP ⊢
      have m0 := (gB MP.out.2.2.1).cel 0
      go_upto_region 8 with fail
      clear m0
      have hfd : ∀ (y : Int) (wq : World), (Instr.field 172 (.agg #[.int .i64 jj, .int .i64 y]) 0).run Tryz.prog wq = .ok (.int .i64 jj) wq := fun _ _ => by kernel_rfl
      have x0 := (gB MP.out.2.2.2.2.2.1).cel 0
      have y0 := (gB MP.out.2.2.2.1).cel 0
      have y1 := (gB MP.out.2.2.2.1).cel 1
      have y2 := (gB MP.out.2.2.2.1).cel 2
      go_wp2_with fail
      refine wp_region_held_drew (S := (fun wx : World => wx.cell? ⟨w.heap.size, 0, none⟩ = some (.pointer (some ⟨bt, 0, none⟩)) ∧ wx.cell? ⟨w.heap.size + 1, 0, none⟩ = some (.int .i64 (fp : Int)) ∧ wx.cell? ⟨w.heap.size + 1, 1, none⟩ = some (.int .i64 fa) ∧ wx.cell? ⟨w.heap.size + 1, 2, none⟩ = some (.int .i64 fw))) (by kernel_rfl) ?_ (fun hHeld => ?_)
      ·
       exact ⟨x0, y0, y1, y2⟩
      have MD175 := std MP
      clear x0 y0 y1 y2 MP
      generalize WP.drew = VD8 at MD175 hHeld ⊢
      refine tk 0 ?_
      refine tk 1 ?_
      refine tk 2 ?_
      refine tk 3 ?_
      refine rl 4 fun K hK => ?_
      go_simp
      refine (step79 (fp : Int) fa fw _).mono ?_
      rintro e wh176 ⟨rfl, hb⟩
      have MA177 := stm MD175 hb
      clear hb MD175
      go_wp2_with fail
      refine hK.out _ _ ?_ (fun hHeld => ?_)
      ·
       exact ⟨(gB MA177.out.2.2.2.2.2.1).cell 0, (gB MA177.out.2.2.2.1).cell 0, (gB MA177.out.2.2.2.1).cell 1, (gB MA177.out.2.2.2.1).cell 2⟩
      clear hK K
      refine rl 5 fun K hK => ?_
      go_simp
      refine (ahead95 H.out.1 fp fw _ (H.out.2.1.mono (gL MA177.out.2.2.2.2.2.2.1) nr) hfp hfw).mono ?_
      rintro e wh178 ⟨he, hb⟩
      rw [HJJ.out] at he
      subst he
      have MA179 := stm MA177 hb
      clear hb MA177
      go_wp2_with fail
      refine hK.out _ _ ?_ (fun hHeld => ?_)
      ·
       exact ⟨(gB MA179.out.2.2.2.2.2.1).cell 0, (gB MA179.out.2.2.2.1).cell 0, (gB MA179.out.2.2.2.1).cell 1, (gB MA179.out.2.2.2.1).cell 2⟩
      clear hK K
      refine tk 6 ?_
      refine tk 7 ?_
      have m0 := (gB MA179.out.2.2.1).cel 0
      have m1 := (gB MA179.out.2.2.1).cel 1
      have m2 := (gB MA179.out.2.2.1).cel 2
      have m3 := (gB MA179.out.2.2.1).cel 3
      have m4 := (gB MA179.out.2.2.1).cel 4
      have m5 := (gB MA179.out.2.2.1).cel 5
      have m6 := (gB MA179.out.2.2.1).cel 6
      have m7 := (gB MA179.out.2.2.1).cel 7
      have m8 := (gB MA179.out.2.2.1).cel 8
      have mf0 := (gB MA179.out.2.2.1).free 0
      have mf1 := (gB MA179.out.2.2.1).free 1
      have mf2 := (gB MA179.out.2.2.1).free 2
      have mf3 := (gB MA179.out.2.2.1).free 3
      have mf4 := (gB MA179.out.2.2.1).free 4
      have mf5 := (gB MA179.out.2.2.1).free 5
      have mf6 := (gB MA179.out.2.2.1).free 6
      have mf7 := (gB MA179.out.2.2.1).free 7
      have mf8 := (gB MA179.out.2.2.1).free 8
      have hF181 := (Fr.refl (fun x => x = ob) wh178).put 2 (.int .i64 jj)
      have MA180 : Hid (Sts [kOw w.heap.size 112 3 (.slice xa no xc) no (intF O), kLq w.heap.size bg bo (nb) bk (B), kBx (ob) 61 #[.int .i64 cd, .int .i64 far, .int .i64 jj, .int .i64 0, .int .i64 0, .int .i64 0, .int .i64 0, .slice none 0 0, .slice xa no xc], kBx (w.heap.size + 1) 90 #[.int .i64 (fp : Int), .int .i64 fa, .int .i64 fw, .int .i64 lg, .slice (some ⟨bg, bo, none⟩) nb bk], kBx (w.heap.size + 1 + 1) 61 #[.int .i64 0, .int .i64 0, .int .i64 0, .int .i64 0, .int .i64 0, .int .i64 0, .int .i64 0, .slice none 0 0, .slice none 0 0], kBx (w.heap.size) 87 #[.pointer (some ⟨bt, 0, none⟩), .slice la v.m lc], kBn w.heap.size w] _) := ⟨owf (gO MA179.out.1) (gB MA179.out.2.2.1) hF181, (gQ MA179.out.2.1).fr hF181 ((gQ MA179.out.2.1).ne HL130.out (gB MA179.out.2.2.1) (by decide)), by have h9 := ((gB MA179.out.2.2.1).set 2 (.int .i64 jj)); exact h9, bxf (gB MA179.out.2.2.2.1) (gB MA179.out.2.2.1) hF181, (gB MA179.out.2.2.2.2.1).fr hF181 HE131.out, bxf (gB MA179.out.2.2.2.2.2.1) (gB MA179.out.2.2.1) hF181, ⟨blf MA179.out.2.2.2.2.2.2.1 HL130.out hF181, rfl⟩, trivial⟩
      clear hF181
      clear MA179
      refine rl 8 fun K hK => ?_
      go_simp
      refine hK.out _ _ ?_ (fun hHeld => ?_)
      ·
       exact ⟨(gB MA180.out.2.2.2.2.2.1).cell 0, (gB MA180.out.2.2.2.1).cell 0, (gB MA180.out.2.2.2.1).cell 1, (gB MA180.out.2.2.2.1).cell 2⟩
      clear hK K
      refine wpAnyH_done (by kernel_rfl) ?_ _
      clear m0 m1 m2 m3 m4 m5 m6 m7 m8 mf0 mf1 mf2 mf3 mf4 mf5 mf6 mf7 mf8 hHeld
      generalize (wh178.setCell ⟨ob, 2, none⟩ (.int .i64 jj)) = WQ at MA180 ⊢
      go_wp2_with fail
      go_meet
      case rel => exact ⟨cd, jj, ⟨fp, fa, fw, nb, B, far, no, O⟩, bg, bo, bk, xa, xc, ⟨fun _ => HS.out _ _ _ (by have h9 := MvTo.stop (lg := lg) hlt HR0.out HC1.out.1; rw [HC1.out.2, HJS.out] at h9; exact h9), fun h => absurd (h.symm.trans HRB.out) (by decide)⟩, HOK, ⟨(gO MA180.out.1), (gQ MA180.out.2.1), (gB MA180.out.2.2.1), (gB MA180.out.2.2.2.1), (gB MA180.out.2.2.2.2.1), (gB MA180.out.2.2.2.2.2.1), ⟨(gL MA180.out.2.2.2.2.2.2.1), rfl⟩, trivial⟩⟩
     ·
      have HN2 : Hid (mvC v L (⟨fp, fa, fw, nb, B, far, no, O⟩ : Mv) = 0 ∧ nb = 200) := ⟨hc, hn⟩
      subst he
      clear hc hn
      have M8 : Hid (Sts [kOw w.heap.size 112 3 (.slice xa no xc) no (intF O), kLq w.heap.size bg bo (nb) bk (B), kBx (ob) 61 #[.int .i64 0, .int .i64 far, .int .i64 (-1), .int .i64 0, .int .i64 0, .int .i64 0, .int .i64 0, .slice none 0 0, .slice xa no xc], kBx (w.heap.size + 1) 90 #[.int .i64 (fp : Int), .int .i64 fa, .int .i64 fw, .int .i64 lg, .slice (some ⟨bg, bo, none⟩) nb bk], kBx (w.heap.size + 1 + 1) 61 #[.int .i64 0, .int .i64 0, .int .i64 0, .int .i64 0, .int .i64 0, .int .i64 0, .int .i64 0, .slice none 0 0, .slice none 0 0], kBx (w.heap.size) 87 #[.pointer (some ⟨bt, 0, none⟩), .slice la v.m lc], kBn w.heap.size w] w8) := ⟨(gO M7.out.1).fr hf (fun g hg e => (gO M7.out.1).off (gB M7.out.2.2.2.1) (by decide) hg e), (gQ M7.out.2.1).fr hf ((gQ M7.out.2.1).ne (Nat.le_add_right _ 1) (gB M7.out.2.2.2.1) (by decide)), (gB M7.out.2.2.1).fr hf (fun e => box_ne (gB M7.out.2.2.1) (gB M7.out.2.2.2.1) (by decide) e), hbx, (gB M7.out.2.2.2.2.1).fr hf (fun e => box_ne (gB M7.out.2.2.2.2.1) (gB M7.out.2.2.2.1) (by decide) e), (gB M7.out.2.2.2.2.2.1).fr hf (fun e => box_ne (gB M7.out.2.2.2.2.2.1) (gB M7.out.2.2.2.1) (by decide) e), ⟨(gL M7.out.2.2.2.2.2.2.1).trans (hf.below (gL M7.out.2.2.2.2.2.2.1).size (fun k hk (e : k = w.heap.size + 1) => by omega)), rfl⟩, trivial⟩
      clear hf hbx M7
      have m0 := (gB M8.out.2.2.1).cel 0
      have m1 := (gB M8.out.2.2.1).cel 1
      have m2 := (gB M8.out.2.2.1).cel 2
      have m3 := (gB M8.out.2.2.1).cel 3
      have m4 := (gB M8.out.2.2.1).cel 4
      have m5 := (gB M8.out.2.2.1).cel 5
      have m6 := (gB M8.out.2.2.1).cel 6
      have m7 := (gB M8.out.2.2.1).cel 7
      have m8 := (gB M8.out.2.2.1).cel 8
      have mf0 := (gB M8.out.2.2.1).free 0
      have mf1 := (gB M8.out.2.2.1).free 1
      have mf2 := (gB M8.out.2.2.1).free 2
      have mf3 := (gB M8.out.2.2.1).free 3
      have mf4 := (gB M8.out.2.2.1).free 4
      have mf5 := (gB M8.out.2.2.1).free 5
      have mf6 := (gB M8.out.2.2.1).free 6
      have mf7 := (gB M8.out.2.2.1).free 7
      have mf8 := (gB M8.out.2.2.1).free 8
      have hF182 := (Fr.refl (fun x => x = ob) w8).put 0 (.int .i64 6)
      have MP : Hid (Sts [kOw w.heap.size 112 3 (.slice xa no xc) no (intF O), kLq w.heap.size bg bo (nb) bk (B), kBx (ob) 61 #[.int .i64 6, .int .i64 far, .int .i64 (-1), .int .i64 0, .int .i64 0, .int .i64 0, .int .i64 0, .slice none 0 0, .slice xa no xc], kBx (w.heap.size + 1) 90 #[.int .i64 (fp : Int), .int .i64 fa, .int .i64 fw, .int .i64 lg, .slice (some ⟨bg, bo, none⟩) nb bk], kBx (w.heap.size + 1 + 1) 61 #[.int .i64 0, .int .i64 0, .int .i64 0, .int .i64 0, .int .i64 0, .int .i64 0, .int .i64 0, .slice none 0 0, .slice none 0 0], kBx (w.heap.size) 87 #[.pointer (some ⟨bt, 0, none⟩), .slice la v.m lc], kBn w.heap.size w] _) := ⟨owf (gO M8.out.1) (gB M8.out.2.2.1) hF182, (gQ M8.out.2.1).fr hF182 ((gQ M8.out.2.1).ne HL130.out (gB M8.out.2.2.1) (by decide)), by have h9 := ((gB M8.out.2.2.1).set 0 (.int .i64 6)); exact h9, bxf (gB M8.out.2.2.2.1) (gB M8.out.2.2.1) hF182, (gB M8.out.2.2.2.2.1).fr hF182 HE131.out, bxf (gB M8.out.2.2.2.2.2.1) (gB M8.out.2.2.1) hF182, ⟨blf M8.out.2.2.2.2.2.2.1 HL130.out hF182, rfl⟩, trivial⟩
      clear hF182
      clear M8
      go_upto_region 7 with fail
      clear m0 m1 m2 m3 m4 m5 m6 m7 m8 mf0 mf1 mf2 mf3 mf4 mf5 mf6 mf7 mf8
      generalize (w8.setCell ⟨ob, 0, none⟩ (.int .i64 6)) = WP at MP ⊢
      have m0 := (gB MP.out.2.2.1).cel 0
      go_upto_region 8 with fail
      clear m0
      have hfd : ∀ (y : Int) (wq : World), (Instr.field 172 (.agg #[.int .i64 jj, .int .i64 y]) 0).run Tryz.prog wq = .ok (.int .i64 jj) wq := fun _ _ => by kernel_rfl
      have x0 := (gB MP.out.2.2.2.2.2.1).cel 0
      have y0 := (gB MP.out.2.2.2.1).cel 0
      have y1 := (gB MP.out.2.2.2.1).cel 1
      have y2 := (gB MP.out.2.2.2.1).cel 2
      go_wp2_with fail
      refine wp_region_held_drew (S := (fun wx : World => wx.cell? ⟨w.heap.size, 0, none⟩ = some (.pointer (some ⟨bt, 0, none⟩)) ∧ wx.cell? ⟨w.heap.size + 1, 0, none⟩ = some (.int .i64 (fp : Int)) ∧ wx.cell? ⟨w.heap.size + 1, 1, none⟩ = some (.int .i64 fa) ∧ wx.cell? ⟨w.heap.size + 1, 2, none⟩ = some (.int .i64 fw))) (by kernel_rfl) ?_ (fun hHeld => ?_)
      ·
       exact ⟨x0, y0, y1, y2⟩
      have MD183 := std MP
      clear x0 y0 y1 y2 MP
      generalize WP.drew = VD8 at MD183 hHeld ⊢
      refine tk 0 ?_
      refine tk 1 ?_
      refine tk 2 ?_
      refine tk 3 ?_
      refine rl 4 fun K hK => ?_
      go_simp
      refine (step79 (fp : Int) fa fw _).mono ?_
      rintro e wh184 ⟨rfl, hb⟩
      have MA185 := stm MD183 hb
      clear hb MD183
      go_wp2_with fail
      refine hK.out _ _ ?_ (fun hHeld => ?_)
      ·
       exact ⟨(gB MA185.out.2.2.2.2.2.1).cell 0, (gB MA185.out.2.2.2.1).cell 0, (gB MA185.out.2.2.2.1).cell 1, (gB MA185.out.2.2.2.1).cell 2⟩
      clear hK K
      refine rl 5 fun K hK => ?_
      go_simp
      refine (ahead95 H.out.1 fp fw _ (H.out.2.1.mono (gL MA185.out.2.2.2.2.2.2.1) nr) hfp hfw).mono ?_
      rintro e wh186 ⟨he, hb⟩
      rw [HJJ.out] at he
      subst he
      have MA187 := stm MA185 hb
      clear hb MA185
      go_wp2_with fail
      refine hK.out _ _ ?_ (fun hHeld => ?_)
      ·
       exact ⟨(gB MA187.out.2.2.2.2.2.1).cell 0, (gB MA187.out.2.2.2.1).cell 0, (gB MA187.out.2.2.2.1).cell 1, (gB MA187.out.2.2.2.1).cell 2⟩
      clear hK K
      refine tk 6 ?_
      refine tk 7 ?_
      have m0 := (gB MA187.out.2.2.1).cel 0
      have m1 := (gB MA187.out.2.2.1).cel 1
      have m2 := (gB MA187.out.2.2.1).cel 2
      have m3 := (gB MA187.out.2.2.1).cel 3
      have m4 := (gB MA187.out.2.2.1).cel 4
      have m5 := (gB MA187.out.2.2.1).cel 5
      have m6 := (gB MA187.out.2.2.1).cel 6
      have m7 := (gB MA187.out.2.2.1).cel 7
      have m8 := (gB MA187.out.2.2.1).cel 8
      have mf0 := (gB MA187.out.2.2.1).free 0
      have mf1 := (gB MA187.out.2.2.1).free 1
      have mf2 := (gB MA187.out.2.2.1).free 2
      have mf3 := (gB MA187.out.2.2.1).free 3
      have mf4 := (gB MA187.out.2.2.1).free 4
      have mf5 := (gB MA187.out.2.2.1).free 5
      have mf6 := (gB MA187.out.2.2.1).free 6
      have mf7 := (gB MA187.out.2.2.1).free 7
      have mf8 := (gB MA187.out.2.2.1).free 8
      have hF189 := (Fr.refl (fun x => x = ob) wh186).put 2 (.int .i64 jj)
      have MA188 : Hid (Sts [kOw w.heap.size 112 3 (.slice xa no xc) no (intF O), kLq w.heap.size bg bo (nb) bk (B), kBx (ob) 61 #[.int .i64 6, .int .i64 far, .int .i64 jj, .int .i64 0, .int .i64 0, .int .i64 0, .int .i64 0, .slice none 0 0, .slice xa no xc], kBx (w.heap.size + 1) 90 #[.int .i64 (fp : Int), .int .i64 fa, .int .i64 fw, .int .i64 lg, .slice (some ⟨bg, bo, none⟩) nb bk], kBx (w.heap.size + 1 + 1) 61 #[.int .i64 0, .int .i64 0, .int .i64 0, .int .i64 0, .int .i64 0, .int .i64 0, .int .i64 0, .slice none 0 0, .slice none 0 0], kBx (w.heap.size) 87 #[.pointer (some ⟨bt, 0, none⟩), .slice la v.m lc], kBn w.heap.size w] _) := ⟨owf (gO MA187.out.1) (gB MA187.out.2.2.1) hF189, (gQ MA187.out.2.1).fr hF189 ((gQ MA187.out.2.1).ne HL130.out (gB MA187.out.2.2.1) (by decide)), by have h9 := ((gB MA187.out.2.2.1).set 2 (.int .i64 jj)); exact h9, bxf (gB MA187.out.2.2.2.1) (gB MA187.out.2.2.1) hF189, (gB MA187.out.2.2.2.2.1).fr hF189 HE131.out, bxf (gB MA187.out.2.2.2.2.2.1) (gB MA187.out.2.2.1) hF189, ⟨blf MA187.out.2.2.2.2.2.2.1 HL130.out hF189, rfl⟩, trivial⟩
      clear hF189
      clear MA187
      refine rl 8 fun K hK => ?_
      go_simp
      refine hK.out _ _ ?_ (fun hHeld => ?_)
      ·
       exact ⟨(gB MA188.out.2.2.2.2.2.1).cell 0, (gB MA188.out.2.2.2.1).cell 0, (gB MA188.out.2.2.2.1).cell 1, (gB MA188.out.2.2.2.1).cell 2⟩
      clear hK K
      refine wpAnyH_done (by kernel_rfl) ?_ _
      clear m0 m1 m2 m3 m4 m5 m6 m7 m8 mf0 mf1 mf2 mf3 mf4 mf5 mf6 mf7 mf8 hHeld
      generalize (wh186.setCell ⟨ob, 2, none⟩ (.int .i64 jj)) = WQ at MA188 ⊢
      go_wp2_with fail
      go_meet
      case rel => exact ⟨6, jj, ⟨fp, fa, fw, nb, B, far, no, O⟩, bg, bo, bk, xa, xc, ⟨fun _ => HS.out _ _ _ (by have h9 := MvTo.many (lg := lg) hlt HR0.out HN2.out.1 HN2.out.2; rw [HJS.out] at h9; exact h9), fun h => absurd (h.symm.trans HRB.out) (by decide)⟩, HOK, ⟨(gO MA188.out.1), (gQ MA188.out.2.1), (gB MA188.out.2.2.1), (gB MA188.out.2.2.2.1), (gB MA188.out.2.2.2.2.1), (gB MA188.out.2.2.2.2.2.1), ⟨(gL MA188.out.2.2.2.2.2.2.1), rfl⟩, trivial⟩⟩
     ·
      have hc : mvC v L (⟨fp, fa, fw, nb, B, far, no, O⟩ : Mv) = 0 := hc
      subst he
      have M8 : Hid (Sts [kLq w.heap.size yg 0 (nb + 1) yc ((stF (fp : Int) fw B)), kOw w.heap.size 112 3 (.slice xa no xc) no (intF O), kBx (ob) 61 #[.int .i64 0, .int .i64 far, .int .i64 (-1), .int .i64 0, .int .i64 0, .int .i64 0, .int .i64 0, .slice none 0 0, .slice xa no xc], kBx (w.heap.size + 1) 90 #[.int .i64 (q2 : Int), .int .i64 (farI (v.P q2).ln 0 nw), .int .i64 nw, .int .i64 lg, .slice (some ⟨yg, 0, none⟩) (nb + 1) yc], kBx (w.heap.size + 1 + 1) 61 #[.int .i64 0, .int .i64 0, .int .i64 0, .int .i64 0, .int .i64 0, .int .i64 0, .int .i64 0, .slice none 0 0, .slice none 0 0], kBx (w.heap.size) 87 #[.pointer (some ⟨bt, 0, none⟩), .slice la v.m lc], kBn w.heap.size w] w8) := ⟨LstQ.own hown, (gO M7.out.1).fr hf (fun g hg e => (gO M7.out.1).off (gB M7.out.2.2.2.1) (by decide) hg e), (gB M7.out.2.2.1).fr hf (fun e => box_ne (gB M7.out.2.2.1) (gB M7.out.2.2.2.1) (by decide) e), hbx, (gB M7.out.2.2.2.2.1).fr hf (fun e => box_ne (gB M7.out.2.2.2.2.1) (gB M7.out.2.2.2.1) (by decide) e), (gB M7.out.2.2.2.2.2.1).fr hf (fun e => box_ne (gB M7.out.2.2.2.2.2.1) (gB M7.out.2.2.2.1) (by decide) e), ⟨(gL M7.out.2.2.2.2.2.2.1).trans (hf.below (gL M7.out.2.2.2.2.2.2.1).size (fun k hk (e : k = w.heap.size + 1) => by omega)), rfl⟩, trivial⟩
      clear hf hbx hown M7
      have m0 := (gB M8.out.2.2.1).cel 0
      have m1 := (gB M8.out.2.2.1).cel 1
      have m2 := (gB M8.out.2.2.1).cel 2
      have m3 := (gB M8.out.2.2.1).cel 3
      have m4 := (gB M8.out.2.2.1).cel 4
      have m5 := (gB M8.out.2.2.1).cel 5
      have m6 := (gB M8.out.2.2.1).cel 6
      have m7 := (gB M8.out.2.2.1).cel 7
      have m8 := (gB M8.out.2.2.1).cel 8
      have mf0 := (gB M8.out.2.2.1).free 0
      have mf1 := (gB M8.out.2.2.1).free 1
      have mf2 := (gB M8.out.2.2.1).free 2
      have mf3 := (gB M8.out.2.2.1).free 3
      have mf4 := (gB M8.out.2.2.1).free 4
      have mf5 := (gB M8.out.2.2.1).free 5
      have mf6 := (gB M8.out.2.2.1).free 6
      have mf7 := (gB M8.out.2.2.1).free 7
      have mf8 := (gB M8.out.2.2.1).free 8
      have hF190 := (Fr.refl (fun x => x = ob) w8).put 0 (.int .i64 0)
      have M9 : Hid (Sts [kLq w.heap.size yg 0 (nb + 1) yc ((stF (fp : Int) fw B)), kOw w.heap.size 112 3 (.slice xa no xc) no (intF O), kBx (ob) 61 #[.int .i64 0, .int .i64 far, .int .i64 (-1), .int .i64 0, .int .i64 0, .int .i64 0, .int .i64 0, .slice none 0 0, .slice xa no xc], kBx (w.heap.size + 1) 90 #[.int .i64 (q2 : Int), .int .i64 (farI (v.P q2).ln 0 nw), .int .i64 nw, .int .i64 lg, .slice (some ⟨yg, 0, none⟩) (nb + 1) yc], kBx (w.heap.size + 1 + 1) 61 #[.int .i64 0, .int .i64 0, .int .i64 0, .int .i64 0, .int .i64 0, .int .i64 0, .int .i64 0, .slice none 0 0, .slice none 0 0], kBx (w.heap.size) 87 #[.pointer (some ⟨bt, 0, none⟩), .slice la v.m lc], kBn w.heap.size w] _) := ⟨(gQ M8.out.1).fr hF190 ((gQ M8.out.1).ne HL130.out (gB M8.out.2.2.1) (by decide)), owf (gO M8.out.2.1) (gB M8.out.2.2.1) hF190, by have h9 := ((gB M8.out.2.2.1).set 0 (.int .i64 0)); exact h9, bxf (gB M8.out.2.2.2.1) (gB M8.out.2.2.1) hF190, (gB M8.out.2.2.2.2.1).fr hF190 HE131.out, bxf (gB M8.out.2.2.2.2.2.1) (gB M8.out.2.2.1) hF190, ⟨blf M8.out.2.2.2.2.2.2.1 HL130.out hF190, rfl⟩, trivial⟩
      clear hF190
      clear M8
      go_upto_region 7 with fail
      clear m0 m1 m2 m3 m4 m5 m6 m7 m8 mf0 mf1 mf2 mf3 mf4 mf5 mf6 mf7 mf8
      generalize (w8.setCell ⟨ob, 0, none⟩ (.int .i64 0)) = W9 at M9 ⊢
      have HNX : Hid ((mvE v L (⟨fp, fa, fw, nb, B, far, no, O⟩ : Mv)) = (⟨q2, farI (v.P q2).ln 0 nw, nw, nb + 1, (stF (fp : Int) fw B), far, no, O⟩ : Mv)) := by
       show (⟨(nextAt v L fp fw).pc.toNat, farI (v.P (nextAt v L fp fw).pc.toNat).ln 0 (wayOf (nextAt v L fp fw)), wayOf (nextAt v L fp fw), nb + 1, (stF (fp : Int) fw B), far, no, O⟩ : Mv) = _
       rw [hq2.1, hq2.2, Int.toNat_natCast]
      have HOE : Hid (MvOk v lg (mvE v L (⟨fp, fa, fw, nb, B, far, no, O⟩ : Mv)) ∧ ¬ mvR v (mvE v L (⟨fp, fa, fw, nb, B, far, no, O⟩ : Mv)) = 0) := ⟨mvE_ok H.out.1 H.out.2.2.2.1 HOK.out HR0.out hc hn, mvE_more H.out.1 H.out.2.2.2.1 HOK.out hc⟩
      have HSE : Hid (∀ r c j, MvTo v L lg T (mvE v L (⟨fp, fa, fw, nb, B, far, no, O⟩ : Mv)) r c j → MvTo v L lg T (mv0 fq ga gw mb C) r c j) := fun r c j h => HS.out r c j (.enter hlt HR0.out hc hn h)
      rw [HNX.out] at HOE HSE
      have m0 := (gB M9.out.2.2.1).cel 0
      clear hc hn hq2 HNX
      go_wp2_with fail
      go_meet
      case rel => exact ⟨q2, farI (v.P q2).ln 0 nw, nw, nb + 1, (stF (fp : Int) fw B), yg, 0, yc, HSE, HOE.out.1, HOE.out.2, ⟨(gO M9.out.2.1), (gQ M9.out.1), (gB M9.out.2.2.1), (gB M9.out.2.2.2.1), (gB M9.out.2.2.2.2.1), (gB M9.out.2.2.2.2.2.1), ⟨(gL M9.out.2.2.2.2.2.2.1), rfl⟩, trivial⟩⟩
    ·
     have HR1 : Hid (¬ mvR v (⟨fp, fa, fw, nb, B, far, no, O⟩ : Mv) = 0) := fun h => hr0 (HRS.out.symm.trans h)
     have hr0' : (rm == 0) = false := by simpa using hr0
     go_wp2_with fail
     go_meet
     case rel => exact ⟨fp, fa, fw, nb, B, bg, bo, bk, HS, HOK, HR1, ⟨(gO M7.out.1), (gQ M7.out.2.1), (gB M7.out.2.2.1), (gB M7.out.2.2.2.1), (gB M7.out.2.2.2.2.1), (gB M7.out.2.2.2.2.2.1), ⟨(gL M7.out.2.2.2.2.2.2.1), rfl⟩, trivial⟩⟩
   case rest =>
    clear HS HOK M7 HRS HRM hfp hfw hfa hln
    obtain ⟨fp, fa, fw, nb, B, bg, bo, bk, HS, HOK, HR1, T1⟩ := hcut
    generalize wc = W9 at T1 ⊢
    have M9 : Hid (Sts [kOw w.heap.size 112 3 (.slice xa no xc) no (intF O), kLq w.heap.size bg bo (nb) bk (B), kBx (ob) 61 #[.int .i64 0, .int .i64 far, .int .i64 (-1), .int .i64 0, .int .i64 0, .int .i64 0, .int .i64 0, .slice none 0 0, .slice xa no xc], kBx (w.heap.size + 1) 90 #[.int .i64 (fp : Int), .int .i64 fa, .int .i64 fw, .int .i64 lg, .slice (some ⟨bg, bo, none⟩) nb bk], kBx (w.heap.size + 1 + 1) 61 #[.int .i64 0, .int .i64 0, .int .i64 0, .int .i64 0, .int .i64 0, .int .i64 0, .int .i64 0, .slice none 0 0, .slice none 0 0], kBx (w.heap.size) 87 #[.pointer (some ⟨bt, 0, none⟩), .slice la v.m lc], kBn w.heap.size w] W9) := T1
    clear T1
    obtain ⟨hfp, hfw, hfa⟩ : fp < v.n ∧ (fw = 1 ∨ fw = -1) ∧ 0 ≤ fa ∧ fa ≤ (v.P fp).ln := mv_spot HOK.out
    have hln := H.out.1.ln fp hfp
    obtain ⟨rm, HRM⟩ : ∃ r, Hid ((v.P fp).ln - farI (v.P fp).ln fa fw = r) := ⟨_, rfl⟩
    have HRS : Hid (mvR v (⟨fp, fa, fw, nb, B, far, no, O⟩ : Mv) = rm) := (mv_room HOK.out).2.2.1.trans HRM.out
    obtain ⟨bb, HBY⟩ : ∃ b, Hid (mvBy v T (⟨fp, fa, fw, nb, B, far, no, O⟩ : Mv) = b) := ⟨_, rfl⟩
    have HB1 : Hid (T - far < rm → T - far = bb) := fun h => by
     rw [← HBY.out]
     show _ = (if mvR v (⟨fp, fa, fw, nb, B, far, no, O⟩ : Mv) ≤ T - far then mvR v (⟨fp, fa, fw, nb, B, far, no, O⟩ : Mv) else T - far)
     rw [HRS.out, if_neg (by omega)]
    have HB2 : Hid (¬ T - far < rm → rm = bb) := fun h => by
     rw [← HBY.out]
     show _ = (if mvR v (⟨fp, fa, fw, nb, B, far, no, O⟩ : Mv) ≤ T - far then mvR v (⟨fp, fa, fw, nb, B, far, no, O⟩ : Mv) else T - far)
     rw [HRS.out, if_pos (by omega)]
    have hwt : IntKind.i64.wrap (T - far) = T - far := by rw [IntKind.wrap_i64]; omega
    go_upto_region 9 with fail
    go_cut [8] from 18 to 60 (fun s8 wx => s8 = .int .i64 bb ∧ Hid (Sts [kOw w.heap.size 112 3 (.slice xa no xc) no (intF O), kLq w.heap.size bg bo (nb) bk (B), kBx (ob) 61 #[.int .i64 0, .int .i64 far, .int .i64 (-1), .int .i64 0, .int .i64 0, .int .i64 0, .int .i64 0, .slice none 0 0, .slice xa no xc], kBx (w.heap.size + 1) 90 #[.int .i64 (fp : Int), .int .i64 fa, .int .i64 fw, .int .i64 lg, .slice (some ⟨bg, bo, none⟩) nb bk], kBx (w.heap.size + 1 + 1) 61 #[.int .i64 0, .int .i64 0, .int .i64 0, .int .i64 0, .int .i64 0, .int .i64 0, .int .i64 0, .slice none 0 0, .slice none 0 0], kBx (w.heap.size) 87 #[.pointer (some ⟨bt, 0, none⟩), .slice la v.m lc], kBn w.heap.size w] wx))
    case first =>
     by_cases hmn : T - far < rm
     ·
      have x0 : W9.cell? ⟨w.heap.size, 0, none⟩ = some (.pointer (some ⟨bt, 0, none⟩)) := (gB M9.out.2.2.2.2.2.1).cell 0
      have x1 := (gB M9.out.2.2.2.2.2.1).cel 1
      have y0 := (gB M9.out.2.2.2.1).cel 0
      have y1 := (gB M9.out.2.2.2.1).cel 1
      have y2 := (gB M9.out.2.2.2.1).cel 2
      have y3 := (gB M9.out.2.2.2.1).cel 3
      have y4 := (gB M9.out.2.2.2.1).cel 4
      have m1 := (gB M9.out.2.2.1).cel 1
      go_wp2_with fail
      refine wp_region_held_drew (S := (fun wx : World => wx.cell? ⟨w.heap.size, 0, none⟩ = some (.pointer (some ⟨bt, 0, none⟩)) ∧ wx.cell? ⟨w.heap.size, 1, none⟩ = some (.slice la v.m lc) ∧ wx.cell? ⟨w.heap.size + 1, 0, none⟩ = some (.int .i64 (fp : Int)) ∧ wx.cell? ⟨w.heap.size + 1, 1, none⟩ = some (.int .i64 fa) ∧ wx.cell? ⟨w.heap.size + 1, 2, none⟩ = some (.int .i64 fw) ∧ wx.cell? ⟨w.heap.size + 1, 3, none⟩ = some (.int .i64 lg) ∧ wx.cell? ⟨w.heap.size + 1, 4, none⟩ = some (.slice (some ⟨bg, bo, none⟩) nb bk) ∧ wx.cell? ⟨ob, 1, none⟩ = some (.int .i64 far))) (by kernel_rfl) ?_ (fun hHeld => ?_)
      ·
       exact ⟨x0, x1, y0, y1, y2, y3, y4, m1⟩
      have MD132 := std M9
      clear x0 x1 y0 y1 y2 y3 y4 m1 M9
      generalize W9.drew = VD9 at MD132 hHeld ⊢
      refine tk 0 ?_
      refine tk 1 ?_
      refine tk 3 ?_
      refine tk 4 ?_
      refine tk 5 ?_
      refine tk 6 ?_
      refine rl 2 fun K hK => ?_
      go_simp
      refine (room113 H.out.1 fp fa fw lg (some ⟨bg, bo, none⟩) nb bk la lc _ (H.out.2.1.mono (gL MD132.out.2.2.2.2.2.2.1) nr) hfp ⟨hfa.1, by omega⟩).mono ?_
      rintro e wh133 ⟨he, hb⟩
      rw [HRM.out] at he
      subst he
      have MA134 := stm MD132 hb
      clear hb MD132
      go_wp2_with fail
      refine hK.out _ _ ?_ (fun hHeld => ?_)
      ·
       exact ⟨(gB MA134.out.2.2.2.2.2.1).cell 0, (gB MA134.out.2.2.2.2.2.1).cell 1, (gB MA134.out.2.2.2.1).cell 0, (gB MA134.out.2.2.2.1).cell 1, (gB MA134.out.2.2.2.1).cell 2, (gB MA134.out.2.2.2.1).cell 3, (gB MA134.out.2.2.2.1).cell 4, (gB MA134.out.2.2.1).cell 1⟩
      clear hK K
      refine tk 7 ?_
      refine tk 8 ?_
      refine wpAnyH_done (by kernel_rfl) ?_ _
      clear hHeld
      go_wp2_with fail
      go_meet
      case rel => exact ⟨congrArg (Value.int .i64) (HB1.out hmn), ⟨(gO MA134.out.1), (gQ MA134.out.2.1), (gB MA134.out.2.2.1), (gB MA134.out.2.2.2.1), (gB MA134.out.2.2.2.2.1), (gB MA134.out.2.2.2.2.2.1), ⟨(gL MA134.out.2.2.2.2.2.2.1), rfl⟩, trivial⟩⟩
     ·
      have x0 : W9.cell? ⟨w.heap.size, 0, none⟩ = some (.pointer (some ⟨bt, 0, none⟩)) := (gB M9.out.2.2.2.2.2.1).cell 0
      have x1 := (gB M9.out.2.2.2.2.2.1).cel 1
      have y0 := (gB M9.out.2.2.2.1).cel 0
      have y1 := (gB M9.out.2.2.2.1).cel 1
      have y2 := (gB M9.out.2.2.2.1).cel 2
      have y3 := (gB M9.out.2.2.2.1).cel 3
      have y4 := (gB M9.out.2.2.2.1).cel 4
      have m1 := (gB M9.out.2.2.1).cel 1
      go_wp2_with fail
      refine wp_region_held_drew (S := (fun wx : World => wx.cell? ⟨w.heap.size, 0, none⟩ = some (.pointer (some ⟨bt, 0, none⟩)) ∧ wx.cell? ⟨w.heap.size, 1, none⟩ = some (.slice la v.m lc) ∧ wx.cell? ⟨w.heap.size + 1, 0, none⟩ = some (.int .i64 (fp : Int)) ∧ wx.cell? ⟨w.heap.size + 1, 1, none⟩ = some (.int .i64 fa) ∧ wx.cell? ⟨w.heap.size + 1, 2, none⟩ = some (.int .i64 fw) ∧ wx.cell? ⟨w.heap.size + 1, 3, none⟩ = some (.int .i64 lg) ∧ wx.cell? ⟨w.heap.size + 1, 4, none⟩ = some (.slice (some ⟨bg, bo, none⟩) nb bk) ∧ wx.cell? ⟨ob, 1, none⟩ = some (.int .i64 far))) (by kernel_rfl) ?_ (fun hHeld => ?_)
      ·
       exact ⟨x0, x1, y0, y1, y2, y3, y4, m1⟩
      have MD135 := std M9
      clear x0 x1 y0 y1 y2 y3 y4 m1 M9
      generalize W9.drew = VD9 at MD135 hHeld ⊢
      refine tk 0 ?_
      refine tk 1 ?_
      refine tk 3 ?_
      refine tk 4 ?_
      refine tk 5 ?_
      refine tk 6 ?_
      refine rl 2 fun K hK => ?_
      go_simp
      refine (room113 H.out.1 fp fa fw lg (some ⟨bg, bo, none⟩) nb bk la lc _ (H.out.2.1.mono (gL MD135.out.2.2.2.2.2.2.1) nr) hfp ⟨hfa.1, by omega⟩).mono ?_
      rintro e wh136 ⟨he, hb⟩
      rw [HRM.out] at he
      subst he
      have MA137 := stm MD135 hb
      clear hb MD135
      go_wp2_with fail
      refine hK.out _ _ ?_ (fun hHeld => ?_)
      ·
       exact ⟨(gB MA137.out.2.2.2.2.2.1).cell 0, (gB MA137.out.2.2.2.2.2.1).cell 1, (gB MA137.out.2.2.2.1).cell 0, (gB MA137.out.2.2.2.1).cell 1, (gB MA137.out.2.2.2.1).cell 2, (gB MA137.out.2.2.2.1).cell 3, (gB MA137.out.2.2.2.1).cell 4, (gB MA137.out.2.2.1).cell 1⟩
      clear hK K
      refine tk 7 ?_
      refine tk 8 ?_
      refine wpAnyH_done (by kernel_rfl) ?_ _
      clear hHeld
      go_wp2_with fail
      go_meet
      case rel => exact ⟨congrArg (Value.int .i64) (HB2.out hmn), ⟨(gO MA137.out.1), (gQ MA137.out.2.1), (gB MA137.out.2.2.1), (gB MA137.out.2.2.2.1), (gB MA137.out.2.2.2.2.1), (gB MA137.out.2.2.2.2.2.1), ⟨(gL MA137.out.2.2.2.2.2.2.1), rfl⟩, trivial⟩⟩
    case rest =>
     obtain ⟨rfl, M10⟩ := hcut
     clear M9 HB1 HB2
     generalize wc = W10 at M10 ⊢
     have HBP : Hid (0 < bb ∧ bb ≤ rm ∧ bb ≤ T - far) := by have h9 := mv_by HOK.out hlt HR1.out; rw [HBY.out, HRS.out] at h9; exact h9
     obtain ⟨al, HAL⟩ : ∃ a, Hid (farI (v.P fp).ln fa fw = a) := ⟨_, rfl⟩
     have hal : 0 ≤ al ∧ al + bb ≤ (v.P fp).ln := by
      have h9 := mv_room HOK.out
      have h8 := HBP.out
      rw [show mvAl v (⟨fp, fa, fw, nb, B, far, no, O⟩ : Mv) = al from HAL.out, HRS.out] at h9
      have h7 := h9.2.2.1
      have h6 := h9.2.2.2.1
      simp only at h7
      omega
     obtain ⟨hbp1, hbp2, hbp3⟩ := HBP.out
     obtain ⟨t1, t2, HT12⟩ : ∃ t1 t2, Hid (pfA (v.P fp).ln fw al (al + bb) = t1 ∧ pfB (v.P fp).ln fw al (al + bb) = t2) := ⟨_, _, rfl, rfl⟩
     have HVS : Hid ((#[.int .i64 (fp : Int), .int .i64 t1, .int .i64 t2] : Array Value).toList = (List.range 3).map (intF (ovF no O (fp : Int) t1 t2) no)) := by
      show _ = _
      simp [List.range_succ, intF, ovF]
     have hw4 : IntKind.i64.wrap (far + bb) = far + bb := by rw [IntKind.wrap_i64]; omega
     have HOA : Hid (MvOk v lg (mvA v lg T (⟨fp, fa, fw, nb, B, far, no, O⟩ : Mv))) := mvA_ok HOK.out hlt HR1.out
     have e1 : (mvA v lg T (⟨fp, fa, fw, nb, B, far, no, O⟩ : Mv)).fa = fa + bb * fw := by rw [← HBY.out]; rfl
     have HF1 : Hid (farI (v.P fp).ln (farI (v.P fp).ln fa fw + bb) fw = fa + bb * fw) := by
      have h9 := (mvA_fa HOK.out hlt HR1.out).2.2.2
      rw [e1, HBY.out] at h9
      exact h9
     have HA1 : Hid (spotB v (fp : Int) (fa + bb * fw) fw = true) := by
      have h9 := HOA.out.spot
      rw [e1] at h9
      exact h9
     obtain ⟨zz, HZ⟩ : ∃ z, Hid (ndN (hvF v (fp : Int) (fa + bb * fw) fw B) lg nb = z) := ⟨_, rfl⟩
     have HZL : Hid (zz ≤ nb) := by
      have h9 := (mvA_nb HOK.out hlt HR1.out).1
      rw [← HZ.out, ← HBY.out]
      exact h9
     have HNO2 : Hid (((mvA v lg T (⟨fp, fa, fw, nb, B, far, no, O⟩ : Mv)).no : Int) ≤ (mvA v lg T (⟨fp, fa, fw, nb, B, far, no, O⟩ : Mv)).far ∧ (mvA v lg T (⟨fp, fa, fw, nb, B, far, no, O⟩ : Mv)).far ≤ T) := by
      have e1 : (mvA v lg T (⟨fp, fa, fw, nb, B, far, no, O⟩ : Mv)).far = far + bb := by rw [← HBY.out]; rfl
      have e2 : (((mvA v lg T (⟨fp, fa, fw, nb, B, far, no, O⟩ : Mv)).no : Nat) : Int) = (no : Int) + 1 := rfl
      rw [e1, e2]
      show _ ∧ _
      omega
     clear e1
     go_upto_region 10 with fail
     go_cut [] from 18 to 60 (fun wx => ∃ (g2 : Option Addr) (gc : Nat), Hid (Sts [kOw w.heap.size 112 3 (.slice g2 (no + 1) gc) (no + 1) (intF (ovF no O (fp : Int) t1 t2)), kLq w.heap.size bg bo (nb) bk (B), kBx (ob) 61 #[.int .i64 0, .int .i64 far, .int .i64 (-1), .int .i64 0, .int .i64 0, .int .i64 0, .int .i64 0, .slice none 0 0, .slice g2 (no + 1) gc], kBx (w.heap.size + 1) 90 #[.int .i64 (fp : Int), .int .i64 (fa + bb * fw), .int .i64 fw, .int .i64 lg, .slice (some ⟨bg, bo, none⟩) zz bk], kBx (w.heap.size + 1 + 1) 61 #[.int .i64 0, .int .i64 0, .int .i64 0, .int .i64 0, .int .i64 0, .int .i64 0, .int .i64 0, .slice none 0 0, .slice none 0 0], kBx (w.heap.size) 87 #[.pointer (some ⟨bt, 0, none⟩), .slice la v.m lc], kBn w.heap.size w] wx))
     case first =>
      have x0 := (gB M10.out.2.2.2.2.2.1).cel 0
      have x1 := (gB M10.out.2.2.2.2.2.1).cel 1
      go_wp2_with fail
      refine wp_region_held_drew (S := (fun wx : World => wx.cell? ⟨w.heap.size, 0, none⟩ = some (.pointer (some ⟨bt, 0, none⟩)) ∧ wx.cell? ⟨w.heap.size, 1, none⟩ = some (.slice la v.m lc))) (by kernel_rfl) ?_ (fun hHeld => ?_)
      ·
       exact ⟨x0, x1⟩
      have MD138 := std M10
      clear x0 x1 M10
      generalize W10.drew = VD10 at MD138 hHeld ⊢
      refine tk 0 ?_
      refine tk 2 ?_
      refine tk 3 ?_
      refine ready2_lit (i := 1) (j := 4) (by kernel_rfl) rfl rfl (fun K hK => ?_) (fun K hK => ?_)
      ·
       have o8 : VD10.cell? ⟨ob, 8, none⟩ = some (.slice xa no xc) := (gB MD138.out.2.2.1).cell 8
       go_simp
       refine hK.out _ _ ?_ (fun hHeld => ?_)
       ·
        exact ⟨(gB MD138.out.2.2.2.2.2.1).cell 0, (gB MD138.out.2.2.2.2.2.1).cell 1⟩
       clear hK K
       clear o8
       refine rl 4 fun K hK => ?_
       go_simp
       refine (advance116 H.out.1 (w.heap.size + 1) fp fa fw lg bb (fa + bb * fw) bg bo nb bk B la lc w _ H.out.2.1 (gL MD138.out.2.2.2.2.2.2.1) (Nat.le_succ _) hfp ⟨hfa.1, hfa.2⟩ hfw ⟨by omega, by rw [HAL.out]; exact hal.2⟩ HF1.out HA1.out ⟨HOK.out.lg0, HOK.out.lg1⟩ HOK.out.nb1 (gQ MD138.out.2.1).2.1 HOK.out.step (gQ MD138.out.2.1).1 ((gQ MD138.out.2.1).ne (Nat.le_add_right _ 1) (gB MD138.out.2.2.2.1) (by decide)) (by rw [HZ.out]; exact HZL.out) (gB MD138.out.2.2.2.1)).mono ?_
       rintro e wh139 ⟨he, hf, hbx⟩
       rw [HAL.out, HT12.out.1, HT12.out.2] at he
       rw [HZ.out] at hbx
       subst he
       have MA140 : Hid (Sts [kOw w.heap.size 112 3 (.slice xa no xc) no (intF O), kLq w.heap.size bg bo (nb) bk (B), kBx (ob) 61 #[.int .i64 0, .int .i64 far, .int .i64 (-1), .int .i64 0, .int .i64 0, .int .i64 0, .int .i64 0, .slice none 0 0, .slice xa no xc], kBx (w.heap.size + 1) 90 #[.int .i64 (fp : Int), .int .i64 (fa + bb * fw), .int .i64 fw, .int .i64 lg, .slice (some ⟨bg, bo, none⟩) zz bk], kBx (w.heap.size + 1 + 1) 61 #[.int .i64 0, .int .i64 0, .int .i64 0, .int .i64 0, .int .i64 0, .int .i64 0, .int .i64 0, .slice none 0 0, .slice none 0 0], kBx (w.heap.size) 87 #[.pointer (some ⟨bt, 0, none⟩), .slice la v.m lc], kBn w.heap.size w] wh139) := ⟨(gO MD138.out.1).fr hf (fun g hg e => (gO MD138.out.1).off (gB MD138.out.2.2.2.1) (by decide) hg e), (gQ MD138.out.2.1).fr hf ((gQ MD138.out.2.1).ne (Nat.le_add_right _ 1) (gB MD138.out.2.2.2.1) (by decide)), (gB MD138.out.2.2.1).fr hf (fun e => box_ne (gB MD138.out.2.2.1) (gB MD138.out.2.2.2.1) (by decide) e), hbx, (gB MD138.out.2.2.2.2.1).fr hf (fun e => box_ne (gB MD138.out.2.2.2.2.1) (gB MD138.out.2.2.2.1) (by decide) e), (gB MD138.out.2.2.2.2.2.1).fr hf (fun e => box_ne (gB MD138.out.2.2.2.2.2.1) (gB MD138.out.2.2.2.1) (by decide) e), ⟨(gL MD138.out.2.2.2.2.2.2.1).trans (hf.below (gL MD138.out.2.2.2.2.2.2.1).size (fun k hk (e : k = w.heap.size + 1) => by omega)), rfl⟩, trivial⟩
       clear hf hbx MD138
       go_wp2_with fail
       refine hK.out _ _ ?_ (fun hHeld => ?_)
       ·
        exact ⟨(gB MA140.out.2.2.2.2.2.1).cell 0, (gB MA140.out.2.2.2.2.2.1).cell 1⟩
       clear hK K
       refine rl 5 fun K hK => ?_
       have MA142 := stx (k := kBx (wh139.heap.size) 112 #[.int .i64 (fp : Int), .int .i64 t1, .int .i64 t2]) (sta MA140 (.cells #[.int .i64 (fp : Int), .int .i64 t1, .int .i64 t2] 112)) (Box.new _ _ _)
       have HL143 : Hid (w.heap.size ≤ wh139.heap.size) := (gL MA140.out.2.2.2.2.2.2.1).size
       have HO144 : Hid (∀ g, (Value.slice xa no xc).ownBlock = some g → g < wh139.heap.size) := fun g hg => ((gO MA140.out.1).lt hg).2
       clear MA140
       go_simp
       refine hK.out _ _ ?_ (fun hHeld => ?_)
       ·
        exact ⟨(gB MA142.out.2.2.2.2.2.2.1).cell 0, (gB MA142.out.2.2.2.2.2.2.1).cell 1⟩
       clear hK K
       clear hHeld
       generalize wh139.alloc (.cells #[.int .i64 (fp : Int), .int .i64 t1, .int .i64 t2] 112) = V141 at MA142 ⊢
       generalize wh139.heap.size = qb at MA142 HL143 HO144 ⊢
       have HOV : Hid (VOwn w.heap.size 112 3 V141 (.slice xa no xc) no (intF (ovF no O (fp : Int) t1 t2))) := (gO MA142.out.2.1).congr (fun i hi j _ => by show Value.int .i64 (O i j) = Value.int .i64 (ovF no O (fp : Int) t1 t2 i j); rw [ovF, if_neg (by omega)])
       have HSZ : Hid (w.heap.size ≤ V141.heap.size) := (gL MA142.out.2.2.2.2.2.2.2.1).size
       refine rl 6 fun K hK => ?_
       refine step_vapp V141 rfl _ _ 59 rfl w.heap.size 112 i1 _ 3 24 Tryz.underlying59 hi1 hz1 hs1 hb1 rfl (by decide) (.slice xa no xc) no (intF (ovF no O (fp : Int) t1 t2)) rfl HOV.out (fun _ _ => rfl) qb 1 #[.int .i64 (fp : Int), .int .i64 t1, .int .i64 t2] rfl (gB MA142.out.1) HVS.out (by simp only [maxLen]; omega) (by omega) HSZ.out ?_
       intro g2 gc wg145 ho2 hg2
       have MG146 : Hid (Sts [kOw w.heap.size 112 3 (.slice (some ⟨g2, 0, none⟩) (no + 1) gc) (no + 1) (intF (ovF no O (fp : Int) t1 t2)), kLq w.heap.size bg bo (nb) bk (B), kBx (ob) 61 #[.int .i64 0, .int .i64 far, .int .i64 (-1), .int .i64 0, .int .i64 0, .int .i64 0, .int .i64 0, .slice none 0 0, .slice xa no xc], kBx (w.heap.size + 1) 90 #[.int .i64 (fp : Int), .int .i64 (fa + bb * fw), .int .i64 fw, .int .i64 lg, .slice (some ⟨bg, bo, none⟩) zz bk], kBx (w.heap.size + 1 + 1) 61 #[.int .i64 0, .int .i64 0, .int .i64 0, .int .i64 0, .int .i64 0, .int .i64 0, .int .i64 0, .slice none 0 0, .slice none 0 0], kBx (w.heap.size) 87 #[.pointer (some ⟨bt, 0, none⟩), .slice la v.m lc], kBn w.heap.size w] wg145) := ⟨ho2, (gQ MA142.out.2.2.1).grown (gO MA142.out.2.1) nr (by decide) hg2, (gB MA142.out.2.2.2.1).grown hg2 (fun e => (gO MA142.out.2.1).off (gB MA142.out.2.2.2.1) (by decide) e rfl), (gB MA142.out.2.2.2.2.1).grown hg2 (fun e => (gO MA142.out.2.1).off (gB MA142.out.2.2.2.2.1) (by decide) e rfl), (gB MA142.out.2.2.2.2.2.1).grown hg2 (fun e => (gO MA142.out.2.1).off (gB MA142.out.2.2.2.2.2.1) (by decide) e rfl), (gB MA142.out.2.2.2.2.2.2.1).grown hg2 (fun e => (gO MA142.out.2.1).off (gB MA142.out.2.2.2.2.2.2.1) (by decide) e rfl), ⟨(gL MA142.out.2.2.2.2.2.2.2.1).grown hg2 (gL MA142.out.2.2.2.2.2.2.2.1).size (fun _ hj => ((gO MA142.out.2.1).lt hj).1), rfl⟩, trivial⟩
       clear ho2 hg2 HOV HSZ MA142
       simp only [Act.put, List.setIfInBounds_toArray, List.set_cons_zero, List.set_cons_succ]
       refine hK.out _ _ ?_ (fun hHeld => ?_)
       ·
        exact ⟨(gB MG146.out.2.2.2.2.2.1).cell 0, (gB MG146.out.2.2.2.2.2.1).cell 1⟩
       clear hK K
       refine tk 7 ?_
       have m0 := (gB MG146.out.2.2.1).cel 0
       have m1 := (gB MG146.out.2.2.1).cel 1
       have m2 := (gB MG146.out.2.2.1).cel 2
       have m3 := (gB MG146.out.2.2.1).cel 3
       have m4 := (gB MG146.out.2.2.1).cel 4
       have m5 := (gB MG146.out.2.2.1).cel 5
       have m6 := (gB MG146.out.2.2.1).cel 6
       have m7 := (gB MG146.out.2.2.1).cel 7
       have m8 := (gB MG146.out.2.2.1).cel 8
       have mf0 := (gB MG146.out.2.2.1).free 0
       have mf1 := (gB MG146.out.2.2.1).free 1
       have mf2 := (gB MG146.out.2.2.1).free 2
       have mf3 := (gB MG146.out.2.2.1).free 3
       have mf4 := (gB MG146.out.2.2.1).free 4
       have mf5 := (gB MG146.out.2.2.1).free 5
       have mf6 := (gB MG146.out.2.2.1).free 6
       have mf7 := (gB MG146.out.2.2.1).free 7
       have mf8 := (gB MG146.out.2.2.1).free 8
       have hF148 := (Fr.refl (fun x => x = ob) wg145).put 8 (.slice (some ⟨g2, 0, none⟩) (no + 1) gc)
       have MA147 : Hid (Sts [kOw w.heap.size 112 3 (.slice (some ⟨g2, 0, none⟩) (no + 1) gc) (no + 1) (intF (ovF no O (fp : Int) t1 t2)), kLq w.heap.size bg bo (nb) bk (B), kBx (ob) 61 #[.int .i64 0, .int .i64 far, .int .i64 (-1), .int .i64 0, .int .i64 0, .int .i64 0, .int .i64 0, .slice none 0 0, .slice (some ⟨g2, 0, none⟩) (no + 1) gc], kBx (w.heap.size + 1) 90 #[.int .i64 (fp : Int), .int .i64 (fa + bb * fw), .int .i64 fw, .int .i64 lg, .slice (some ⟨bg, bo, none⟩) zz bk], kBx (w.heap.size + 1 + 1) 61 #[.int .i64 0, .int .i64 0, .int .i64 0, .int .i64 0, .int .i64 0, .int .i64 0, .int .i64 0, .slice none 0 0, .slice none 0 0], kBx (w.heap.size) 87 #[.pointer (some ⟨bt, 0, none⟩), .slice la v.m lc], kBn w.heap.size w] _) := ⟨owf (gO MG146.out.1) (gB MG146.out.2.2.1) hF148, (gQ MG146.out.2.1).fr hF148 ((gQ MG146.out.2.1).ne HL130.out (gB MG146.out.2.2.1) (by decide)), by have h9 := ((gB MG146.out.2.2.1).set 8 (.slice (some ⟨g2, 0, none⟩) (no + 1) gc)); exact h9, bxf (gB MG146.out.2.2.2.1) (gB MG146.out.2.2.1) hF148, (gB MG146.out.2.2.2.2.1).fr hF148 HE131.out, bxf (gB MG146.out.2.2.2.2.2.1) (gB MG146.out.2.2.1) hF148, ⟨blf MG146.out.2.2.2.2.2.2.1 HL130.out hF148, rfl⟩, trivial⟩
       clear hF148
       clear MG146
       refine rl 8 fun K hK => ?_
       go_simp
       refine hK.out _ _ ?_ (fun hHeld => ?_)
       ·
        exact ⟨(gB MA147.out.2.2.2.2.2.1).cell 0, (gB MA147.out.2.2.2.2.2.1).cell 1⟩
       clear hK K
       refine wpAnyH_done (by kernel_rfl) ?_ _
       clear m0 m1 m2 m3 m4 m5 m6 m7 m8 mf0 mf1 mf2 mf3 mf4 mf5 mf6 mf7 mf8 hHeld
       generalize (wg145.setCell ⟨ob, 8, none⟩ (.slice (some ⟨g2, 0, none⟩) (no + 1) gc)) = W149 at MA147 ⊢
       go_wp2_with fail
       go_meet
       case rel => exact ⟨some ⟨g2, 0, none⟩, gc, ⟨(gO MA147.out.1), (gQ MA147.out.2.1), (gB MA147.out.2.2.1), (gB MA147.out.2.2.2.1), (gB MA147.out.2.2.2.2.1), (gB MA147.out.2.2.2.2.2.1), ⟨(gL MA147.out.2.2.2.2.2.2.1), rfl⟩, trivial⟩⟩
      ·
       go_simp
       refine (advance116 H.out.1 (w.heap.size + 1) fp fa fw lg bb (fa + bb * fw) bg bo nb bk B la lc w _ H.out.2.1 (gL MD138.out.2.2.2.2.2.2.1) (Nat.le_succ _) hfp ⟨hfa.1, hfa.2⟩ hfw ⟨by omega, by rw [HAL.out]; exact hal.2⟩ HF1.out HA1.out ⟨HOK.out.lg0, HOK.out.lg1⟩ HOK.out.nb1 (gQ MD138.out.2.1).2.1 HOK.out.step (gQ MD138.out.2.1).1 ((gQ MD138.out.2.1).ne (Nat.le_add_right _ 1) (gB MD138.out.2.2.2.1) (by decide)) (by rw [HZ.out]; exact HZL.out) (gB MD138.out.2.2.2.1)).mono ?_
       rintro e wh150 ⟨he, hf, hbx⟩
       rw [HAL.out, HT12.out.1, HT12.out.2] at he
       rw [HZ.out] at hbx
       subst he
       have MA151 : Hid (Sts [kOw w.heap.size 112 3 (.slice xa no xc) no (intF O), kLq w.heap.size bg bo (nb) bk (B), kBx (ob) 61 #[.int .i64 0, .int .i64 far, .int .i64 (-1), .int .i64 0, .int .i64 0, .int .i64 0, .int .i64 0, .slice none 0 0, .slice xa no xc], kBx (w.heap.size + 1) 90 #[.int .i64 (fp : Int), .int .i64 (fa + bb * fw), .int .i64 fw, .int .i64 lg, .slice (some ⟨bg, bo, none⟩) zz bk], kBx (w.heap.size + 1 + 1) 61 #[.int .i64 0, .int .i64 0, .int .i64 0, .int .i64 0, .int .i64 0, .int .i64 0, .int .i64 0, .slice none 0 0, .slice none 0 0], kBx (w.heap.size) 87 #[.pointer (some ⟨bt, 0, none⟩), .slice la v.m lc], kBn w.heap.size w] wh150) := ⟨(gO MD138.out.1).fr hf (fun g hg e => (gO MD138.out.1).off (gB MD138.out.2.2.2.1) (by decide) hg e), (gQ MD138.out.2.1).fr hf ((gQ MD138.out.2.1).ne (Nat.le_add_right _ 1) (gB MD138.out.2.2.2.1) (by decide)), (gB MD138.out.2.2.1).fr hf (fun e => box_ne (gB MD138.out.2.2.1) (gB MD138.out.2.2.2.1) (by decide) e), hbx, (gB MD138.out.2.2.2.2.1).fr hf (fun e => box_ne (gB MD138.out.2.2.2.2.1) (gB MD138.out.2.2.2.1) (by decide) e), (gB MD138.out.2.2.2.2.2.1).fr hf (fun e => box_ne (gB MD138.out.2.2.2.2.2.1) (gB MD138.out.2.2.2.1) (by decide) e), ⟨(gL MD138.out.2.2.2.2.2.2.1).trans (hf.below (gL MD138.out.2.2.2.2.2.2.1).size (fun k hk (e : k = w.heap.size + 1) => by omega)), rfl⟩, trivial⟩
       clear hf hbx MD138
       go_wp2_with fail
       refine hK.out _ _ ?_ (fun hHeld => ?_)
       ·
        exact ⟨(gB MA151.out.2.2.2.2.2.1).cell 0, (gB MA151.out.2.2.2.2.2.1).cell 1⟩
       clear hK K
       refine ready2_lit (i := 1) (j := 5) (by kernel_rfl) rfl rfl (fun K hK => ?_) (fun K hK => ?_)
       ·
        have o8 : wh150.cell? ⟨ob, 8, none⟩ = some (.slice xa no xc) := (gB MA151.out.2.2.1).cell 8
        go_simp
        refine hK.out _ _ ?_ (fun hHeld => ?_)
        ·
         exact ⟨(gB MA151.out.2.2.2.2.2.1).cell 0, (gB MA151.out.2.2.2.2.2.1).cell 1⟩
        clear hK K
        clear o8
        refine rl 5 fun K hK => ?_
        have MA153 := stx (k := kBx (wh150.heap.size) 112 #[.int .i64 (fp : Int), .int .i64 t1, .int .i64 t2]) (sta MA151 (.cells #[.int .i64 (fp : Int), .int .i64 t1, .int .i64 t2] 112)) (Box.new _ _ _)
        have HL154 : Hid (w.heap.size ≤ wh150.heap.size) := (gL MA151.out.2.2.2.2.2.2.1).size
        have HO155 : Hid (∀ g, (Value.slice xa no xc).ownBlock = some g → g < wh150.heap.size) := fun g hg => ((gO MA151.out.1).lt hg).2
        clear MA151
        go_simp
        refine hK.out _ _ ?_ (fun hHeld => ?_)
        ·
         exact ⟨(gB MA153.out.2.2.2.2.2.2.1).cell 0, (gB MA153.out.2.2.2.2.2.2.1).cell 1⟩
        clear hK K
        clear hHeld
        generalize wh150.alloc (.cells #[.int .i64 (fp : Int), .int .i64 t1, .int .i64 t2] 112) = V152 at MA153 ⊢
        generalize wh150.heap.size = qb at MA153 HL154 HO155 ⊢
        have HOV : Hid (VOwn w.heap.size 112 3 V152 (.slice xa no xc) no (intF (ovF no O (fp : Int) t1 t2))) := (gO MA153.out.2.1).congr (fun i hi j _ => by show Value.int .i64 (O i j) = Value.int .i64 (ovF no O (fp : Int) t1 t2 i j); rw [ovF, if_neg (by omega)])
        have HSZ : Hid (w.heap.size ≤ V152.heap.size) := (gL MA153.out.2.2.2.2.2.2.2.1).size
        refine rl 6 fun K hK => ?_
        refine step_vapp V152 rfl _ _ 59 rfl w.heap.size 112 i1 _ 3 24 Tryz.underlying59 hi1 hz1 hs1 hb1 rfl (by decide) (.slice xa no xc) no (intF (ovF no O (fp : Int) t1 t2)) rfl HOV.out (fun _ _ => rfl) qb 1 #[.int .i64 (fp : Int), .int .i64 t1, .int .i64 t2] rfl (gB MA153.out.1) HVS.out (by simp only [maxLen]; omega) (by omega) HSZ.out ?_
        intro g2 gc wg156 ho2 hg2
        have MG157 : Hid (Sts [kOw w.heap.size 112 3 (.slice (some ⟨g2, 0, none⟩) (no + 1) gc) (no + 1) (intF (ovF no O (fp : Int) t1 t2)), kLq w.heap.size bg bo (nb) bk (B), kBx (ob) 61 #[.int .i64 0, .int .i64 far, .int .i64 (-1), .int .i64 0, .int .i64 0, .int .i64 0, .int .i64 0, .slice none 0 0, .slice xa no xc], kBx (w.heap.size + 1) 90 #[.int .i64 (fp : Int), .int .i64 (fa + bb * fw), .int .i64 fw, .int .i64 lg, .slice (some ⟨bg, bo, none⟩) zz bk], kBx (w.heap.size + 1 + 1) 61 #[.int .i64 0, .int .i64 0, .int .i64 0, .int .i64 0, .int .i64 0, .int .i64 0, .int .i64 0, .slice none 0 0, .slice none 0 0], kBx (w.heap.size) 87 #[.pointer (some ⟨bt, 0, none⟩), .slice la v.m lc], kBn w.heap.size w] wg156) := ⟨ho2, (gQ MA153.out.2.2.1).grown (gO MA153.out.2.1) nr (by decide) hg2, (gB MA153.out.2.2.2.1).grown hg2 (fun e => (gO MA153.out.2.1).off (gB MA153.out.2.2.2.1) (by decide) e rfl), (gB MA153.out.2.2.2.2.1).grown hg2 (fun e => (gO MA153.out.2.1).off (gB MA153.out.2.2.2.2.1) (by decide) e rfl), (gB MA153.out.2.2.2.2.2.1).grown hg2 (fun e => (gO MA153.out.2.1).off (gB MA153.out.2.2.2.2.2.1) (by decide) e rfl), (gB MA153.out.2.2.2.2.2.2.1).grown hg2 (fun e => (gO MA153.out.2.1).off (gB MA153.out.2.2.2.2.2.2.1) (by decide) e rfl), ⟨(gL MA153.out.2.2.2.2.2.2.2.1).grown hg2 (gL MA153.out.2.2.2.2.2.2.2.1).size (fun _ hj => ((gO MA153.out.2.1).lt hj).1), rfl⟩, trivial⟩
        clear ho2 hg2 HOV HSZ MA153
        simp only [Act.put, List.setIfInBounds_toArray, List.set_cons_zero, List.set_cons_succ]
        refine hK.out _ _ ?_ (fun hHeld => ?_)
        ·
         exact ⟨(gB MG157.out.2.2.2.2.2.1).cell 0, (gB MG157.out.2.2.2.2.2.1).cell 1⟩
        clear hK K
        refine tk 7 ?_
        have m0 := (gB MG157.out.2.2.1).cel 0
        have m1 := (gB MG157.out.2.2.1).cel 1
        have m2 := (gB MG157.out.2.2.1).cel 2
        have m3 := (gB MG157.out.2.2.1).cel 3
        have m4 := (gB MG157.out.2.2.1).cel 4
        have m5 := (gB MG157.out.2.2.1).cel 5
        have m6 := (gB MG157.out.2.2.1).cel 6
        have m7 := (gB MG157.out.2.2.1).cel 7
        have m8 := (gB MG157.out.2.2.1).cel 8
        have mf0 := (gB MG157.out.2.2.1).free 0
        have mf1 := (gB MG157.out.2.2.1).free 1
        have mf2 := (gB MG157.out.2.2.1).free 2
        have mf3 := (gB MG157.out.2.2.1).free 3
        have mf4 := (gB MG157.out.2.2.1).free 4
        have mf5 := (gB MG157.out.2.2.1).free 5
        have mf6 := (gB MG157.out.2.2.1).free 6
        have mf7 := (gB MG157.out.2.2.1).free 7
        have mf8 := (gB MG157.out.2.2.1).free 8
        have hF159 := (Fr.refl (fun x => x = ob) wg156).put 8 (.slice (some ⟨g2, 0, none⟩) (no + 1) gc)
        have MA158 : Hid (Sts [kOw w.heap.size 112 3 (.slice (some ⟨g2, 0, none⟩) (no + 1) gc) (no + 1) (intF (ovF no O (fp : Int) t1 t2)), kLq w.heap.size bg bo (nb) bk (B), kBx (ob) 61 #[.int .i64 0, .int .i64 far, .int .i64 (-1), .int .i64 0, .int .i64 0, .int .i64 0, .int .i64 0, .slice none 0 0, .slice (some ⟨g2, 0, none⟩) (no + 1) gc], kBx (w.heap.size + 1) 90 #[.int .i64 (fp : Int), .int .i64 (fa + bb * fw), .int .i64 fw, .int .i64 lg, .slice (some ⟨bg, bo, none⟩) zz bk], kBx (w.heap.size + 1 + 1) 61 #[.int .i64 0, .int .i64 0, .int .i64 0, .int .i64 0, .int .i64 0, .int .i64 0, .int .i64 0, .slice none 0 0, .slice none 0 0], kBx (w.heap.size) 87 #[.pointer (some ⟨bt, 0, none⟩), .slice la v.m lc], kBn w.heap.size w] _) := ⟨owf (gO MG157.out.1) (gB MG157.out.2.2.1) hF159, (gQ MG157.out.2.1).fr hF159 ((gQ MG157.out.2.1).ne HL130.out (gB MG157.out.2.2.1) (by decide)), by have h9 := ((gB MG157.out.2.2.1).set 8 (.slice (some ⟨g2, 0, none⟩) (no + 1) gc)); exact h9, bxf (gB MG157.out.2.2.2.1) (gB MG157.out.2.2.1) hF159, (gB MG157.out.2.2.2.2.1).fr hF159 HE131.out, bxf (gB MG157.out.2.2.2.2.2.1) (gB MG157.out.2.2.1) hF159, ⟨blf MG157.out.2.2.2.2.2.2.1 HL130.out hF159, rfl⟩, trivial⟩
        clear hF159
        clear MG157
        refine rl 8 fun K hK => ?_
        go_simp
        refine hK.out _ _ ?_ (fun hHeld => ?_)
        ·
         exact ⟨(gB MA158.out.2.2.2.2.2.1).cell 0, (gB MA158.out.2.2.2.2.2.1).cell 1⟩
        clear hK K
        refine wpAnyH_done (by kernel_rfl) ?_ _
        clear m0 m1 m2 m3 m4 m5 m6 m7 m8 mf0 mf1 mf2 mf3 mf4 mf5 mf6 mf7 mf8 hHeld
        generalize (wg156.setCell ⟨ob, 8, none⟩ (.slice (some ⟨g2, 0, none⟩) (no + 1) gc)) = W160 at MA158 ⊢
        go_wp2_with fail
        go_meet
        case rel => exact ⟨some ⟨g2, 0, none⟩, gc, ⟨(gO MA158.out.1), (gQ MA158.out.2.1), (gB MA158.out.2.2.1), (gB MA158.out.2.2.2.1), (gB MA158.out.2.2.2.2.1), (gB MA158.out.2.2.2.2.2.1), ⟨(gL MA158.out.2.2.2.2.2.2.1), rfl⟩, trivial⟩⟩
       ·
        have MA162 := stx (k := kBx (wh150.heap.size) 112 #[.int .i64 (fp : Int), .int .i64 t1, .int .i64 t2]) (sta MA151 (.cells #[.int .i64 (fp : Int), .int .i64 t1, .int .i64 t2] 112)) (Box.new _ _ _)
        have HL163 : Hid (w.heap.size ≤ wh150.heap.size) := (gL MA151.out.2.2.2.2.2.2.1).size
        have HO164 : Hid (∀ g, (Value.slice xa no xc).ownBlock = some g → g < wh150.heap.size) := fun g hg => ((gO MA151.out.1).lt hg).2
        clear MA151
        go_simp
        refine hK.out _ _ ?_ (fun hHeld => ?_)
        ·
         exact ⟨(gB MA162.out.2.2.2.2.2.2.1).cell 0, (gB MA162.out.2.2.2.2.2.2.1).cell 1⟩
        clear hK K
        clear hHeld
        generalize wh150.alloc (.cells #[.int .i64 (fp : Int), .int .i64 t1, .int .i64 t2] 112) = V161 at MA162 ⊢
        generalize wh150.heap.size = qb at MA162 HL163 HO164 ⊢
        refine rl 1 fun K hK => ?_
        have o8 := (gB MA162.out.2.2.2.1).cel 8
        go_simp
        refine hK.out _ _ ?_ (fun hHeld => ?_)
        ·
         exact ⟨(gB MA162.out.2.2.2.2.2.2.1).cell 0, (gB MA162.out.2.2.2.2.2.2.1).cell 1⟩
        clear hK K
        clear o8
        have HOV : Hid (VOwn w.heap.size 112 3 V161 (.slice xa no xc) no (intF (ovF no O (fp : Int) t1 t2))) := (gO MA162.out.2.1).congr (fun i hi j _ => by show Value.int .i64 (O i j) = Value.int .i64 (ovF no O (fp : Int) t1 t2 i j); rw [ovF, if_neg (by omega)])
        have HSZ : Hid (w.heap.size ≤ V161.heap.size) := (gL MA162.out.2.2.2.2.2.2.2.1).size
        refine rl 6 fun K hK => ?_
        refine step_vapp V161 rfl _ _ 59 rfl w.heap.size 112 i1 _ 3 24 Tryz.underlying59 hi1 hz1 hs1 hb1 rfl (by decide) (.slice xa no xc) no (intF (ovF no O (fp : Int) t1 t2)) rfl HOV.out (fun _ _ => rfl) qb 1 #[.int .i64 (fp : Int), .int .i64 t1, .int .i64 t2] rfl (gB MA162.out.1) HVS.out (by simp only [maxLen]; omega) (by omega) HSZ.out ?_
        intro g2 gc wg165 ho2 hg2
        have MG166 : Hid (Sts [kOw w.heap.size 112 3 (.slice (some ⟨g2, 0, none⟩) (no + 1) gc) (no + 1) (intF (ovF no O (fp : Int) t1 t2)), kLq w.heap.size bg bo (nb) bk (B), kBx (ob) 61 #[.int .i64 0, .int .i64 far, .int .i64 (-1), .int .i64 0, .int .i64 0, .int .i64 0, .int .i64 0, .slice none 0 0, .slice xa no xc], kBx (w.heap.size + 1) 90 #[.int .i64 (fp : Int), .int .i64 (fa + bb * fw), .int .i64 fw, .int .i64 lg, .slice (some ⟨bg, bo, none⟩) zz bk], kBx (w.heap.size + 1 + 1) 61 #[.int .i64 0, .int .i64 0, .int .i64 0, .int .i64 0, .int .i64 0, .int .i64 0, .int .i64 0, .slice none 0 0, .slice none 0 0], kBx (w.heap.size) 87 #[.pointer (some ⟨bt, 0, none⟩), .slice la v.m lc], kBn w.heap.size w] wg165) := ⟨ho2, (gQ MA162.out.2.2.1).grown (gO MA162.out.2.1) nr (by decide) hg2, (gB MA162.out.2.2.2.1).grown hg2 (fun e => (gO MA162.out.2.1).off (gB MA162.out.2.2.2.1) (by decide) e rfl), (gB MA162.out.2.2.2.2.1).grown hg2 (fun e => (gO MA162.out.2.1).off (gB MA162.out.2.2.2.2.1) (by decide) e rfl), (gB MA162.out.2.2.2.2.2.1).grown hg2 (fun e => (gO MA162.out.2.1).off (gB MA162.out.2.2.2.2.2.1) (by decide) e rfl), (gB MA162.out.2.2.2.2.2.2.1).grown hg2 (fun e => (gO MA162.out.2.1).off (gB MA162.out.2.2.2.2.2.2.1) (by decide) e rfl), ⟨(gL MA162.out.2.2.2.2.2.2.2.1).grown hg2 (gL MA162.out.2.2.2.2.2.2.2.1).size (fun _ hj => ((gO MA162.out.2.1).lt hj).1), rfl⟩, trivial⟩
        clear ho2 hg2 HOV HSZ MA162
        simp only [Act.put, List.setIfInBounds_toArray, List.set_cons_zero, List.set_cons_succ]
        refine hK.out _ _ ?_ (fun hHeld => ?_)
        ·
         exact ⟨(gB MG166.out.2.2.2.2.2.1).cell 0, (gB MG166.out.2.2.2.2.2.1).cell 1⟩
        clear hK K
        refine tk 7 ?_
        have m0 := (gB MG166.out.2.2.1).cel 0
        have m1 := (gB MG166.out.2.2.1).cel 1
        have m2 := (gB MG166.out.2.2.1).cel 2
        have m3 := (gB MG166.out.2.2.1).cel 3
        have m4 := (gB MG166.out.2.2.1).cel 4
        have m5 := (gB MG166.out.2.2.1).cel 5
        have m6 := (gB MG166.out.2.2.1).cel 6
        have m7 := (gB MG166.out.2.2.1).cel 7
        have m8 := (gB MG166.out.2.2.1).cel 8
        have mf0 := (gB MG166.out.2.2.1).free 0
        have mf1 := (gB MG166.out.2.2.1).free 1
        have mf2 := (gB MG166.out.2.2.1).free 2
        have mf3 := (gB MG166.out.2.2.1).free 3
        have mf4 := (gB MG166.out.2.2.1).free 4
        have mf5 := (gB MG166.out.2.2.1).free 5
        have mf6 := (gB MG166.out.2.2.1).free 6
        have mf7 := (gB MG166.out.2.2.1).free 7
        have mf8 := (gB MG166.out.2.2.1).free 8
        have hF168 := (Fr.refl (fun x => x = ob) wg165).put 8 (.slice (some ⟨g2, 0, none⟩) (no + 1) gc)
        have MA167 : Hid (Sts [kOw w.heap.size 112 3 (.slice (some ⟨g2, 0, none⟩) (no + 1) gc) (no + 1) (intF (ovF no O (fp : Int) t1 t2)), kLq w.heap.size bg bo (nb) bk (B), kBx (ob) 61 #[.int .i64 0, .int .i64 far, .int .i64 (-1), .int .i64 0, .int .i64 0, .int .i64 0, .int .i64 0, .slice none 0 0, .slice (some ⟨g2, 0, none⟩) (no + 1) gc], kBx (w.heap.size + 1) 90 #[.int .i64 (fp : Int), .int .i64 (fa + bb * fw), .int .i64 fw, .int .i64 lg, .slice (some ⟨bg, bo, none⟩) zz bk], kBx (w.heap.size + 1 + 1) 61 #[.int .i64 0, .int .i64 0, .int .i64 0, .int .i64 0, .int .i64 0, .int .i64 0, .int .i64 0, .slice none 0 0, .slice none 0 0], kBx (w.heap.size) 87 #[.pointer (some ⟨bt, 0, none⟩), .slice la v.m lc], kBn w.heap.size w] _) := ⟨owf (gO MG166.out.1) (gB MG166.out.2.2.1) hF168, (gQ MG166.out.2.1).fr hF168 ((gQ MG166.out.2.1).ne HL130.out (gB MG166.out.2.2.1) (by decide)), by have h9 := ((gB MG166.out.2.2.1).set 8 (.slice (some ⟨g2, 0, none⟩) (no + 1) gc)); exact h9, bxf (gB MG166.out.2.2.2.1) (gB MG166.out.2.2.1) hF168, (gB MG166.out.2.2.2.2.1).fr hF168 HE131.out, bxf (gB MG166.out.2.2.2.2.2.1) (gB MG166.out.2.2.1) hF168, ⟨blf MG166.out.2.2.2.2.2.2.1 HL130.out hF168, rfl⟩, trivial⟩
        clear hF168
        clear MG166
        refine rl 8 fun K hK => ?_
        go_simp
        refine hK.out _ _ ?_ (fun hHeld => ?_)
        ·
         exact ⟨(gB MA167.out.2.2.2.2.2.1).cell 0, (gB MA167.out.2.2.2.2.2.1).cell 1⟩
        clear hK K
        refine wpAnyH_done (by kernel_rfl) ?_ _
        clear m0 m1 m2 m3 m4 m5 m6 m7 m8 mf0 mf1 mf2 mf3 mf4 mf5 mf6 mf7 mf8 hHeld
        generalize (wg165.setCell ⟨ob, 8, none⟩ (.slice (some ⟨g2, 0, none⟩) (no + 1) gc)) = W169 at MA167 ⊢
        go_wp2_with fail
        go_meet
        case rel => exact ⟨some ⟨g2, 0, none⟩, gc, ⟨(gO MA167.out.1), (gQ MA167.out.2.1), (gB MA167.out.2.2.1), (gB MA167.out.2.2.2.1), (gB MA167.out.2.2.2.2.1), (gB MA167.out.2.2.2.2.2.1), ⟨(gL MA167.out.2.2.2.2.2.2.1), rfl⟩, trivial⟩⟩
     case rest =>
      obtain ⟨g2, gc, M11⟩ := hcut
      clear M10
      generalize wc = W11 at M11 ⊢
      have m0 := (gB M11.out.2.2.1).cel 0
      have m1 := (gB M11.out.2.2.1).cel 1
      have m2 := (gB M11.out.2.2.1).cel 2
      have m3 := (gB M11.out.2.2.1).cel 3
      have m4 := (gB M11.out.2.2.1).cel 4
      have m5 := (gB M11.out.2.2.1).cel 5
      have m6 := (gB M11.out.2.2.1).cel 6
      have m7 := (gB M11.out.2.2.1).cel 7
      have m8 := (gB M11.out.2.2.1).cel 8
      have mf0 := (gB M11.out.2.2.1).free 0
      have mf1 := (gB M11.out.2.2.1).free 1
      have mf2 := (gB M11.out.2.2.1).free 2
      have mf3 := (gB M11.out.2.2.1).free 3
      have mf4 := (gB M11.out.2.2.1).free 4
      have mf5 := (gB M11.out.2.2.1).free 5
      have mf6 := (gB M11.out.2.2.1).free 6
      have mf7 := (gB M11.out.2.2.1).free 7
      have mf8 := (gB M11.out.2.2.1).free 8
      have hF170 := (Fr.refl (fun x => x = ob) W11).put 1 (.int .i64 (far + bb))
      have M12 : Hid (Sts [kOw w.heap.size 112 3 (.slice g2 (no + 1) gc) (no + 1) (intF (ovF no O (fp : Int) t1 t2)), kLq w.heap.size bg bo (nb) bk (B), kBx (ob) 61 #[.int .i64 0, .int .i64 (far + bb), .int .i64 (-1), .int .i64 0, .int .i64 0, .int .i64 0, .int .i64 0, .slice none 0 0, .slice g2 (no + 1) gc], kBx (w.heap.size + 1) 90 #[.int .i64 (fp : Int), .int .i64 (fa + bb * fw), .int .i64 fw, .int .i64 lg, .slice (some ⟨bg, bo, none⟩) zz bk], kBx (w.heap.size + 1 + 1) 61 #[.int .i64 0, .int .i64 0, .int .i64 0, .int .i64 0, .int .i64 0, .int .i64 0, .int .i64 0, .slice none 0 0, .slice none 0 0], kBx (w.heap.size) 87 #[.pointer (some ⟨bt, 0, none⟩), .slice la v.m lc], kBn w.heap.size w] _) := ⟨owf (gO M11.out.1) (gB M11.out.2.2.1) hF170, (gQ M11.out.2.1).fr hF170 ((gQ M11.out.2.1).ne HL130.out (gB M11.out.2.2.1) (by decide)), by have h9 := ((gB M11.out.2.2.1).set 1 (.int .i64 (far + bb))); exact h9, bxf (gB M11.out.2.2.2.1) (gB M11.out.2.2.1) hF170, (gB M11.out.2.2.2.2.1).fr hF170 HE131.out, bxf (gB M11.out.2.2.2.2.2.1) (gB M11.out.2.2.1) hF170, ⟨blf M11.out.2.2.2.2.2.2.1 HL130.out hF170, rfl⟩, trivial⟩
      clear hF170
      clear M11
      generalize hgen : (W11.setCell ⟨ob, 1, none⟩ (.int .i64 (far + bb))) = W12 at M12
      have HMW : Hid ((T - intAt (W12.cell? ⟨ob, 1, none⟩)).toNat = (T - (far + bb)).toNat) := by
       show _ = _
       rw [(gB M12.out.2.2.1).cell 1]
       rfl
      go_wp2_with fail
      go_roundw
      case rel => exact ⟨(mvA v lg T (⟨fp, fa, fw, nb, B, far, no, O⟩ : Mv)), bg, bo, bk, g2, gc, fun r c j h => HS.out r c j (.along hlt HR1.out h), HOA.out, HNO2.out, ⟨by have h9 := (gO M12.out.1); rw [← HT12.out.1, ← HT12.out.2, ← HAL.out, ← HBY.out] at h9; exact h9, by have h9 := (gQ M12.out.2.1).take HZL.out; rw [← HZ.out, ← HBY.out] at h9; exact h9, by have h9 := (gB M12.out.2.2.1); rw [← HBY.out] at h9; exact h9, by have h9 := (gB M12.out.2.2.2.1); rw [← HZ.out, ← HBY.out] at h9; exact h9, (gB M12.out.2.2.2.2.1), (gB M12.out.2.2.2.2.2.1), ⟨(gL M12.out.2.2.2.2.2.2.1), rfl⟩, trivial⟩⟩
      case measure =>
       rw [HMW.out, HMT0.out]
       omega
  ·
   have hlt' : decide (far < T) = false := by simp; omega
   have hobf := (gB D.out.2.2.1).cel 1
   go_wp2_with fail
   go_meet
   case rel => exact ⟨0, (-1), ⟨fp, fa, fw, nb, B, far, no, O⟩, bg, bo, bk, xa, xc, ⟨fun _ => HS.out _ _ _ (.done (by show ¬ far < T; omega)), fun h => absurd (h.symm.trans HRB.out) (by decide)⟩, HOK, ⟨(gO D.out.1), (gQ D.out.2.1), (gB D.out.2.2.1), (gB D.out.2.2.2.1), (gB D.out.2.2.2.2.1), (gB D.out.2.2.2.2.2.1), ⟨(gL D.out.2.2.2.2.2.2.1), rfl⟩, trivial⟩⟩
end Go.Proofs.YtjhmaofjmalglaaGreat
