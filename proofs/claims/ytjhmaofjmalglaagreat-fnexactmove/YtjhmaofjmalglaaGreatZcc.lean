import Derived.Test.YtjhmaofjmalglaaGreatZbs
import Derived.Test.YtjhmaofjmalglaaGreatZbx
import Derived.Test.YtjhmaofjmalglaaGreatZbz
import Derived.Test.YtjhmaofjmalglaaGreatZcb
import Derived.Test.YtjhmaofjmalglaaGreatZba
import Derived.Test.YtjhmaofjmalglaaGreatZag
import Derived.Test.YtjhmaofjmalglaaGreatZbk
namespace Go.Proofs.YtjhmaofjmalglaaGreat
open Go.RowKit Go.Lib
set_option maxRecDepth 100000 in
set_option maxHeartbeats 64000000 in
theorem law5v {v : Nv} (pa : Option Addr) (pc : Nat) (ja : Option Addr) (jc : Nat) (la : Option Addr) (nl lc : Nat) (L : Nat → Int) (fp fa fw lg : Int) (nb : Nat) (B : Nat → Nat → Int) (ba : Option Addr) (bk : Nat) (T : Int) (w : World) (hn : v.n ≤ maxLen) (hm : v.m ≤ maxLen) (_hl : nl ≤ maxLen) (hl : nb ≤ maxLen) (hP : PsAt 0 w pa v.n v.P) (hJ : JsAt 0 w ja v.m v.J) (hps : ∀ i, i < v.n → (v.P i).nm.size ≤ maxLen) (hjs : ∀ i, i < v.m → (v.J i).nm.size ≤ maxLen ∧ (v.J i).ne ≤ maxLen) (hL : IsAt 0 w la nl L) (hB : NsAt 2 0 w ba nb B) :
  Calls Tryz.prog 5 #[.agg #[.slice pa v.n pc, .slice ja v.m jc], .slice la nl lc, .agg #[.int .i64 fp, .int .i64 fa, .int .i64 fw, .int .i64 lg, .slice ba nb bk], .int .i64 T] w fun e w' => e = .returned (.bool true) ∧ Below w.heap.size w w' := by
 have H : Hid (PsAt 0 w pa v.n v.P ∧ JsAt 0 w ja v.m v.J ∧ IsAt 0 w la nl L ∧ NsAt 2 0 w ba nb B ∧ (∀ i, i < v.n → (v.P i).nm.size ≤ maxLen) ∧ (∀ i, i < v.m → (v.J i).nm.size ≤ maxLen ∧ (v.J i).ne ≤ maxLen)) := ⟨hP, hJ, hL, hB, hps, hjs⟩
 have S0 : Hid (Sts [kBx (w.heap.size + 1) 53 #[.int .i64 fp, .int .i64 fa, .int .i64 fw, .int .i64 lg, .slice ba nb bk], kBx (w.heap.size) 25 #[.slice pa v.n pc, .slice ja v.m jc], kBn w.heap.size w] ((w.alloc (.cells #[.slice pa v.n pc, .slice ja v.m jc] 25)).alloc (.cells #[.int .i64 fp, .int .i64 fa, .int .i64 fw, .int .i64 lg, .slice ba nb bk] 53))) := ⟨by show Box _ _ _ _; have := (Box.new (w.alloc (.cells #[.slice pa v.n pc, .slice ja v.m jc] 25)) 53 #[.int .i64 fp, .int .i64 fa, .int .i64 fw, .int .i64 lg, .slice ba nb bk]); simpa using this, ((Box.new w 25 #[.slice pa v.n pc, .slice ja v.m jc]).alloc (.cells #[.int .i64 fp, .int .i64 fa, .int .i64 fw, .int .i64 lg, .slice ba nb bk] 53)), ⟨bel2 _ _ _, rfl⟩, trivial⟩
 clear hP hJ hL hps hjs hB
 go_enter Tryz.func5, Tryz.ntmps5
 go_upto_region 1 with fail
 generalize ((w.alloc (.cells #[.slice pa v.n pc, .slice ja v.m jc] 25)).alloc (.cells #[.int .i64 fp, .int .i64 fa, .int .i64 fw, .int .i64 lg, .slice ba nb bk] 53)) = V0 at S0 ⊢
 by_cases hbig : 1048576 < nl
 ·
  have hbig' : (1048576 : Int) < (nl : Int) := by omega
  go_wp2_with fail
  go_ret
  exact ⟨rfl, (gL S0.out.2.2.1)⟩
 have hl1 : nl ≤ 1048576 := by omega
 have hbig' : ¬ ((1048576 : Int) < (nl : Int)) := by omega
 have a0 := (gB S0.out.2.1).cel 0
 have a1 := (gB S0.out.2.1).cel 1
 have b0 := (gB S0.out.1).cel 0
 have b1 := (gB S0.out.1).cel 1
 have b2 := (gB S0.out.1).cel 2
 have b3 := (gB S0.out.1).cel 3
 have b4 := (gB S0.out.1).cel 4
 go_wp2_with fail
 clear a0 a1 b0 b1 b2 b3 b4
 refine (szNet5 pa v.n pc v.P ja v.m jc v.J 1048576 V0 hn hm (by omega) (by omega) (H.out.1.mono nr (gL S0.out.2.2.1) nr) (H.out.2.1.mono nr (gL S0.out.2.2.1) nr) H.out.2.2.2.2.1 H.out.2.2.2.2.2).mono ?_
 rintro e w1 ⟨r, rfl, hr1, hr2, hb⟩
 have S1 := stm S0 hb
 clear hb S0
 by_cases hneg : r < 0
 ·
  clear hr2
  go_wp2_with fail
  go_ret
  exact ⟨rfl, (gL S1.out.2.2.1)⟩
 obtain ⟨hn2, hm2, hne2⟩ := hr2 (by omega)
 have hn1 : v.n ≤ 1048576 := by omega
 have hm1 : v.m ≤ 1048576 := by omega
 have HNE : Hid (∀ i, i < v.m → (v.J i).ne ≤ 1048576) := fun i hi => by have := hne2 i hi; omega
 have HNE2 : Hid (∀ i, i < v.m → (v.J i).ne ≤ 1048576 ∧ (v.J i).nm.size ≤ maxLen) := fun i hi => ⟨HNE.out i hi, (H.out.2.2.2.2.2 i hi).1⟩
 clear hr2 hne2 hn2 hm2 hbig hbig'
 have a0 := (gB S1.out.2.1).cel 0
 have a1 := (gB S1.out.2.1).cel 1
 have b0 := (gB S1.out.1).cel 0
 have b1 := (gB S1.out.1).cel 1
 have b2 := (gB S1.out.1).cel 2
 have b3 := (gB S1.out.1).cel 3
 have b4 := (gB S1.out.1).cel 4
 go_wp2_with fail
 clear a0 a1 b0 b1 b2 b3 b4
 refine (szTrain14 fp fa fw lg nb ba bk r w1 hl (by omega) (by omega)).mono ?_
 rintro e w2 ⟨r2, rfl, hs1, hs2, hb⟩
 have S2 := stm S1 hb
 clear hb S1
 by_cases hneg2 : r2 < 0
 ·
  clear hs2
  go_wp2_with fail
  go_ret
  exact ⟨rfl, (gL S2.out.2.2.1)⟩
 have hnb1 : nb ≤ 1048576 := by have := hs2 (by omega); omega
 clear hs2 hs1
 go_upto_region 10 with fail
 go_cut [10] from 19 (fun s10 wx => ∃ (tb : Nat) (x : MvX) (wa1 : Option Addr) (wk1 : Nat) (wa2 : Option Addr) (wk2 : Nat), s10 = .pointer (some ⟨tb, 0, none⟩) ∧ Hid (MvAns v nl L fp fa fw lg nb B T x) ∧ Hid (Sts [kOw w.heap.size 112 3 (.slice wa2 x.no wk2) x.no (intF x.O), kOw w.heap.size 74 2 (.slice wa1 x.n wk1) x.n (intF x.F), kBx (tb) 61 #[.int .i64 x.c, .int .i64 x.far, .int .i64 x.j, .int .i64 x.p, .int .i64 x.a, .int .i64 x.w, .int .i64 x.l, .slice wa1 x.n wk1, .slice wa2 x.no wk2], kBx (w.heap.size + 1) 53 #[.int .i64 fp, .int .i64 fa, .int .i64 fw, .int .i64 lg, .slice ba nb bk], kBx (w.heap.size) 25 #[.slice pa v.n pc, .slice ja v.m jc], kBn w.heap.size w] wx))
 case first =>
  have a0 := (gB S2.out.2.1).cel 0
  have a1 := (gB S2.out.2.1).cel 1
  have b0 := (gB S2.out.1).cel 0
  have b1 := (gB S2.out.1).cel 1
  have b2 := (gB S2.out.1).cel 2
  have b3 := (gB S2.out.1).cel 3
  have b4 := (gB S2.out.1).cel 4
  go_wp2_with fail
  refine wp_region_held_drew (S := (fun wx : World => wx.cell? ⟨w.heap.size, 0, none⟩ = some (.slice pa v.n pc) ∧ wx.cell? ⟨w.heap.size, 1, none⟩ = some (.slice ja v.m jc) ∧ wx.cell? ⟨w.heap.size + 1, 0, none⟩ = some (.int .i64 fp) ∧ wx.cell? ⟨w.heap.size + 1, 1, none⟩ = some (.int .i64 fa) ∧ wx.cell? ⟨w.heap.size + 1, 2, none⟩ = some (.int .i64 fw) ∧ wx.cell? ⟨w.heap.size + 1, 3, none⟩ = some (.int .i64 lg) ∧ wx.cell? ⟨w.heap.size + 1, 4, none⟩ = some (.slice ba nb bk))) (by kernel_rfl) ?_ (fun hHeld => ?_)
  ·
   exact ⟨a0, a1, b0, b1, b2, b3, b4⟩
  have MD152 := std S2
  clear a0 a1 b0 b1 b2 b3 b4 S2
  generalize w2.drew = VD at MD152 hHeld ⊢
  refine tk 0 ?_
  refine tk 2 ?_
  refine tk 4 ?_
  refine tk 6 ?_
  refine ready2_lit (i := 1) (j := 8) (by kernel_rfl) rfl rfl (fun K hK => ?_) (fun K hK => ?_)
  ·
   go_simp
   refine (toNetR pa pc ja jc _ hn1 hm1 (H.out.1.mono nr (gL MD152.out.2.2.1) nr) (H.out.2.1.mono nr (gL MD152.out.2.2.1) nr) HNE.out).mono ?_
   rintro e wh153 ⟨pa1, ja1, rfl, hP3, hJ3, hb⟩
   have MA154 := stx (k := kJs ja1 v.m v.J) (stx (k := kPs pa1 v.n v.P) (stm MD152 hb) (hP3)) (hJ3)
   clear hb hP3 hJ3 MD152
   go_wp2_with fail
   refine hK.out _ _ ?_ (fun hHeld => ?_)
   ·
    exact ⟨(gB MA154.out.2.2.2.1).cell 0, (gB MA154.out.2.2.2.1).cell 1, (gB MA154.out.2.2.1).cell 0, (gB MA154.out.2.2.1).cell 1, (gB MA154.out.2.2.1).cell 2, (gB MA154.out.2.2.1).cell 3, (gB MA154.out.2.2.1).cell 4⟩
   clear hK K
   refine ready2_lit (i := 3) (j := 8) (by kernel_rfl) rfl rfl (fun K hK => ?_) (fun K hK => ?_)
   ·
    go_simp
    refine (toIntS10 la nl lc L _ hl1 (H.out.2.2.1.mono nr (gL MA154.out.2.2.2.2.1) nr)).mono ?_
    rintro e wh155 ⟨la1, rfl, hI3, hb⟩
    have MA156 := stx (k := kIs la1 nl L) (stm MA154 hb) ((hI3.keep (Nat.zero_le _) nr fun _ _ _ => rfl))
    clear hb hI3 MA154
    go_wp2_with fail
    refine hK.out _ _ ?_ (fun hHeld => ?_)
    ·
     exact ⟨(gB MA156.out.2.2.2.2.1).cell 0, (gB MA156.out.2.2.2.2.1).cell 1, (gB MA156.out.2.2.2.1).cell 0, (gB MA156.out.2.2.2.1).cell 1, (gB MA156.out.2.2.2.1).cell 2, (gB MA156.out.2.2.2.1).cell 3, (gB MA156.out.2.2.2.1).cell 4⟩
    clear hK K
    refine ready2_lit (i := 5) (j := 8) (by kernel_rfl) rfl rfl (fun K hK => ?_) (fun K hK => ?_)
    ·
     go_simp
     refine (toTrain9x fp fa fw lg nb B ba bk _ hnb1 (H.out.2.2.2.1.mono nr (gL MA156.out.2.2.2.2.2.1) nr)).mono ?_
     rintro e wh157 ⟨bn, rfl, ho, hb⟩
     have MA158 := stx (k := kOw w.heap.size 74 2 (.slice (some ⟨bn, 0, none⟩) nb nb) nb (intF B)) (stm MA156 hb) (ho.keep (gL MA156.out.2.2.2.2.2.1).size (fun _ _ => rfl))
     clear hb ho MA156
     go_wp2_with fail
     refine hK.out _ _ ?_ (fun hHeld => ?_)
     ·
      exact ⟨(gB MA158.out.2.2.2.2.2.1).cell 0, (gB MA158.out.2.2.2.2.2.1).cell 1, (gB MA158.out.2.2.2.2.1).cell 0, (gB MA158.out.2.2.2.2.1).cell 1, (gB MA158.out.2.2.2.2.1).cell 2, (gB MA158.out.2.2.2.2.1).cell 3, (gB MA158.out.2.2.2.2.1).cell 4⟩
     clear hK K
     refine ready2_lit (i := 7) (j := 8) (by kernel_rfl) rfl rfl (fun K hK => ?_) (fun K hK => ?_)
     ·
      go_simp
      refine (specMove24 pa1 v.n ja1 v.m la1 nl nl L fp fa fw lg nb B (some ⟨bn, 0, none⟩) nb T _ hn1 hm1 hl1 hnb1 (gP MA158.out.2.2.2.1) (gJ MA158.out.2.2.1) H.out.2.2.2.2.1 HNE2.out (gI MA158.out.2.1) ((gO MA158.out.1).vs.le (Nat.zero_le _))).mono ?_
      rintro e wh159 ⟨x, wa1, wk1, wa2, wk2, hA, rfl, ho1, ho2, hb⟩
      have HX : Hid (MvAns v nl L fp fa fw lg nb B T x) := hA
      have MA160 : Hid (Sts [kOw w.heap.size 112 3 (.slice wa2 x.no wk2) x.no (intF x.O), kOw w.heap.size 74 2 (.slice wa1 x.n wk1) x.n (intF x.F), kBx (w.heap.size + 1) 53 #[.int .i64 fp, .int .i64 fa, .int .i64 fw, .int .i64 lg, .slice ba nb bk], kBx (w.heap.size) 25 #[.slice pa v.n pc, .slice ja v.m jc], kBn w.heap.size w] wh159) := ⟨ho2.keep (gL MA158.out.2.2.2.2.2.2.1).size (fun _ _ => rfl), ho1.keep (gL MA158.out.2.2.2.2.2.2.1).size (fun _ _ => rfl), (gB MA158.out.2.2.2.2.1).mono hb nr, (gB MA158.out.2.2.2.2.2.1).mono hb nr, ⟨(gL MA158.out.2.2.2.2.2.2.1).trans (hb.mono (gL MA158.out.2.2.2.2.2.2.1).size), rfl⟩, trivial⟩
      clear hb ho1 ho2 hA MA158
      go_wp2_with fail
      refine hK.out _ _ ?_ (fun hHeld => ?_)
      ·
       exact ⟨(gB MA160.out.2.2.2.1).cell 0, (gB MA160.out.2.2.2.1).cell 1, (gB MA160.out.2.2.1).cell 0, (gB MA160.out.2.2.1).cell 1, (gB MA160.out.2.2.1).cell 2, (gB MA160.out.2.2.1).cell 3, (gB MA160.out.2.2.1).cell 4⟩
      clear hK K
      refine rl 8 fun K hK => ?_
      have MA162 := stx (k := kBx (wh159.heap.size) 61 #[.int .i64 0, .int .i64 0, .int .i64 0, .int .i64 0, .int .i64 0, .int .i64 0, .int .i64 0, .slice none 0 0, .slice none 0 0]) (sta MA160 (.cells #[.int .i64 0, .int .i64 0, .int .i64 0, .int .i64 0, .int .i64 0, .int .i64 0, .int .i64 0, .slice none 0 0, .slice none 0 0] 61)) (Box.new _ _ _)
      have HL163 : Hid (w.heap.size ≤ wh159.heap.size) := (gL MA160.out.2.2.2.2.1).size
      clear MA160
      go_simp
      refine hK.out _ _ ?_ (fun hHeld => ?_)
      ·
       exact ⟨(gB MA162.out.2.2.2.2.1).cell 0, (gB MA162.out.2.2.2.2.1).cell 1, (gB MA162.out.2.2.2.1).cell 0, (gB MA162.out.2.2.2.1).cell 1, (gB MA162.out.2.2.2.1).cell 2, (gB MA162.out.2.2.2.1).cell 3, (gB MA162.out.2.2.2.1).cell 4⟩
      clear hK K
      clear hHeld
      generalize wh159.alloc (.cells #[.int .i64 0, .int .i64 0, .int .i64 0, .int .i64 0, .int .i64 0, .int .i64 0, .int .i64 0, .slice none 0 0, .slice none 0 0] 61) = V161 at MA162 ⊢
      generalize wh159.heap.size = tb at MA162 HL163 ⊢
      refine rl 9 fun K hK => ?_
      refine step_row rfl 61 _ _ rfl tb #[.int .i64 x.c, .int .i64 x.far, .int .i64 x.j, .int .i64 x.p, .int .i64 x.a, .int .i64 x.w, .int .i64 x.l, .slice wa1 x.n wk1, .slice wa2 x.no wk2] rfl rfl 61 _ (gB MA162.out.1) (by kernel_rfl) rfl (by kernel_rfl) ?_
      intro W164 hB9 hF9
      have MA165 : Hid (Sts [kBx (tb) 61 #[.int .i64 x.c, .int .i64 x.far, .int .i64 x.j, .int .i64 x.p, .int .i64 x.a, .int .i64 x.w, .int .i64 x.l, .slice wa1 x.n wk1, .slice wa2 x.no wk2], kOw w.heap.size 112 3 (.slice wa2 x.no wk2) x.no (intF x.O), kOw w.heap.size 74 2 (.slice wa1 x.n wk1) x.n (intF x.F), kBx (w.heap.size + 1) 53 #[.int .i64 fp, .int .i64 fa, .int .i64 fw, .int .i64 lg, .slice ba nb bk], kBx (w.heap.size) 25 #[.slice pa v.n pc, .slice ja v.m jc], kBn w.heap.size w] W164) := ⟨hB9, owf (gO MA162.out.2.1) (gB MA162.out.1) hF9, owf (gO MA162.out.2.2.1) (gB MA162.out.1) hF9, bxf (gB MA162.out.2.2.2.1) (gB MA162.out.1) hF9, bxf (gB MA162.out.2.2.2.2.1) (gB MA162.out.1) hF9, ⟨blf MA162.out.2.2.2.2.2.1 HL163.out hF9, rfl⟩, trivial⟩
      clear hB9 hF9 MA162
      simp only [Act.put]
      refine hK.out _ _ ?_ (fun hHeld => ?_)
      ·
       exact ⟨(gB MA165.out.2.2.2.2.1).cell 0, (gB MA165.out.2.2.2.2.1).cell 1, (gB MA165.out.2.2.2.1).cell 0, (gB MA165.out.2.2.2.1).cell 1, (gB MA165.out.2.2.2.1).cell 2, (gB MA165.out.2.2.2.1).cell 3, (gB MA165.out.2.2.2.1).cell 4⟩
      clear hK K
      refine wpAnyH_done (by kernel_rfl) ?_ _
      clear hHeld
      go_wp2_with fail
      go_meet
      case rel => exact ⟨tb, x, wa1, wk1, wa2, wk2, rfl, HX, ⟨(gO MA165.out.2.1), (gO MA165.out.2.2.1), (gB MA165.out.1), (gB MA165.out.2.2.2.1), (gB MA165.out.2.2.2.2.1), ⟨(gL MA165.out.2.2.2.2.2.1), rfl⟩, trivial⟩⟩
     ·
      have MA167 := stx (k := kBx (wh157.heap.size) 61 #[.int .i64 0, .int .i64 0, .int .i64 0, .int .i64 0, .int .i64 0, .int .i64 0, .int .i64 0, .slice none 0 0, .slice none 0 0]) (sta MA158 (.cells #[.int .i64 0, .int .i64 0, .int .i64 0, .int .i64 0, .int .i64 0, .int .i64 0, .int .i64 0, .slice none 0 0, .slice none 0 0] 61)) (Box.new _ _ _)
      have HL168 : Hid (w.heap.size ≤ wh157.heap.size) := (gL MA158.out.2.2.2.2.2.2.1).size
      clear MA158
      go_simp
      refine hK.out _ _ ?_ (fun hHeld => ?_)
      ·
       exact ⟨(gB MA167.out.2.2.2.2.2.2.1).cell 0, (gB MA167.out.2.2.2.2.2.2.1).cell 1, (gB MA167.out.2.2.2.2.2.1).cell 0, (gB MA167.out.2.2.2.2.2.1).cell 1, (gB MA167.out.2.2.2.2.2.1).cell 2, (gB MA167.out.2.2.2.2.2.1).cell 3, (gB MA167.out.2.2.2.2.2.1).cell 4⟩
      clear hK K
      clear hHeld
      generalize wh157.alloc (.cells #[.int .i64 0, .int .i64 0, .int .i64 0, .int .i64 0, .int .i64 0, .int .i64 0, .int .i64 0, .slice none 0 0, .slice none 0 0] 61) = V166 at MA167 ⊢
      generalize wh157.heap.size = tb at MA167 HL168 ⊢
      refine rl 7 fun K hK => ?_
      go_simp
      refine (specMove24 pa1 v.n ja1 v.m la1 nl nl L fp fa fw lg nb B (some ⟨bn, 0, none⟩) nb T _ hn1 hm1 hl1 hnb1 (gP MA167.out.2.2.2.2.1) (gJ MA167.out.2.2.2.1) H.out.2.2.2.2.1 HNE2.out (gI MA167.out.2.2.1) ((gO MA167.out.2.1).vs.le (Nat.zero_le _))).mono ?_
      rintro e wh169 ⟨x, wa1, wk1, wa2, wk2, hA, rfl, ho1, ho2, hb⟩
      have HX : Hid (MvAns v nl L fp fa fw lg nb B T x) := hA
      have MA170 : Hid (Sts [kOw w.heap.size 112 3 (.slice wa2 x.no wk2) x.no (intF x.O), kOw w.heap.size 74 2 (.slice wa1 x.n wk1) x.n (intF x.F), kBx (tb) 61 #[.int .i64 0, .int .i64 0, .int .i64 0, .int .i64 0, .int .i64 0, .int .i64 0, .int .i64 0, .slice none 0 0, .slice none 0 0], kBx (w.heap.size + 1) 53 #[.int .i64 fp, .int .i64 fa, .int .i64 fw, .int .i64 lg, .slice ba nb bk], kBx (w.heap.size) 25 #[.slice pa v.n pc, .slice ja v.m jc], kBn w.heap.size w] wh169) := ⟨ho2.keep (gL MA167.out.2.2.2.2.2.2.2.1).size (fun _ _ => rfl), ho1.keep (gL MA167.out.2.2.2.2.2.2.2.1).size (fun _ _ => rfl), (gB MA167.out.1).mono hb nr, (gB MA167.out.2.2.2.2.2.1).mono hb nr, (gB MA167.out.2.2.2.2.2.2.1).mono hb nr, ⟨(gL MA167.out.2.2.2.2.2.2.2.1).trans (hb.mono (gL MA167.out.2.2.2.2.2.2.2.1).size), rfl⟩, trivial⟩
      clear hb ho1 ho2 hA MA167
      go_wp2_with fail
      refine hK.out _ _ ?_ (fun hHeld => ?_)
      ·
       exact ⟨(gB MA170.out.2.2.2.2.1).cell 0, (gB MA170.out.2.2.2.2.1).cell 1, (gB MA170.out.2.2.2.1).cell 0, (gB MA170.out.2.2.2.1).cell 1, (gB MA170.out.2.2.2.1).cell 2, (gB MA170.out.2.2.2.1).cell 3, (gB MA170.out.2.2.2.1).cell 4⟩
      clear hK K
      refine rl 9 fun K hK => ?_
      refine step_row rfl 61 _ _ rfl tb #[.int .i64 x.c, .int .i64 x.far, .int .i64 x.j, .int .i64 x.p, .int .i64 x.a, .int .i64 x.w, .int .i64 x.l, .slice wa1 x.n wk1, .slice wa2 x.no wk2] rfl rfl 61 _ (gB MA170.out.2.2.1) (by kernel_rfl) rfl (by kernel_rfl) ?_
      intro W171 hB9 hF9
      have MA172 : Hid (Sts [kOw w.heap.size 112 3 (.slice wa2 x.no wk2) x.no (intF x.O), kOw w.heap.size 74 2 (.slice wa1 x.n wk1) x.n (intF x.F), kBx (tb) 61 #[.int .i64 x.c, .int .i64 x.far, .int .i64 x.j, .int .i64 x.p, .int .i64 x.a, .int .i64 x.w, .int .i64 x.l, .slice wa1 x.n wk1, .slice wa2 x.no wk2], kBx (w.heap.size + 1) 53 #[.int .i64 fp, .int .i64 fa, .int .i64 fw, .int .i64 lg, .slice ba nb bk], kBx (w.heap.size) 25 #[.slice pa v.n pc, .slice ja v.m jc], kBn w.heap.size w] W171) := ⟨owf (gO MA170.out.1) (gB MA170.out.2.2.1) hF9, owf (gO MA170.out.2.1) (gB MA170.out.2.2.1) hF9, hB9, bxf (gB MA170.out.2.2.2.1) (gB MA170.out.2.2.1) hF9, bxf (gB MA170.out.2.2.2.2.1) (gB MA170.out.2.2.1) hF9, ⟨blf MA170.out.2.2.2.2.2.1 HL168.out hF9, rfl⟩, trivial⟩
      clear hB9 hF9 MA170
      simp only [Act.put]
      refine hK.out _ _ ?_ (fun hHeld => ?_)
      ·
       exact ⟨(gB MA172.out.2.2.2.2.1).cell 0, (gB MA172.out.2.2.2.2.1).cell 1, (gB MA172.out.2.2.2.1).cell 0, (gB MA172.out.2.2.2.1).cell 1, (gB MA172.out.2.2.2.1).cell 2, (gB MA172.out.2.2.2.1).cell 3, (gB MA172.out.2.2.2.1).cell 4⟩
      clear hK K
      refine wpAnyH_done (by kernel_rfl) ?_ _
      clear hHeld
      go_wp2_with fail
      go_meet
      case rel => exact ⟨tb, x, wa1, wk1, wa2, wk2, rfl, HX, ⟨(gO MA172.out.1), (gO MA172.out.2.1), (gB MA172.out.2.2.1), (gB MA172.out.2.2.2.1), (gB MA172.out.2.2.2.2.1), ⟨(gL MA172.out.2.2.2.2.2.1), rfl⟩, trivial⟩⟩
    ·
     have MA174 := stx (k := kBx (wh155.heap.size) 61 #[.int .i64 0, .int .i64 0, .int .i64 0, .int .i64 0, .int .i64 0, .int .i64 0, .int .i64 0, .slice none 0 0, .slice none 0 0]) (sta MA156 (.cells #[.int .i64 0, .int .i64 0, .int .i64 0, .int .i64 0, .int .i64 0, .int .i64 0, .int .i64 0, .slice none 0 0, .slice none 0 0] 61)) (Box.new _ _ _)
     have HL175 : Hid (w.heap.size ≤ wh155.heap.size) := (gL MA156.out.2.2.2.2.2.1).size
     clear MA156
     go_simp
     refine hK.out _ _ ?_ (fun hHeld => ?_)
     ·
      exact ⟨(gB MA174.out.2.2.2.2.2.1).cell 0, (gB MA174.out.2.2.2.2.2.1).cell 1, (gB MA174.out.2.2.2.2.1).cell 0, (gB MA174.out.2.2.2.2.1).cell 1, (gB MA174.out.2.2.2.2.1).cell 2, (gB MA174.out.2.2.2.2.1).cell 3, (gB MA174.out.2.2.2.2.1).cell 4⟩
     clear hK K
     clear hHeld
     generalize wh155.alloc (.cells #[.int .i64 0, .int .i64 0, .int .i64 0, .int .i64 0, .int .i64 0, .int .i64 0, .int .i64 0, .slice none 0 0, .slice none 0 0] 61) = V173 at MA174 ⊢
     generalize wh155.heap.size = tb at MA174 HL175 ⊢
     refine rl 5 fun K hK => ?_
     go_simp
     refine (toTrain9x fp fa fw lg nb B ba bk _ hnb1 (H.out.2.2.2.1.mono nr (gL MA174.out.2.2.2.2.2.2.1) nr)).mono ?_
     rintro e wh176 ⟨bn, rfl, ho, hb⟩
     have MA177 := stx (k := kOw w.heap.size 74 2 (.slice (some ⟨bn, 0, none⟩) nb nb) nb (intF B)) (stm MA174 hb) (ho.keep (gL MA174.out.2.2.2.2.2.2.1).size (fun _ _ => rfl))
     clear hb ho MA174
     go_wp2_with fail
     refine hK.out _ _ ?_ (fun hHeld => ?_)
     ·
      exact ⟨(gB MA177.out.2.2.2.2.2.2.1).cell 0, (gB MA177.out.2.2.2.2.2.2.1).cell 1, (gB MA177.out.2.2.2.2.2.1).cell 0, (gB MA177.out.2.2.2.2.2.1).cell 1, (gB MA177.out.2.2.2.2.2.1).cell 2, (gB MA177.out.2.2.2.2.2.1).cell 3, (gB MA177.out.2.2.2.2.2.1).cell 4⟩
     clear hK K
     refine rl 7 fun K hK => ?_
     go_simp
     refine (specMove24 pa1 v.n ja1 v.m la1 nl nl L fp fa fw lg nb B (some ⟨bn, 0, none⟩) nb T _ hn1 hm1 hl1 hnb1 (gP MA177.out.2.2.2.2.1) (gJ MA177.out.2.2.2.1) H.out.2.2.2.2.1 HNE2.out (gI MA177.out.2.2.1) ((gO MA177.out.1).vs.le (Nat.zero_le _))).mono ?_
     rintro e wh178 ⟨x, wa1, wk1, wa2, wk2, hA, rfl, ho1, ho2, hb⟩
     have HX : Hid (MvAns v nl L fp fa fw lg nb B T x) := hA
     have MA179 : Hid (Sts [kOw w.heap.size 112 3 (.slice wa2 x.no wk2) x.no (intF x.O), kOw w.heap.size 74 2 (.slice wa1 x.n wk1) x.n (intF x.F), kBx (tb) 61 #[.int .i64 0, .int .i64 0, .int .i64 0, .int .i64 0, .int .i64 0, .int .i64 0, .int .i64 0, .slice none 0 0, .slice none 0 0], kBx (w.heap.size + 1) 53 #[.int .i64 fp, .int .i64 fa, .int .i64 fw, .int .i64 lg, .slice ba nb bk], kBx (w.heap.size) 25 #[.slice pa v.n pc, .slice ja v.m jc], kBn w.heap.size w] wh178) := ⟨ho2.keep (gL MA177.out.2.2.2.2.2.2.2.1).size (fun _ _ => rfl), ho1.keep (gL MA177.out.2.2.2.2.2.2.2.1).size (fun _ _ => rfl), (gB MA177.out.2.1).mono hb nr, (gB MA177.out.2.2.2.2.2.1).mono hb nr, (gB MA177.out.2.2.2.2.2.2.1).mono hb nr, ⟨(gL MA177.out.2.2.2.2.2.2.2.1).trans (hb.mono (gL MA177.out.2.2.2.2.2.2.2.1).size), rfl⟩, trivial⟩
     clear hb ho1 ho2 hA MA177
     go_wp2_with fail
     refine hK.out _ _ ?_ (fun hHeld => ?_)
     ·
      exact ⟨(gB MA179.out.2.2.2.2.1).cell 0, (gB MA179.out.2.2.2.2.1).cell 1, (gB MA179.out.2.2.2.1).cell 0, (gB MA179.out.2.2.2.1).cell 1, (gB MA179.out.2.2.2.1).cell 2, (gB MA179.out.2.2.2.1).cell 3, (gB MA179.out.2.2.2.1).cell 4⟩
     clear hK K
     refine rl 9 fun K hK => ?_
     refine step_row rfl 61 _ _ rfl tb #[.int .i64 x.c, .int .i64 x.far, .int .i64 x.j, .int .i64 x.p, .int .i64 x.a, .int .i64 x.w, .int .i64 x.l, .slice wa1 x.n wk1, .slice wa2 x.no wk2] rfl rfl 61 _ (gB MA179.out.2.2.1) (by kernel_rfl) rfl (by kernel_rfl) ?_
     intro W180 hB9 hF9
     have MA181 : Hid (Sts [kOw w.heap.size 112 3 (.slice wa2 x.no wk2) x.no (intF x.O), kOw w.heap.size 74 2 (.slice wa1 x.n wk1) x.n (intF x.F), kBx (tb) 61 #[.int .i64 x.c, .int .i64 x.far, .int .i64 x.j, .int .i64 x.p, .int .i64 x.a, .int .i64 x.w, .int .i64 x.l, .slice wa1 x.n wk1, .slice wa2 x.no wk2], kBx (w.heap.size + 1) 53 #[.int .i64 fp, .int .i64 fa, .int .i64 fw, .int .i64 lg, .slice ba nb bk], kBx (w.heap.size) 25 #[.slice pa v.n pc, .slice ja v.m jc], kBn w.heap.size w] W180) := ⟨owf (gO MA179.out.1) (gB MA179.out.2.2.1) hF9, owf (gO MA179.out.2.1) (gB MA179.out.2.2.1) hF9, hB9, bxf (gB MA179.out.2.2.2.1) (gB MA179.out.2.2.1) hF9, bxf (gB MA179.out.2.2.2.2.1) (gB MA179.out.2.2.1) hF9, ⟨blf MA179.out.2.2.2.2.2.1 HL175.out hF9, rfl⟩, trivial⟩
     clear hB9 hF9 MA179
     simp only [Act.put]
     refine hK.out _ _ ?_ (fun hHeld => ?_)
     ·
      exact ⟨(gB MA181.out.2.2.2.2.1).cell 0, (gB MA181.out.2.2.2.2.1).cell 1, (gB MA181.out.2.2.2.1).cell 0, (gB MA181.out.2.2.2.1).cell 1, (gB MA181.out.2.2.2.1).cell 2, (gB MA181.out.2.2.2.1).cell 3, (gB MA181.out.2.2.2.1).cell 4⟩
     clear hK K
     refine wpAnyH_done (by kernel_rfl) ?_ _
     clear hHeld
     go_wp2_with fail
     go_meet
     case rel => exact ⟨tb, x, wa1, wk1, wa2, wk2, rfl, HX, ⟨(gO MA181.out.1), (gO MA181.out.2.1), (gB MA181.out.2.2.1), (gB MA181.out.2.2.2.1), (gB MA181.out.2.2.2.2.1), ⟨(gL MA181.out.2.2.2.2.2.1), rfl⟩, trivial⟩⟩
   ·
    have MA183 := stx (k := kBx (wh153.heap.size) 61 #[.int .i64 0, .int .i64 0, .int .i64 0, .int .i64 0, .int .i64 0, .int .i64 0, .int .i64 0, .slice none 0 0, .slice none 0 0]) (sta MA154 (.cells #[.int .i64 0, .int .i64 0, .int .i64 0, .int .i64 0, .int .i64 0, .int .i64 0, .int .i64 0, .slice none 0 0, .slice none 0 0] 61)) (Box.new _ _ _)
    have HL184 : Hid (w.heap.size ≤ wh153.heap.size) := (gL MA154.out.2.2.2.2.1).size
    clear MA154
    go_simp
    refine hK.out _ _ ?_ (fun hHeld => ?_)
    ·
     exact ⟨(gB MA183.out.2.2.2.2.1).cell 0, (gB MA183.out.2.2.2.2.1).cell 1, (gB MA183.out.2.2.2.1).cell 0, (gB MA183.out.2.2.2.1).cell 1, (gB MA183.out.2.2.2.1).cell 2, (gB MA183.out.2.2.2.1).cell 3, (gB MA183.out.2.2.2.1).cell 4⟩
    clear hK K
    clear hHeld
    generalize wh153.alloc (.cells #[.int .i64 0, .int .i64 0, .int .i64 0, .int .i64 0, .int .i64 0, .int .i64 0, .int .i64 0, .slice none 0 0, .slice none 0 0] 61) = V182 at MA183 ⊢
    generalize wh153.heap.size = tb at MA183 HL184 ⊢
    refine rl 3 fun K hK => ?_
    go_simp
    refine (toIntS10 la nl lc L _ hl1 (H.out.2.2.1.mono nr (gL MA183.out.2.2.2.2.2.1) nr)).mono ?_
    rintro e wh185 ⟨la1, rfl, hI3, hb⟩
    have MA186 := stx (k := kIs la1 nl L) (stm MA183 hb) ((hI3.keep (Nat.zero_le _) nr fun _ _ _ => rfl))
    clear hb hI3 MA183
    go_wp2_with fail
    refine hK.out _ _ ?_ (fun hHeld => ?_)
    ·
     exact ⟨(gB MA186.out.2.2.2.2.2.1).cell 0, (gB MA186.out.2.2.2.2.2.1).cell 1, (gB MA186.out.2.2.2.2.1).cell 0, (gB MA186.out.2.2.2.2.1).cell 1, (gB MA186.out.2.2.2.2.1).cell 2, (gB MA186.out.2.2.2.2.1).cell 3, (gB MA186.out.2.2.2.2.1).cell 4⟩
    clear hK K
    refine rl 5 fun K hK => ?_
    go_simp
    refine (toTrain9x fp fa fw lg nb B ba bk _ hnb1 (H.out.2.2.2.1.mono nr (gL MA186.out.2.2.2.2.2.2.1) nr)).mono ?_
    rintro e wh187 ⟨bn, rfl, ho, hb⟩
    have MA188 := stx (k := kOw w.heap.size 74 2 (.slice (some ⟨bn, 0, none⟩) nb nb) nb (intF B)) (stm MA186 hb) (ho.keep (gL MA186.out.2.2.2.2.2.2.1).size (fun _ _ => rfl))
    clear hb ho MA186
    go_wp2_with fail
    refine hK.out _ _ ?_ (fun hHeld => ?_)
    ·
     exact ⟨(gB MA188.out.2.2.2.2.2.2.1).cell 0, (gB MA188.out.2.2.2.2.2.2.1).cell 1, (gB MA188.out.2.2.2.2.2.1).cell 0, (gB MA188.out.2.2.2.2.2.1).cell 1, (gB MA188.out.2.2.2.2.2.1).cell 2, (gB MA188.out.2.2.2.2.2.1).cell 3, (gB MA188.out.2.2.2.2.2.1).cell 4⟩
    clear hK K
    refine rl 7 fun K hK => ?_
    go_simp
    refine (specMove24 pa1 v.n ja1 v.m la1 nl nl L fp fa fw lg nb B (some ⟨bn, 0, none⟩) nb T _ hn1 hm1 hl1 hnb1 (gP MA188.out.2.2.2.2.1) (gJ MA188.out.2.2.2.1) H.out.2.2.2.2.1 HNE2.out (gI MA188.out.2.1) ((gO MA188.out.1).vs.le (Nat.zero_le _))).mono ?_
    rintro e wh189 ⟨x, wa1, wk1, wa2, wk2, hA, rfl, ho1, ho2, hb⟩
    have HX : Hid (MvAns v nl L fp fa fw lg nb B T x) := hA
    have MA190 : Hid (Sts [kOw w.heap.size 112 3 (.slice wa2 x.no wk2) x.no (intF x.O), kOw w.heap.size 74 2 (.slice wa1 x.n wk1) x.n (intF x.F), kBx (tb) 61 #[.int .i64 0, .int .i64 0, .int .i64 0, .int .i64 0, .int .i64 0, .int .i64 0, .int .i64 0, .slice none 0 0, .slice none 0 0], kBx (w.heap.size + 1) 53 #[.int .i64 fp, .int .i64 fa, .int .i64 fw, .int .i64 lg, .slice ba nb bk], kBx (w.heap.size) 25 #[.slice pa v.n pc, .slice ja v.m jc], kBn w.heap.size w] wh189) := ⟨ho2.keep (gL MA188.out.2.2.2.2.2.2.2.1).size (fun _ _ => rfl), ho1.keep (gL MA188.out.2.2.2.2.2.2.2.1).size (fun _ _ => rfl), (gB MA188.out.2.2.1).mono hb nr, (gB MA188.out.2.2.2.2.2.1).mono hb nr, (gB MA188.out.2.2.2.2.2.2.1).mono hb nr, ⟨(gL MA188.out.2.2.2.2.2.2.2.1).trans (hb.mono (gL MA188.out.2.2.2.2.2.2.2.1).size), rfl⟩, trivial⟩
    clear hb ho1 ho2 hA MA188
    go_wp2_with fail
    refine hK.out _ _ ?_ (fun hHeld => ?_)
    ·
     exact ⟨(gB MA190.out.2.2.2.2.1).cell 0, (gB MA190.out.2.2.2.2.1).cell 1, (gB MA190.out.2.2.2.1).cell 0, (gB MA190.out.2.2.2.1).cell 1, (gB MA190.out.2.2.2.1).cell 2, (gB MA190.out.2.2.2.1).cell 3, (gB MA190.out.2.2.2.1).cell 4⟩
    clear hK K
    refine rl 9 fun K hK => ?_
    refine step_row rfl 61 _ _ rfl tb #[.int .i64 x.c, .int .i64 x.far, .int .i64 x.j, .int .i64 x.p, .int .i64 x.a, .int .i64 x.w, .int .i64 x.l, .slice wa1 x.n wk1, .slice wa2 x.no wk2] rfl rfl 61 _ (gB MA190.out.2.2.1) (by kernel_rfl) rfl (by kernel_rfl) ?_
    intro W191 hB9 hF9
    have MA192 : Hid (Sts [kOw w.heap.size 112 3 (.slice wa2 x.no wk2) x.no (intF x.O), kOw w.heap.size 74 2 (.slice wa1 x.n wk1) x.n (intF x.F), kBx (tb) 61 #[.int .i64 x.c, .int .i64 x.far, .int .i64 x.j, .int .i64 x.p, .int .i64 x.a, .int .i64 x.w, .int .i64 x.l, .slice wa1 x.n wk1, .slice wa2 x.no wk2], kBx (w.heap.size + 1) 53 #[.int .i64 fp, .int .i64 fa, .int .i64 fw, .int .i64 lg, .slice ba nb bk], kBx (w.heap.size) 25 #[.slice pa v.n pc, .slice ja v.m jc], kBn w.heap.size w] W191) := ⟨owf (gO MA190.out.1) (gB MA190.out.2.2.1) hF9, owf (gO MA190.out.2.1) (gB MA190.out.2.2.1) hF9, hB9, bxf (gB MA190.out.2.2.2.1) (gB MA190.out.2.2.1) hF9, bxf (gB MA190.out.2.2.2.2.1) (gB MA190.out.2.2.1) hF9, ⟨blf MA190.out.2.2.2.2.2.1 HL184.out hF9, rfl⟩, trivial⟩
    clear hB9 hF9 MA190
    simp only [Act.put]
    refine hK.out _ _ ?_ (fun hHeld => ?_)
    ·
     exact ⟨(gB MA192.out.2.2.2.2.1).cell 0, (gB MA192.out.2.2.2.2.1).cell 1, (gB MA192.out.2.2.2.1).cell 0, (gB MA192.out.2.2.2.1).cell 1, (gB MA192.out.2.2.2.1).cell 2, (gB MA192.out.2.2.2.1).cell 3, (gB MA192.out.2.2.2.1).cell 4⟩
    clear hK K
    refine wpAnyH_done (by kernel_rfl) ?_ _
    clear hHeld
    go_wp2_with fail
    go_meet
    case rel => exact ⟨tb, x, wa1, wk1, wa2, wk2, rfl, HX, ⟨(gO MA192.out.1), (gO MA192.out.2.1), (gB MA192.out.2.2.1), (gB MA192.out.2.2.2.1), (gB MA192.out.2.2.2.2.1), ⟨(gL MA192.out.2.2.2.2.2.1), rfl⟩, trivial⟩⟩
  ·
   have MA194 := stx (k := kBx (VD.heap.size) 61 #[.int .i64 0, .int .i64 0, .int .i64 0, .int .i64 0, .int .i64 0, .int .i64 0, .int .i64 0, .slice none 0 0, .slice none 0 0]) (sta MD152 (.cells #[.int .i64 0, .int .i64 0, .int .i64 0, .int .i64 0, .int .i64 0, .int .i64 0, .int .i64 0, .slice none 0 0, .slice none 0 0] 61)) (Box.new _ _ _)
   have HL195 : Hid (w.heap.size ≤ VD.heap.size) := (gL MD152.out.2.2.1).size
   clear MD152
   go_simp
   refine hK.out _ _ ?_ (fun hHeld => ?_)
   ·
    exact ⟨(gB MA194.out.2.2.1).cell 0, (gB MA194.out.2.2.1).cell 1, (gB MA194.out.2.1).cell 0, (gB MA194.out.2.1).cell 1, (gB MA194.out.2.1).cell 2, (gB MA194.out.2.1).cell 3, (gB MA194.out.2.1).cell 4⟩
   clear hK K
   clear hHeld
   generalize VD.alloc (.cells #[.int .i64 0, .int .i64 0, .int .i64 0, .int .i64 0, .int .i64 0, .int .i64 0, .int .i64 0, .slice none 0 0, .slice none 0 0] 61) = V193 at MA194 ⊢
   generalize VD.heap.size = tb at MA194 HL195 ⊢
   refine rl 1 fun K hK => ?_
   go_simp
   refine (toNetR pa pc ja jc _ hn1 hm1 (H.out.1.mono nr (gL MA194.out.2.2.2.1) nr) (H.out.2.1.mono nr (gL MA194.out.2.2.2.1) nr) HNE.out).mono ?_
   rintro e wh196 ⟨pa1, ja1, rfl, hP3, hJ3, hb⟩
   have MA197 := stx (k := kJs ja1 v.m v.J) (stx (k := kPs pa1 v.n v.P) (stm MA194 hb) (hP3)) (hJ3)
   clear hb hP3 hJ3 MA194
   go_wp2_with fail
   refine hK.out _ _ ?_ (fun hHeld => ?_)
   ·
    exact ⟨(gB MA197.out.2.2.2.2.1).cell 0, (gB MA197.out.2.2.2.2.1).cell 1, (gB MA197.out.2.2.2.1).cell 0, (gB MA197.out.2.2.2.1).cell 1, (gB MA197.out.2.2.2.1).cell 2, (gB MA197.out.2.2.2.1).cell 3, (gB MA197.out.2.2.2.1).cell 4⟩
   clear hK K
   refine rl 3 fun K hK => ?_
   go_simp
   refine (toIntS10 la nl lc L _ hl1 (H.out.2.2.1.mono nr (gL MA197.out.2.2.2.2.2.1) nr)).mono ?_
   rintro e wh198 ⟨la1, rfl, hI3, hb⟩
   have MA199 := stx (k := kIs la1 nl L) (stm MA197 hb) ((hI3.keep (Nat.zero_le _) nr fun _ _ _ => rfl))
   clear hb hI3 MA197
   go_wp2_with fail
   refine hK.out _ _ ?_ (fun hHeld => ?_)
   ·
    exact ⟨(gB MA199.out.2.2.2.2.2.1).cell 0, (gB MA199.out.2.2.2.2.2.1).cell 1, (gB MA199.out.2.2.2.2.1).cell 0, (gB MA199.out.2.2.2.2.1).cell 1, (gB MA199.out.2.2.2.2.1).cell 2, (gB MA199.out.2.2.2.2.1).cell 3, (gB MA199.out.2.2.2.2.1).cell 4⟩
   clear hK K
   refine rl 5 fun K hK => ?_
   go_simp
   refine (toTrain9x fp fa fw lg nb B ba bk _ hnb1 (H.out.2.2.2.1.mono nr (gL MA199.out.2.2.2.2.2.2.1) nr)).mono ?_
   rintro e wh200 ⟨bn, rfl, ho, hb⟩
   have MA201 := stx (k := kOw w.heap.size 74 2 (.slice (some ⟨bn, 0, none⟩) nb nb) nb (intF B)) (stm MA199 hb) (ho.keep (gL MA199.out.2.2.2.2.2.2.1).size (fun _ _ => rfl))
   clear hb ho MA199
   go_wp2_with fail
   refine hK.out _ _ ?_ (fun hHeld => ?_)
   ·
    exact ⟨(gB MA201.out.2.2.2.2.2.2.1).cell 0, (gB MA201.out.2.2.2.2.2.2.1).cell 1, (gB MA201.out.2.2.2.2.2.1).cell 0, (gB MA201.out.2.2.2.2.2.1).cell 1, (gB MA201.out.2.2.2.2.2.1).cell 2, (gB MA201.out.2.2.2.2.2.1).cell 3, (gB MA201.out.2.2.2.2.2.1).cell 4⟩
   clear hK K
   refine rl 7 fun K hK => ?_
   go_simp
   refine (specMove24 pa1 v.n ja1 v.m la1 nl nl L fp fa fw lg nb B (some ⟨bn, 0, none⟩) nb T _ hn1 hm1 hl1 hnb1 (gP MA201.out.2.2.2.1) (gJ MA201.out.2.2.1) H.out.2.2.2.2.1 HNE2.out (gI MA201.out.2.1) ((gO MA201.out.1).vs.le (Nat.zero_le _))).mono ?_
   rintro e wh202 ⟨x, wa1, wk1, wa2, wk2, hA, rfl, ho1, ho2, hb⟩
   have HX : Hid (MvAns v nl L fp fa fw lg nb B T x) := hA
   have MA203 : Hid (Sts [kOw w.heap.size 112 3 (.slice wa2 x.no wk2) x.no (intF x.O), kOw w.heap.size 74 2 (.slice wa1 x.n wk1) x.n (intF x.F), kBx (tb) 61 #[.int .i64 0, .int .i64 0, .int .i64 0, .int .i64 0, .int .i64 0, .int .i64 0, .int .i64 0, .slice none 0 0, .slice none 0 0], kBx (w.heap.size + 1) 53 #[.int .i64 fp, .int .i64 fa, .int .i64 fw, .int .i64 lg, .slice ba nb bk], kBx (w.heap.size) 25 #[.slice pa v.n pc, .slice ja v.m jc], kBn w.heap.size w] wh202) := ⟨ho2.keep (gL MA201.out.2.2.2.2.2.2.2.1).size (fun _ _ => rfl), ho1.keep (gL MA201.out.2.2.2.2.2.2.2.1).size (fun _ _ => rfl), (gB MA201.out.2.2.2.2.1).mono hb nr, (gB MA201.out.2.2.2.2.2.1).mono hb nr, (gB MA201.out.2.2.2.2.2.2.1).mono hb nr, ⟨(gL MA201.out.2.2.2.2.2.2.2.1).trans (hb.mono (gL MA201.out.2.2.2.2.2.2.2.1).size), rfl⟩, trivial⟩
   clear hb ho1 ho2 hA MA201
   go_wp2_with fail
   refine hK.out _ _ ?_ (fun hHeld => ?_)
   ·
    exact ⟨(gB MA203.out.2.2.2.2.1).cell 0, (gB MA203.out.2.2.2.2.1).cell 1, (gB MA203.out.2.2.2.1).cell 0, (gB MA203.out.2.2.2.1).cell 1, (gB MA203.out.2.2.2.1).cell 2, (gB MA203.out.2.2.2.1).cell 3, (gB MA203.out.2.2.2.1).cell 4⟩
   clear hK K
   refine rl 9 fun K hK => ?_
   refine step_row rfl 61 _ _ rfl tb #[.int .i64 x.c, .int .i64 x.far, .int .i64 x.j, .int .i64 x.p, .int .i64 x.a, .int .i64 x.w, .int .i64 x.l, .slice wa1 x.n wk1, .slice wa2 x.no wk2] rfl rfl 61 _ (gB MA203.out.2.2.1) (by kernel_rfl) rfl (by kernel_rfl) ?_
   intro W204 hB9 hF9
   have MA205 : Hid (Sts [kOw w.heap.size 112 3 (.slice wa2 x.no wk2) x.no (intF x.O), kOw w.heap.size 74 2 (.slice wa1 x.n wk1) x.n (intF x.F), kBx (tb) 61 #[.int .i64 x.c, .int .i64 x.far, .int .i64 x.j, .int .i64 x.p, .int .i64 x.a, .int .i64 x.w, .int .i64 x.l, .slice wa1 x.n wk1, .slice wa2 x.no wk2], kBx (w.heap.size + 1) 53 #[.int .i64 fp, .int .i64 fa, .int .i64 fw, .int .i64 lg, .slice ba nb bk], kBx (w.heap.size) 25 #[.slice pa v.n pc, .slice ja v.m jc], kBn w.heap.size w] W204) := ⟨owf (gO MA203.out.1) (gB MA203.out.2.2.1) hF9, owf (gO MA203.out.2.1) (gB MA203.out.2.2.1) hF9, hB9, bxf (gB MA203.out.2.2.2.1) (gB MA203.out.2.2.1) hF9, bxf (gB MA203.out.2.2.2.2.1) (gB MA203.out.2.2.1) hF9, ⟨blf MA203.out.2.2.2.2.2.1 HL195.out hF9, rfl⟩, trivial⟩
   clear hB9 hF9 MA203
   simp only [Act.put]
   refine hK.out _ _ ?_ (fun hHeld => ?_)
   ·
    exact ⟨(gB MA205.out.2.2.2.2.1).cell 0, (gB MA205.out.2.2.2.2.1).cell 1, (gB MA205.out.2.2.2.1).cell 0, (gB MA205.out.2.2.2.1).cell 1, (gB MA205.out.2.2.2.1).cell 2, (gB MA205.out.2.2.2.1).cell 3, (gB MA205.out.2.2.2.1).cell 4⟩
   clear hK K
   refine wpAnyH_done (by kernel_rfl) ?_ _
   clear hHeld
   go_wp2_with fail
   go_meet
   case rel => exact ⟨tb, x, wa1, wk1, wa2, wk2, rfl, HX, ⟨(gO MA205.out.1), (gO MA205.out.2.1), (gB MA205.out.2.2.1), (gB MA205.out.2.2.2.1), (gB MA205.out.2.2.2.2.1), ⟨(gL MA205.out.2.2.2.2.2.1), rfl⟩, trivial⟩⟩
 case rest =>
  obtain ⟨tb, x, wa1, wk1, wa2, wk2, rfl, HX, M6⟩ := hcut
  clear S2
  generalize wc = w6 at M6 ⊢
  have hxn : x.n ≤ 1048576 := by have := HX.out.le.1; omega
  have hxo : x.no ≤ 1048576 := by have := HX.out.le.2; omega
  have a0 := (gB M6.out.2.2.2.2.1).cel 0
  have a1 := (gB M6.out.2.2.2.2.1).cel 1
  have b0 := (gB M6.out.2.2.2.1).cel 0
  have b1 := (gB M6.out.2.2.2.1).cel 1
  have b2 := (gB M6.out.2.2.2.1).cel 2
  have b3 := (gB M6.out.2.2.2.1).cel 3
  have b4 := (gB M6.out.2.2.2.1).cel 4
  go_wp2_with fail
  clear a0 a1 b0 b1 b2 b3 b4
  refine (toNet7x pa v.n pc v.P ja v.m jc v.J w6 hn1 hm1 (H.out.1.mono nr (gL M6.out.2.2.2.2.2.1) nr) (H.out.2.1.mono nr (gL M6.out.2.2.2.2.2.1) nr) HNE.out).mono ?_
  rintro e w7 ⟨pb, jb, hpb, hjb, hpj, rfl, hP7, hJ7, hb7⟩
  have HP7 : Hid (PsTo w7 pb v.n v.n v.P ∧ JsTo w7 jb v.m v.m v.J ∧ pb < jb ∧ jb < w7.heap.size) := ⟨hP7, hJ7, hpj, by obtain ⟨f, hr, _⟩ := hJ7; exact hr.lt⟩
  have HL0 : Hid ((∀ g, (Value.slice wa1 x.n wk1).ownBlock = some g → g < pb) ∧ ∀ g, (Value.slice wa2 x.no wk2).ownBlock = some g → g < pb) := ⟨fun g hg => by have := ((gO M6.out.2.1).lt hg).2; omega, fun g hg => by have := ((gO M6.out.1).lt hg).2; omega⟩
  have HLB : Hid (w.heap.size + 1 < pb ∧ tb < pb) := ⟨by have := (gB M6.out.2.2.2.1).lt; omega, by have := (gB M6.out.2.2.1).lt; omega⟩
  have M7 := stm M6 hb7
  clear hb7 M6 hP7 hJ7 hpb hjb hpj
  obtain ⟨n7, HN7⟩ : ∃ n, Hid (w7.heap.size = n) := ⟨_, rfl⟩
  have M7b : Hid (Sts [kBn n7 w7, kOw w.heap.size 112 3 (.slice wa2 x.no wk2) x.no (intF x.O), kOw w.heap.size 74 2 (.slice wa1 x.n wk1) x.n (intF x.F), kBx (tb) 61 #[.int .i64 x.c, .int .i64 x.far, .int .i64 x.j, .int .i64 x.p, .int .i64 x.a, .int .i64 x.w, .int .i64 x.l, .slice wa1 x.n wk1, .slice wa2 x.no wk2], kBx (w.heap.size + 1) 53 #[.int .i64 fp, .int .i64 fa, .int .i64 fw, .int .i64 lg, .slice ba nb bk], kBx (w.heap.size) 25 #[.slice pa v.n pc, .slice ja v.m jc], kBn w.heap.size w] w7) := ⟨⟨by rw [← HN7.out]; exact Below.refl _ _, HN7.out⟩, (gO M7.out.1), (gO M7.out.2.1), (gB M7.out.2.2.1), (gB M7.out.2.2.2.1), (gB M7.out.2.2.2.2.1), ⟨(gL M7.out.2.2.2.2.2.1), rfl⟩, trivial⟩
  clear M7
  have M8 := stx (k := kBx (w7.heap.size) 40 #[.slice (some ⟨pb, 0, none⟩) v.n v.n, .slice (some ⟨jb, 0, none⟩) v.m v.m]) (sta M7b (.cells #[.slice (some ⟨pb, 0, none⟩) v.n v.n, .slice (some ⟨jb, 0, none⟩) v.m v.m] 40)) (Box.new _ _ _)
  have HL206 : Hid (w.heap.size ≤ w7.heap.size) := (gL M7b.out.2.2.2.2.2.2.1).size
  have HL207 : Hid (n7 ≤ w7.heap.size) := (Nat.le_trans (Nat.le_of_eq HN7.out.symm) (gL M7b.out.1).size)
  go_upto_region 12 with fail
  clear M7b
  have HXB : Hid (n7 ≤ w7.heap.size) := Nat.le_of_eq HN7.out.symm
  generalize w7.alloc (.cells #[.slice (some ⟨pb, 0, none⟩) v.n v.n, .slice (some ⟨jb, 0, none⟩) v.m v.m] 40) = V8 at M8 ⊢
  generalize w7.heap.size = xb at M8 HXB HL206 HL207 ⊢
  go_wp2_with fail
  refine (toIntS9x la nl lc L V8 hl1 (H.out.2.2.1.mono nr (gL M8.out.2.2.2.2.2.2.2.1) nr)).mono ?_
  rintro e w9 ⟨bq, rfl, hO9, hb9⟩
  have M9 := stx (k := kOw n7 3 1 (.slice (some ⟨bq, 0, none⟩) nl nl) nl (intF (fun i _ => L i))) (stm M8 hb9) (hO9.keep (Nat.le_trans (Nat.le_of_eq HN7.out.symm) (gL M8.out.2.1).size) (fun _ _ => rfl))
  clear hb9 M8 hO9
  have HBQ : Hid (n7 ≤ bq ∧ bq < w9.heap.size) := (gO M9.out.1).lt (g := bq) rfl
  have a0 := (gB M9.out.2.2.2.2.2.2.1).cel 0
  have a1 := (gB M9.out.2.2.2.2.2.2.1).cel 1
  have a2 := (gB M9.out.2.2.2.2.2.2.1).cel 2
  have a3 := (gB M9.out.2.2.2.2.2.2.1).cel 3
  have a4 := (gB M9.out.2.2.2.2.2.2.1).cel 4
  go_wp2_with fail
  clear a0 a1 a2 a3 a4
  refine (toTrain9x fp fa fw lg nb B ba bk w9 hnb1 (H.out.2.2.2.1.mono nr (gL M9.out.2.2.2.2.2.2.2.2.1) nr)).mono ?_
  rintro e wA ⟨cq, rfl, hOA, hbA⟩
  have MA := stx (k := kOw n7 74 2 (.slice (some ⟨cq, 0, none⟩) nb nb) nb (intF B)) (stm M9 hbA) (hOA.keep (Nat.le_trans (Nat.le_of_eq HN7.out.symm) (gL M9.out.2.2.1).size) (fun _ _ => rfl))
  clear hbA M9 hOA
  have HCQ : Hid (n7 ≤ cq ∧ cq < wA.heap.size) := (gO MA.out.1).lt (g := cq) rfl
  have HYB : Hid (n7 ≤ wA.heap.size) := (Nat.le_trans (Nat.le_of_eq HN7.out.symm) (gL MA.out.2.2.2.1).size)
  have MB := stx (k := kBx (wA.heap.size) 33 #[.int .i64 fp, .int .i64 fa, .int .i64 fw, .int .i64 lg, .slice (some ⟨cq, 0, none⟩) nb nb]) (sta MA (.cells #[.int .i64 fp, .int .i64 fa, .int .i64 fw, .int .i64 lg, .slice (some ⟨cq, 0, none⟩) nb nb] 33)) (Box.new _ _ _)
  have HL208 : Hid (w.heap.size ≤ wA.heap.size) := (gL MA.out.2.2.2.2.2.2.2.2.2.1).size
  have HL209 : Hid (n7 ≤ wA.heap.size) := (Nat.le_trans (Nat.le_of_eq HN7.out.symm) (gL MA.out.2.2.2.1).size)
  go_upto_region 14 with fail
  clear MA
  have HC9 : Hid (cq < (wA.alloc (.cells #[.int .i64 fp, .int .i64 fa, .int .i64 fw, .int .i64 lg, .slice (some ⟨cq, 0, none⟩) nb nb] 33)).heap.size) := Nat.lt_of_lt_of_le HCQ.out.2 (bel1 _ _).size
  generalize wA.alloc (.cells #[.int .i64 fp, .int .i64 fa, .int .i64 fw, .int .i64 lg, .slice (some ⟨cq, 0, none⟩) nb nb] 33) = VB at MB HC9 ⊢
  generalize wA.heap.size = yb at MB HYB HCQ HL208 HL209 ⊢
  obtain ⟨n9, HN9⟩ : ∃ n, Hid (VB.heap.size = n) := ⟨_, rfl⟩
  have HV9 : Hid (n7 ≤ n9 ∧ cq < n9) := ⟨by rw [← HN9.out]; exact (Nat.le_trans (Nat.le_of_eq HN7.out.symm) (gL MB.out.2.2.2.2.1).size), by rw [← HN9.out]; exact HC9.out⟩
  have MC : Hid (Sts [kSz n9, kBx (yb) 33 #[.int .i64 fp, .int .i64 fa, .int .i64 fw, .int .i64 lg, .slice (some ⟨cq, 0, none⟩) nb nb], kOw n7 74 2 (.slice (some ⟨cq, 0, none⟩) nb nb) nb (intF B), kOw n7 3 1 (.slice (some ⟨bq, 0, none⟩) nl nl) nl (intF (fun i _ => L i)), kBx (xb) 40 #[.slice (some ⟨pb, 0, none⟩) v.n v.n, .slice (some ⟨jb, 0, none⟩) v.m v.m], kBn n7 w7, kOw w.heap.size 112 3 (.slice wa2 x.no wk2) x.no (intF x.O), kOw w.heap.size 74 2 (.slice wa1 x.n wk1) x.n (intF x.F), kBx (tb) 61 #[.int .i64 x.c, .int .i64 x.far, .int .i64 x.j, .int .i64 x.p, .int .i64 x.a, .int .i64 x.w, .int .i64 x.l, .slice wa1 x.n wk1, .slice wa2 x.no wk2], kBx (w.heap.size + 1) 53 #[.int .i64 fp, .int .i64 fa, .int .i64 fw, .int .i64 lg, .slice ba nb bk], kBx (w.heap.size) 25 #[.slice pa v.n pc, .slice ja v.m jc], kBn w.heap.size w] VB) := ⟨by show _ ≤ _; rw [← HN9.out]; exact nr, (gB MB.out.1), (gO MB.out.2.1), (gO MB.out.2.2.1), (gB MB.out.2.2.2.1), ⟨(gL MB.out.2.2.2.2.1), HN7.out⟩, (gO MB.out.2.2.2.2.2.1), (gO MB.out.2.2.2.2.2.2.1), (gB MB.out.2.2.2.2.2.2.2.1), (gB MB.out.2.2.2.2.2.2.2.2.1), (gB MB.out.2.2.2.2.2.2.2.2.2.1), ⟨(gL MB.out.2.2.2.2.2.2.2.2.2.2.1), rfl⟩, trivial⟩
  clear MB HC9
  have a0 := (gB MC.out.2.2.2.2.1).cel 0
  have a1 := (gB MC.out.2.2.2.2.1).cel 1
  have b0 := (gB MC.out.2.1).cel 0
  have b1 := (gB MC.out.2.1).cel 1
  have b2 := (gB MC.out.2.1).cel 2
  have b3 := (gB MC.out.2.1).cel 3
  have b4 := (gB MC.out.2.1).cel 4
  go_wp2_with fail
  clear a0 a1 b0 b1 b2 b3 b4
  refine (implMove25 (some ⟨pb, 0, none⟩) v.n (some ⟨jb, 0, none⟩) v.m (some ⟨bq, 0, none⟩) nl nl L fp fa fw lg nb B cq 0 nb T VB hn1 hm1 hl1 hnb1 nr hn nr hm (HP7.out.1.at.mono (Nat.zero_le _) (gL MC.out.2.2.2.2.2.1) (Nat.le_of_eq HN7.out)) (HP7.out.2.1.at.mono (Nat.zero_le _) (gL MC.out.2.2.2.2.2.1) (Nat.le_of_eq HN7.out)) H.out.2.2.2.2.1 HNE2.out (is_of ((gO MC.out.2.2.2.1).vs.le (Nat.zero_le _))) (Lst.own (gO MC.out.2.2.1)) nr).mono ?_
  rintro e wD ⟨x2, ga1, gk1, ga2, gk2, hA, he, ho1, ho2, hb⟩
  rw [hA.det HX.out] at he ho1 ho2
  rw [HN9.out] at ho1 ho2
  subst he
  clear hA x2
  have MD := stx (k := kOw n9 112 3 (.slice ga2 x.no gk2) x.no (intF x.O)) (stx (k := kOw n9 74 2 (.slice ga1 x.n gk1) x.n (intF x.F)) (stm MC hb) (ho1)) (ho2)
  clear hb ho1 ho2 MC
  have HGB : Hid (n9 ≤ wD.heap.size) := (gS MD.out.2.2.1)
  have M12 := stx (k := kBx (wD.heap.size) 61 #[.int .i64 x.c, .int .i64 x.far, .int .i64 x.j, .int .i64 x.p, .int .i64 x.a, .int .i64 x.w, .int .i64 x.l, .slice ga1 x.n gk1, .slice ga2 x.no gk2]) (sta MD (.cells #[.int .i64 x.c, .int .i64 x.far, .int .i64 x.j, .int .i64 x.p, .int .i64 x.a, .int .i64 x.w, .int .i64 x.l, .slice ga1 x.n gk1, .slice ga2 x.no gk2] 61)) (Box.new _ _ _)
  have HL210 : Hid (w.heap.size ≤ wD.heap.size) := (gL MD.out.2.2.2.2.2.2.2.2.2.2.2.2.2.1).size
  have HL211 : Hid (n7 ≤ wD.heap.size) := (Nat.le_trans (Nat.le_of_eq HN7.out.symm) (gL MD.out.2.2.2.2.2.2.2.1).size)
  have HE212 : Hid (tb ≠ wD.heap.size) := by have h9 := (gB MD.out.2.2.2.2.2.2.2.2.2.2.1).lt; show _ ≠ _; omega
  go_upto_region 15 with fail
  clear MD
  generalize wD.alloc (.cells #[.int .i64 x.c, .int .i64 x.far, .int .i64 x.j, .int .i64 x.p, .int .i64 x.a, .int .i64 x.w, .int .i64 x.l, .slice ga1 x.n gk1, .slice ga2 x.no gk2] 61) = V12 at M12 ⊢
  generalize wD.heap.size = gb at M12 HGB HL210 HL211 HE212 ⊢
  have m0 := (gB M12.out.2.2.2.2.2.2.2.2.2.2.2.1).cel 0
  have m1 := (gB M12.out.2.2.2.2.2.2.2.2.2.2.2.1).cel 1
  have m2 := (gB M12.out.2.2.2.2.2.2.2.2.2.2.2.1).cel 2
  have m3 := (gB M12.out.2.2.2.2.2.2.2.2.2.2.2.1).cel 3
  have m4 := (gB M12.out.2.2.2.2.2.2.2.2.2.2.2.1).cel 4
  have m5 := (gB M12.out.2.2.2.2.2.2.2.2.2.2.2.1).cel 5
  have m6 := (gB M12.out.2.2.2.2.2.2.2.2.2.2.2.1).cel 6
  have m7 := (gB M12.out.2.2.2.2.2.2.2.2.2.2.2.1).cel 7
  have m8 := (gB M12.out.2.2.2.2.2.2.2.2.2.2.2.1).cel 8
  have t0 := (gB M12.out.1).cel 0
  have t1 := (gB M12.out.1).cel 1
  have t2 := (gB M12.out.1).cel 2
  have t3 := (gB M12.out.1).cel 3
  have t4 := (gB M12.out.1).cel 4
  have t5 := (gB M12.out.1).cel 5
  have t6 := (gB M12.out.1).cel 6
  have t7 := (gB M12.out.1).cel 7
  have t8 := (gB M12.out.1).cel 8
  go_wp2_with fail
  clear m0 m1 m2 m3 m4 m5 m6 m7 m8 t0 t1 t2 t3 t4 t5 t6 t7 t8
  refine (eqMoved26 x ga1 wa1 ga2 wa2 gk1 wk1 gk2 wk2 V12 hxn hxo ((gO M12.out.2.2.1).vs.le (Nat.zero_le _)) ((gO M12.out.2.2.2.2.2.2.2.2.2.2.1).vs.le (Nat.zero_le _)) ((gO M12.out.2.1).vs.le (Nat.zero_le _)) ((gO M12.out.2.2.2.2.2.2.2.2.2.1).vs.le (Nat.zero_le _))).mono ?_
  rintro e w13 ⟨rfl, hb⟩
  have M13 := stm M12 hb
  clear hb M12
  have a0 := (gB M13.out.2.2.2.2.2.2.2.2.2.2.2.2.2.1).cel 0
  have a1 := (gB M13.out.2.2.2.2.2.2.2.2.2.2.2.2.2.1).cel 1
  have b0 := (gB M13.out.2.2.2.2.2.2.2.1).cel 0
  have b1 := (gB M13.out.2.2.2.2.2.2.2.1).cel 1
  go_wp2_with fail
  refine wp_region_held_drew (S := (fun wx : World => wx.cell? ⟨w.heap.size, 0, none⟩ = some (.slice pa v.n pc) ∧ wx.cell? ⟨w.heap.size, 1, none⟩ = some (.slice ja v.m jc) ∧ wx.cell? ⟨xb, 0, none⟩ = some (.slice (some ⟨pb, 0, none⟩) v.n v.n) ∧ wx.cell? ⟨xb, 1, none⟩ = some (.slice (some ⟨jb, 0, none⟩) v.m v.m))) (by kernel_rfl) ?_ (fun hHeld => ?_)
  ·
   exact ⟨a0, a1, b0, b1⟩
  have MD213 := std M13
  clear a0 a1 b0 b1 M13
  generalize w13.drew = VD4 at MD213 hHeld ⊢
  refine tk 0 ?_
  refine tk 1 ?_
  refine rl 2 fun K hK => ?_
  go_simp
  refine (toNetR pa pc ja jc _ hn1 hm1 (H.out.1.mono nr (gL MD213.out.2.2.2.2.2.2.2.2.2.2.2.2.2.2.1) nr) (H.out.2.1.mono nr (gL MD213.out.2.2.2.2.2.2.2.2.2.2.2.2.2.2.1) nr) HNE.out).mono ?_
  rintro e wh214 ⟨pa1, ja1, rfl, hP3, hJ3, hb⟩
  have MA215 := stx (k := kJs ja1 v.m v.J) (stx (k := kPs pa1 v.n v.P) (stm MD213 hb) (hP3)) (hJ3)
  clear hb hP3 hJ3 MD213
  go_wp2_with fail
  refine hK.out _ _ ?_ (fun hHeld => ?_)
  ·
   exact ⟨(gB MA215.out.2.2.2.2.2.2.2.2.2.2.2.2.2.2.2.1).cell 0, (gB MA215.out.2.2.2.2.2.2.2.2.2.2.2.2.2.2.2.1).cell 1, (gB MA215.out.2.2.2.2.2.2.2.2.2.1).cell 0, (gB MA215.out.2.2.2.2.2.2.2.2.2.1).cell 1⟩
  clear hK K
  refine rl 3 fun K hK => ?_
  go_simp
  refine (eqNet10 (some ⟨pb, 0, none⟩) pa1 v.n v.n v.n v.P (some ⟨jb, 0, none⟩) ja1 v.m v.m v.m v.J _ hn1 hm1 (HP7.out.1.at.mono (Nat.zero_le _) (gL MA215.out.2.2.2.2.2.2.2.2.2.2.1) (Nat.le_of_eq HN7.out)) (gP MA215.out.2.1) (HP7.out.2.1.at.mono (Nat.zero_le _) (gL MA215.out.2.2.2.2.2.2.2.2.2.2.1) (Nat.le_of_eq HN7.out)) (gJ MA215.out.1) HNE.out).mono ?_
  rintro e wh216 ⟨rfl, hb⟩
  have MA217 : Hid (Sts [kBx (gb) 61 #[.int .i64 x.c, .int .i64 x.far, .int .i64 x.j, .int .i64 x.p, .int .i64 x.a, .int .i64 x.w, .int .i64 x.l, .slice ga1 x.n gk1, .slice ga2 x.no gk2], kOw n9 112 3 (.slice ga2 x.no gk2) x.no (intF x.O), kOw n9 74 2 (.slice ga1 x.n gk1) x.n (intF x.F), kSz n9, kBx (yb) 33 #[.int .i64 fp, .int .i64 fa, .int .i64 fw, .int .i64 lg, .slice (some ⟨cq, 0, none⟩) nb nb], kOw n7 74 2 (.slice (some ⟨cq, 0, none⟩) nb nb) nb (intF B), kOw n7 3 1 (.slice (some ⟨bq, 0, none⟩) nl nl) nl (intF (fun i _ => L i)), kBx (xb) 40 #[.slice (some ⟨pb, 0, none⟩) v.n v.n, .slice (some ⟨jb, 0, none⟩) v.m v.m], kBn n7 w7, kOw w.heap.size 112 3 (.slice wa2 x.no wk2) x.no (intF x.O), kOw w.heap.size 74 2 (.slice wa1 x.n wk1) x.n (intF x.F), kBx (tb) 61 #[.int .i64 x.c, .int .i64 x.far, .int .i64 x.j, .int .i64 x.p, .int .i64 x.a, .int .i64 x.w, .int .i64 x.l, .slice wa1 x.n wk1, .slice wa2 x.no wk2], kBx (w.heap.size + 1) 53 #[.int .i64 fp, .int .i64 fa, .int .i64 fw, .int .i64 lg, .slice ba nb bk], kBx (w.heap.size) 25 #[.slice pa v.n pc, .slice ja v.m jc], kBn w.heap.size w] wh216) := ⟨(gB MA215.out.2.2.1).mono hb nr, (gO MA215.out.2.2.2.1).mono nr hb nr, (gO MA215.out.2.2.2.2.1).mono nr hb nr, Nat.le_trans (gS MA215.out.2.2.2.2.2.1) hb.size, (gB MA215.out.2.2.2.2.2.2.1).mono hb nr, (gO MA215.out.2.2.2.2.2.2.2.1).mono nr hb nr, (gO MA215.out.2.2.2.2.2.2.2.2.1).mono nr hb nr, (gB MA215.out.2.2.2.2.2.2.2.2.2.1).mono hb nr, ⟨(gL MA215.out.2.2.2.2.2.2.2.2.2.2.1).trans (hb.mono (Nat.le_trans (Nat.le_of_eq HN7.out.symm) (gL MA215.out.2.2.2.2.2.2.2.2.2.2.1).size)), HN7.out⟩, (gO MA215.out.2.2.2.2.2.2.2.2.2.2.2.1).mono nr hb nr, (gO MA215.out.2.2.2.2.2.2.2.2.2.2.2.2.1).mono nr hb nr, (gB MA215.out.2.2.2.2.2.2.2.2.2.2.2.2.2.1).mono hb nr, (gB MA215.out.2.2.2.2.2.2.2.2.2.2.2.2.2.2.1).mono hb nr, (gB MA215.out.2.2.2.2.2.2.2.2.2.2.2.2.2.2.2.1).mono hb nr, ⟨(gL MA215.out.2.2.2.2.2.2.2.2.2.2.2.2.2.2.2.2.1).trans (hb.mono (gL MA215.out.2.2.2.2.2.2.2.2.2.2.2.2.2.2.2.2.1).size), rfl⟩, trivial⟩
  clear hb MA215
  go_wp2_with fail
  refine hK.out _ _ ?_ (fun hHeld => ?_)
  ·
   exact ⟨(gB MA217.out.2.2.2.2.2.2.2.2.2.2.2.2.2.1).cell 0, (gB MA217.out.2.2.2.2.2.2.2.2.2.2.2.2.2.1).cell 1, (gB MA217.out.2.2.2.2.2.2.2.1).cell 0, (gB MA217.out.2.2.2.2.2.2.2.1).cell 1⟩
  clear hK K
  refine tk 4 ?_
  refine wpAnyH_done (by kernel_rfl) ?_ _
  clear hHeld
  go_wp2_with fail
  refine (toIntS10 la nl lc L wh216 hl1 (H.out.2.2.1.mono nr (gL MA217.out.2.2.2.2.2.2.2.2.2.2.2.2.2.2.1) nr)).mono ?_
  rintro e wx3 ⟨la2, rfl, hI3, hb⟩
  have Mc := stx (k := kIs la2 nl L) (stm MA217 hb) ((hI3.keep (Nat.zero_le _) nr fun _ _ _ => rfl))
  clear hb hI3 MA217
  go_wp2_with fail
  refine (eqIntS13 (some ⟨bq, 0, none⟩) la2 nl nl nl L wx3 hl1 (is_of ((gO Mc.out.2.2.2.2.2.2.2.1).vs.le (Nat.zero_le _))) (gI Mc.out.1)).mono ?_
  rintro e wx4 ⟨rfl, hb⟩
  have Md : Hid (Sts [kBx (gb) 61 #[.int .i64 x.c, .int .i64 x.far, .int .i64 x.j, .int .i64 x.p, .int .i64 x.a, .int .i64 x.w, .int .i64 x.l, .slice ga1 x.n gk1, .slice ga2 x.no gk2], kOw n9 112 3 (.slice ga2 x.no gk2) x.no (intF x.O), kOw n9 74 2 (.slice ga1 x.n gk1) x.n (intF x.F), kSz n9, kBx (yb) 33 #[.int .i64 fp, .int .i64 fa, .int .i64 fw, .int .i64 lg, .slice (some ⟨cq, 0, none⟩) nb nb], kOw n7 74 2 (.slice (some ⟨cq, 0, none⟩) nb nb) nb (intF B), kOw n7 3 1 (.slice (some ⟨bq, 0, none⟩) nl nl) nl (intF (fun i _ => L i)), kBx (xb) 40 #[.slice (some ⟨pb, 0, none⟩) v.n v.n, .slice (some ⟨jb, 0, none⟩) v.m v.m], kBn n7 w7, kOw w.heap.size 112 3 (.slice wa2 x.no wk2) x.no (intF x.O), kOw w.heap.size 74 2 (.slice wa1 x.n wk1) x.n (intF x.F), kBx (tb) 61 #[.int .i64 x.c, .int .i64 x.far, .int .i64 x.j, .int .i64 x.p, .int .i64 x.a, .int .i64 x.w, .int .i64 x.l, .slice wa1 x.n wk1, .slice wa2 x.no wk2], kBx (w.heap.size + 1) 53 #[.int .i64 fp, .int .i64 fa, .int .i64 fw, .int .i64 lg, .slice ba nb bk], kBx (w.heap.size) 25 #[.slice pa v.n pc, .slice ja v.m jc], kBn w.heap.size w] wx4) := ⟨(gB Mc.out.2.1).mono hb nr, (gO Mc.out.2.2.1).mono nr hb nr, (gO Mc.out.2.2.2.1).mono nr hb nr, Nat.le_trans (gS Mc.out.2.2.2.2.1) hb.size, (gB Mc.out.2.2.2.2.2.1).mono hb nr, (gO Mc.out.2.2.2.2.2.2.1).mono nr hb nr, (gO Mc.out.2.2.2.2.2.2.2.1).mono nr hb nr, (gB Mc.out.2.2.2.2.2.2.2.2.1).mono hb nr, ⟨(gL Mc.out.2.2.2.2.2.2.2.2.2.1).trans (hb.mono (Nat.le_trans (Nat.le_of_eq HN7.out.symm) (gL Mc.out.2.2.2.2.2.2.2.2.2.1).size)), HN7.out⟩, (gO Mc.out.2.2.2.2.2.2.2.2.2.2.1).mono nr hb nr, (gO Mc.out.2.2.2.2.2.2.2.2.2.2.2.1).mono nr hb nr, (gB Mc.out.2.2.2.2.2.2.2.2.2.2.2.2.1).mono hb nr, (gB Mc.out.2.2.2.2.2.2.2.2.2.2.2.2.2.1).mono hb nr, (gB Mc.out.2.2.2.2.2.2.2.2.2.2.2.2.2.2.1).mono hb nr, ⟨(gL Mc.out.2.2.2.2.2.2.2.2.2.2.2.2.2.2.2.1).trans (hb.mono (gL Mc.out.2.2.2.2.2.2.2.2.2.2.2.2.2.2.2.1).size), rfl⟩, trivial⟩
  clear hb Mc
  go_upto_region 21 with fail
  have a0 := (gB Md.out.2.2.2.2.2.2.2.2.2.2.2.2.1).cel 0
  have a1 := (gB Md.out.2.2.2.2.2.2.2.2.2.2.2.2.1).cel 1
  have a2 := (gB Md.out.2.2.2.2.2.2.2.2.2.2.2.2.1).cel 2
  have a3 := (gB Md.out.2.2.2.2.2.2.2.2.2.2.2.2.1).cel 3
  have a4 := (gB Md.out.2.2.2.2.2.2.2.2.2.2.2.2.1).cel 4
  have b0 := (gB Md.out.2.2.2.2.1).cel 0
  have b1 := (gB Md.out.2.2.2.2.1).cel 1
  have b2 := (gB Md.out.2.2.2.2.1).cel 2
  have b3 := (gB Md.out.2.2.2.2.1).cel 3
  have b4 := (gB Md.out.2.2.2.2.1).cel 4
  go_wp2_with fail
  refine wp_region_held_drew (S := (fun wx : World => wx.cell? ⟨w.heap.size + 1, 0, none⟩ = some (.int .i64 fp) ∧ wx.cell? ⟨w.heap.size + 1, 1, none⟩ = some (.int .i64 fa) ∧ wx.cell? ⟨w.heap.size + 1, 2, none⟩ = some (.int .i64 fw) ∧ wx.cell? ⟨w.heap.size + 1, 3, none⟩ = some (.int .i64 lg) ∧ wx.cell? ⟨w.heap.size + 1, 4, none⟩ = some (.slice ba nb bk) ∧ wx.cell? ⟨yb, 0, none⟩ = some (.int .i64 fp) ∧ wx.cell? ⟨yb, 1, none⟩ = some (.int .i64 fa) ∧ wx.cell? ⟨yb, 2, none⟩ = some (.int .i64 fw) ∧ wx.cell? ⟨yb, 3, none⟩ = some (.int .i64 lg) ∧ wx.cell? ⟨yb, 4, none⟩ = some (.slice (some ⟨cq, 0, none⟩) nb nb))) (by kernel_rfl) ?_ (fun hHeld => ?_)
  ·
   exact ⟨a0, a1, a2, a3, a4, b0, b1, b2, b3, b4⟩
  have MD218 := std Md
  clear a0 a1 a2 a3 a4 b0 b1 b2 b3 b4 Md
  generalize wx4.drew = VD5 at MD218 hHeld ⊢
  refine tk 0 ?_
  refine tk 1 ?_
  refine rl 2 fun K hK => ?_
  go_simp
  refine (toTrain9x fp fa fw lg nb B ba bk _ hnb1 (H.out.2.2.2.1.mono nr (gL MD218.out.2.2.2.2.2.2.2.2.2.2.2.2.2.2.1) nr)).mono ?_
  rintro e wh219 ⟨bz, rfl, ho, hb⟩
  have MA220 := stx (k := kOw w.heap.size 74 2 (.slice (some ⟨bz, 0, none⟩) nb nb) nb (intF B)) (stm MD218 hb) (ho.keep (gL MD218.out.2.2.2.2.2.2.2.2.2.2.2.2.2.2.1).size (fun _ _ => rfl))
  clear hb ho MD218
  go_wp2_with fail
  refine hK.out _ _ ?_ (fun hHeld => ?_)
  ·
   exact ⟨(gB MA220.out.2.2.2.2.2.2.2.2.2.2.2.2.2.1).cell 0, (gB MA220.out.2.2.2.2.2.2.2.2.2.2.2.2.2.1).cell 1, (gB MA220.out.2.2.2.2.2.2.2.2.2.2.2.2.2.1).cell 2, (gB MA220.out.2.2.2.2.2.2.2.2.2.2.2.2.2.1).cell 3, (gB MA220.out.2.2.2.2.2.2.2.2.2.2.2.2.2.1).cell 4, (gB MA220.out.2.2.2.2.2.1).cell 0, (gB MA220.out.2.2.2.2.2.1).cell 1, (gB MA220.out.2.2.2.2.2.1).cell 2, (gB MA220.out.2.2.2.2.2.1).cell 3, (gB MA220.out.2.2.2.2.2.1).cell 4⟩
  clear hK K
  refine rl 3 fun K hK => ?_
  go_simp
  refine (eqTrain18 fp fa fw lg nb B (some ⟨cq, 0, none⟩) (some ⟨bz, 0, none⟩) nb nb _ hnb1 ((gO MA220.out.2.2.2.2.2.2.1).vs.le (Nat.zero_le _)) ((gO MA220.out.1).vs.le (Nat.zero_le _))).mono ?_
  rintro e wh221 ⟨rfl, hb⟩
  have MA222 : Hid (Sts [kBx (gb) 61 #[.int .i64 x.c, .int .i64 x.far, .int .i64 x.j, .int .i64 x.p, .int .i64 x.a, .int .i64 x.w, .int .i64 x.l, .slice ga1 x.n gk1, .slice ga2 x.no gk2], kOw n9 112 3 (.slice ga2 x.no gk2) x.no (intF x.O), kOw n9 74 2 (.slice ga1 x.n gk1) x.n (intF x.F), kSz n9, kBx (yb) 33 #[.int .i64 fp, .int .i64 fa, .int .i64 fw, .int .i64 lg, .slice (some ⟨cq, 0, none⟩) nb nb], kOw n7 74 2 (.slice (some ⟨cq, 0, none⟩) nb nb) nb (intF B), kOw n7 3 1 (.slice (some ⟨bq, 0, none⟩) nl nl) nl (intF (fun i _ => L i)), kBx (xb) 40 #[.slice (some ⟨pb, 0, none⟩) v.n v.n, .slice (some ⟨jb, 0, none⟩) v.m v.m], kBn n7 w7, kOw w.heap.size 112 3 (.slice wa2 x.no wk2) x.no (intF x.O), kOw w.heap.size 74 2 (.slice wa1 x.n wk1) x.n (intF x.F), kBx (tb) 61 #[.int .i64 x.c, .int .i64 x.far, .int .i64 x.j, .int .i64 x.p, .int .i64 x.a, .int .i64 x.w, .int .i64 x.l, .slice wa1 x.n wk1, .slice wa2 x.no wk2], kBx (w.heap.size + 1) 53 #[.int .i64 fp, .int .i64 fa, .int .i64 fw, .int .i64 lg, .slice ba nb bk], kBx (w.heap.size) 25 #[.slice pa v.n pc, .slice ja v.m jc], kBn w.heap.size w] wh221) := ⟨(gB MA220.out.2.1).mono hb nr, (gO MA220.out.2.2.1).mono nr hb nr, (gO MA220.out.2.2.2.1).mono nr hb nr, Nat.le_trans (gS MA220.out.2.2.2.2.1) hb.size, (gB MA220.out.2.2.2.2.2.1).mono hb nr, (gO MA220.out.2.2.2.2.2.2.1).mono nr hb nr, (gO MA220.out.2.2.2.2.2.2.2.1).mono nr hb nr, (gB MA220.out.2.2.2.2.2.2.2.2.1).mono hb nr, ⟨(gL MA220.out.2.2.2.2.2.2.2.2.2.1).trans (hb.mono (Nat.le_trans (Nat.le_of_eq HN7.out.symm) (gL MA220.out.2.2.2.2.2.2.2.2.2.1).size)), HN7.out⟩, (gO MA220.out.2.2.2.2.2.2.2.2.2.2.1).mono nr hb nr, (gO MA220.out.2.2.2.2.2.2.2.2.2.2.2.1).mono nr hb nr, (gB MA220.out.2.2.2.2.2.2.2.2.2.2.2.2.1).mono hb nr, (gB MA220.out.2.2.2.2.2.2.2.2.2.2.2.2.2.1).mono hb nr, (gB MA220.out.2.2.2.2.2.2.2.2.2.2.2.2.2.2.1).mono hb nr, ⟨(gL MA220.out.2.2.2.2.2.2.2.2.2.2.2.2.2.2.2.1).trans (hb.mono (gL MA220.out.2.2.2.2.2.2.2.2.2.2.2.2.2.2.2.1).size), rfl⟩, trivial⟩
  clear hb MA220
  go_wp2_with fail
  refine hK.out _ _ ?_ (fun hHeld => ?_)
  ·
   exact ⟨(gB MA222.out.2.2.2.2.2.2.2.2.2.2.2.2.1).cell 0, (gB MA222.out.2.2.2.2.2.2.2.2.2.2.2.2.1).cell 1, (gB MA222.out.2.2.2.2.2.2.2.2.2.2.2.2.1).cell 2, (gB MA222.out.2.2.2.2.2.2.2.2.2.2.2.2.1).cell 3, (gB MA222.out.2.2.2.2.2.2.2.2.2.2.2.2.1).cell 4, (gB MA222.out.2.2.2.2.1).cell 0, (gB MA222.out.2.2.2.2.1).cell 1, (gB MA222.out.2.2.2.2.1).cell 2, (gB MA222.out.2.2.2.2.1).cell 3, (gB MA222.out.2.2.2.2.1).cell 4⟩
  clear hK K
  refine tk 4 ?_
  refine wpAnyH_done (by kernel_rfl) ?_ _
  clear hHeld
  obtain ⟨bs, hsh, hsame⟩ := HP7.out.2.1.sh HNE.out
  have hro : ∃ f, wh221.rowIs pb 82 (v.n * 4) f := by
   obtain ⟨f, hr, _⟩ := HP7.out.1
   exact ⟨f, rowBel hr ((gL MA222.out.2.2.2.2.2.2.2.2.1).mono (Nat.le_of_eq HN7.out)) hr.lt⟩
  have HRO : Hid ((∃ f, wh221.rowIs pb 82 (v.n * 4) f) ∧ JsSh wh221 jb w7.heap.size v.m (fun j => (v.J j).ne) bs ∧ ∀ i j, i < v.m → j < v.m → bs j = bs i → (v.J j).ne = (v.J i).ne) := ⟨hro, hsh.below ((gL MA222.out.2.2.2.2.2.2.2.2.1).mono (Nat.le_of_eq HN7.out)), hsame⟩
  clear hro hsh hsame
  have m0 := (gB MA222.out.2.2.2.2.2.2.2.1).cel 0
  have m1 := (gB MA222.out.2.2.2.2.2.2.2.1).cel 1
  go_wp2_with fail
  clear m0 m1
  refine (markNet20x pb v.n jb v.m 1 w7.heap.size _ bs wh221 hn1 hm1 (by omega) HRO.out.1 HRO.out.2.1 HRO.out.2.2 HP7.out.2.2.1 HP7.out.2.2.2 (gL MA222.out.2.2.2.2.2.2.2.2.1).size).mono ?_
  rintro e wm ⟨k1, rfl, hk1, hA⟩
  have HA : Hid (Amid pb w7.heap.size wh221 wm) := hA
  have Mm : Hid (Sts [kBx (gb) 61 #[.int .i64 x.c, .int .i64 x.far, .int .i64 x.j, .int .i64 x.p, .int .i64 x.a, .int .i64 x.w, .int .i64 x.l, .slice ga1 x.n gk1, .slice ga2 x.no gk2], kOw n9 112 3 (.slice ga2 x.no gk2) x.no (intF x.O), kOw n9 74 2 (.slice ga1 x.n gk1) x.n (intF x.F), kSz n9, kBx (yb) 33 #[.int .i64 fp, .int .i64 fa, .int .i64 fw, .int .i64 lg, .slice (some ⟨cq, 0, none⟩) nb nb], kOw n7 74 2 (.slice (some ⟨cq, 0, none⟩) nb nb) nb (intF B), kOw n7 3 1 (.slice (some ⟨bq, 0, none⟩) nl nl) nl (intF (fun i _ => L i)), kBx (xb) 40 #[.slice (some ⟨pb, 0, none⟩) v.n v.n, .slice (some ⟨jb, 0, none⟩) v.m v.m], kOw w.heap.size 112 3 (.slice wa2 x.no wk2) x.no (intF x.O), kOw w.heap.size 74 2 (.slice wa1 x.n wk1) x.n (intF x.F), kBx (tb) 61 #[.int .i64 x.c, .int .i64 x.far, .int .i64 x.j, .int .i64 x.p, .int .i64 x.a, .int .i64 x.w, .int .i64 x.l, .slice wa1 x.n wk1, .slice wa2 x.no wk2], kBx (w.heap.size + 1) 53 #[.int .i64 fp, .int .i64 fa, .int .i64 fw, .int .i64 lg, .slice ba nb bk], kBx (w.heap.size) 25 #[.slice pa v.n pc, .slice ja v.m jc], kBn w.heap.size w] wm) := ⟨(gB MA222.out.1).keep (HA.out.block _ (gB MA222.out.1).lt (Or.inr (by have := HXB.out; have := HYB.out; have := HGB.out; have := HV9.out; have := HN7.out; omega))), (gO MA222.out.2.1).keep nr (fun g hg => HA.out.block g ((gO MA222.out.2.1).lt hg).2 (Or.inr (by have h1 := ((gO MA222.out.2.1).lt hg).1; have := HV9.out; have := HN7.out; omega))), (gO MA222.out.2.2.1).keep nr (fun g hg => HA.out.block g ((gO MA222.out.2.2.1).lt hg).2 (Or.inr (by have h1 := ((gO MA222.out.2.2.1).lt hg).1; have := HV9.out; have := HN7.out; omega))), Nat.le_trans (gS MA222.out.2.2.2.1) HA.out.size, (gB MA222.out.2.2.2.2.1).keep (HA.out.block _ (gB MA222.out.2.2.2.2.1).lt (Or.inr (by have := HXB.out; have := HYB.out; have := HGB.out; have := HV9.out; have := HN7.out; omega))), (gO MA222.out.2.2.2.2.2.1).keep nr (fun g hg => HA.out.block g ((gO MA222.out.2.2.2.2.2.1).lt hg).2 (Or.inr (by have h1 := ((gO MA222.out.2.2.2.2.2.1).lt hg).1; have := HV9.out; have := HN7.out; omega))), (gO MA222.out.2.2.2.2.2.2.1).keep nr (fun g hg => HA.out.block g ((gO MA222.out.2.2.2.2.2.2.1).lt hg).2 (Or.inr (by have h1 := ((gO MA222.out.2.2.2.2.2.2.1).lt hg).1; have := HV9.out; have := HN7.out; omega))), (gB MA222.out.2.2.2.2.2.2.2.1).keep (HA.out.block _ (gB MA222.out.2.2.2.2.2.2.2.1).lt (Or.inr (by have := HXB.out; have := HYB.out; have := HGB.out; have := HV9.out; have := HN7.out; omega))), (gO MA222.out.2.2.2.2.2.2.2.2.2.1).keep nr (fun g hg => HA.out.block g ((gO MA222.out.2.2.2.2.2.2.2.2.2.1).lt hg).2 (Or.inl (HL0.out.2 g hg))), (gO MA222.out.2.2.2.2.2.2.2.2.2.2.1).keep nr (fun g hg => HA.out.block g ((gO MA222.out.2.2.2.2.2.2.2.2.2.2.1).lt hg).2 (Or.inl (HL0.out.1 g hg))), (gB MA222.out.2.2.2.2.2.2.2.2.2.2.2.1).keep (HA.out.block _ (gB MA222.out.2.2.2.2.2.2.2.2.2.2.2.1).lt (Or.inl HLB.out.2)), (gB MA222.out.2.2.2.2.2.2.2.2.2.2.2.2.1).keep (HA.out.block _ (gB MA222.out.2.2.2.2.2.2.2.2.2.2.2.2.1).lt (Or.inl HLB.out.1)), (gB MA222.out.2.2.2.2.2.2.2.2.2.2.2.2.2.1).keep (HA.out.block _ (gB MA222.out.2.2.2.2.2.2.2.2.2.2.2.2.2.1).lt (Or.inl (by have := HLB.out.1; omega))), ⟨(gL MA222.out.2.2.2.2.2.2.2.2.2.2.2.2.2.2.1).trans (HA.out.below (by have := HLB.out.1; omega) (gL MA222.out.2.2.2.2.2.2.2.2.2.2.2.2.2.2.1).size), rfl⟩, trivial⟩
  clear hA HA HRO MA222
  go_wp2_with fail
  obtain ⟨g1, hg1, hg2, hg3, hg4, hg5⟩ := own_markG (gO Mm.out.2.2.2.2.2.2.1) (Nat.le_trans HV9.out.1 (gS Mm.out.2.2.2.1))
  have hw1 : ∀ o, 0 ≤ o → o < 0 + nl → (∃ v, wm.cell? ⟨bq, o, none⟩ = some v) ∧ wm.frozen? ⟨bq, o, none⟩ = false := fun o h1 h2 => by
   have e := hg1 (by omega)
   simp only [Option.some.injEq, Addr.mk.injEq, and_true] at e
   subst e
   exact hg4 o h1 (by omega)
  clear hg1 hg2 hg3 hg4 hg5
  refine (markIntS16 (some ⟨bq, 0, none⟩) nl nl k1 bq 0 wm hl1 (by omega) (fun _ => rfl) hw1).mono ?_
  clear hw1
  rintro e wn ⟨he, hW1, _⟩
  obtain ⟨k2, hk2⟩ : ∃ k2, k1 + nl = k2 := ⟨_, rfl⟩
  rw [hk2] at he
  subst he
  have HF1 : Hid (Fr (fun b => b = bq) wm wn) := within_fr0 hW1
  have Mn : Hid (Sts [kBx (gb) 61 #[.int .i64 x.c, .int .i64 x.far, .int .i64 x.j, .int .i64 x.p, .int .i64 x.a, .int .i64 x.w, .int .i64 x.l, .slice ga1 x.n gk1, .slice ga2 x.no gk2], kOw n9 112 3 (.slice ga2 x.no gk2) x.no (intF x.O), kOw n9 74 2 (.slice ga1 x.n gk1) x.n (intF x.F), kSz n9, kBx (yb) 33 #[.int .i64 fp, .int .i64 fa, .int .i64 fw, .int .i64 lg, .slice (some ⟨cq, 0, none⟩) nb nb], kOw n7 74 2 (.slice (some ⟨cq, 0, none⟩) nb nb) nb (intF B), kBx (xb) 40 #[.slice (some ⟨pb, 0, none⟩) v.n v.n, .slice (some ⟨jb, 0, none⟩) v.m v.m], kOw w.heap.size 112 3 (.slice wa2 x.no wk2) x.no (intF x.O), kOw w.heap.size 74 2 (.slice wa1 x.n wk1) x.n (intF x.F), kBx (tb) 61 #[.int .i64 x.c, .int .i64 x.far, .int .i64 x.j, .int .i64 x.p, .int .i64 x.a, .int .i64 x.w, .int .i64 x.l, .slice wa1 x.n wk1, .slice wa2 x.no wk2], kBx (w.heap.size + 1) 53 #[.int .i64 fp, .int .i64 fa, .int .i64 fw, .int .i64 lg, .slice ba nb bk], kBx (w.heap.size) 25 #[.slice pa v.n pc, .slice ja v.m jc], kBn w.heap.size w] wn) := ⟨(gB Mm.out.1).fr HF1.out (fun e => (gO Mm.out.2.2.2.2.2.2.1).off (gB Mm.out.1) (by decide) (g := bq) rfl e.symm), (gO Mm.out.2.1).fr HF1.out (fun g hg (e : g = bq) => (gO Mm.out.2.1).apart (gO Mm.out.2.2.2.2.2.2.1) (by decide) hg (by rw [e]; rfl)), (gO Mm.out.2.2.1).fr HF1.out (fun g hg (e : g = bq) => (gO Mm.out.2.2.1).apart (gO Mm.out.2.2.2.2.2.2.1) (by decide) hg (by rw [e]; rfl)), Nat.le_trans (gS Mm.out.2.2.2.1) HF1.out.size, (gB Mm.out.2.2.2.2.1).fr HF1.out (fun e => (gO Mm.out.2.2.2.2.2.2.1).off (gB Mm.out.2.2.2.2.1) (by decide) (g := bq) rfl e.symm), (gO Mm.out.2.2.2.2.2.1).fr HF1.out (fun g hg (e : g = bq) => (gO Mm.out.2.2.2.2.2.1).apart (gO Mm.out.2.2.2.2.2.2.1) (by decide) hg (by rw [e]; rfl)), (gB Mm.out.2.2.2.2.2.2.2.1).fr HF1.out (fun e => (gO Mm.out.2.2.2.2.2.2.1).off (gB Mm.out.2.2.2.2.2.2.2.1) (by decide) (g := bq) rfl e.symm), (gO Mm.out.2.2.2.2.2.2.2.2.1).fr HF1.out (fun g hg (e : g = bq) => (gO Mm.out.2.2.2.2.2.2.2.2.1).apart (gO Mm.out.2.2.2.2.2.2.1) (by decide) hg (by rw [e]; rfl)), (gO Mm.out.2.2.2.2.2.2.2.2.2.1).fr HF1.out (fun g hg (e : g = bq) => (gO Mm.out.2.2.2.2.2.2.2.2.2.1).apart (gO Mm.out.2.2.2.2.2.2.1) (by decide) hg (by rw [e]; rfl)), (gB Mm.out.2.2.2.2.2.2.2.2.2.2.1).fr HF1.out (fun e => (gO Mm.out.2.2.2.2.2.2.1).off (gB Mm.out.2.2.2.2.2.2.2.2.2.2.1) (by decide) (g := bq) rfl e.symm), (gB Mm.out.2.2.2.2.2.2.2.2.2.2.2.1).fr HF1.out (fun e => (gO Mm.out.2.2.2.2.2.2.1).off (gB Mm.out.2.2.2.2.2.2.2.2.2.2.2.1) (by decide) (g := bq) rfl e.symm), (gB Mm.out.2.2.2.2.2.2.2.2.2.2.2.2.1).fr HF1.out (fun e => (gO Mm.out.2.2.2.2.2.2.1).off (gB Mm.out.2.2.2.2.2.2.2.2.2.2.2.2.1) (by decide) (g := bq) rfl e.symm), ⟨(gL Mm.out.2.2.2.2.2.2.2.2.2.2.2.2.2.1).trans (HF1.out.below (gL Mm.out.2.2.2.2.2.2.2.2.2.2.2.2.2.1).size (fun k hk e => by have e1 : k = bq := e; have h3 := HBQ.out; have h1 := HLB.out; have h2 := HP7.out.2.2; have h4 := HN7.out; have h5 := HV9.out; omega)), rfl⟩, trivial⟩
  clear hW1 HF1 Mm
  have hk2b : k2 ≤ 8796093022208 := by omega
  clear hk2
  have m0 := (gB Mn.out.2.2.2.2.1).cel 0
  have m1 := (gB Mn.out.2.2.2.2.1).cel 1
  have m2 := (gB Mn.out.2.2.2.2.1).cel 2
  have m3 := (gB Mn.out.2.2.2.2.1).cel 3
  have m4 := (gB Mn.out.2.2.2.2.1).cel 4
  go_wp2_with fail
  clear m0 m1 m2 m3 m4
  obtain ⟨g1, hg1, hg2, hg3, hg4, hg5⟩ := own_markG (gO Mn.out.2.2.2.2.2.1) (Nat.le_trans HV9.out.1 (gS Mn.out.2.2.2.1))
  have hw1 : ∀ o, 0 ≤ o → o < 0 + nb * 2 → (∃ v, wn.cell? ⟨cq, o, none⟩ = some v) ∧ wn.frozen? ⟨cq, o, none⟩ = false := fun o h1 h2 => by
   have e := hg1 (by omega)
   simp only [Option.some.injEq, Addr.mk.injEq, and_true] at e
   subst e
   exact hg4 o h1 h2
  clear hg1 hg2 hg3 hg4 hg5
  refine (markTrain15 fp fa fw lg (some ⟨cq, 0, none⟩) nb nb k2 cq 0 wn hnb1 (by omega) (fun _ => rfl) (fun _ => ((gO Mn.out.2.2.2.2.2.1).lt (g := cq) rfl).2) hw1).mono ?_
  clear hw1
  rintro e wo ⟨he, ⟨o2, hW1⟩, _⟩
  obtain ⟨k3, hk3⟩ : ∃ k3, k2 + nb * 2 = k3 := ⟨_, rfl⟩
  rw [hk3] at he
  subst he
  have HF1 : Hid (Fr (fun b => b = cq) wn wo) := within_frG hW1
  have Mo : Hid (Sts [kBx (gb) 61 #[.int .i64 x.c, .int .i64 x.far, .int .i64 x.j, .int .i64 x.p, .int .i64 x.a, .int .i64 x.w, .int .i64 x.l, .slice ga1 x.n gk1, .slice ga2 x.no gk2], kOw n9 112 3 (.slice ga2 x.no gk2) x.no (intF x.O), kOw n9 74 2 (.slice ga1 x.n gk1) x.n (intF x.F), kSz n9, kBx (yb) 33 #[.int .i64 fp, .int .i64 fa, .int .i64 fw, .int .i64 lg, .slice (some ⟨cq, 0, none⟩) nb nb], kBx (xb) 40 #[.slice (some ⟨pb, 0, none⟩) v.n v.n, .slice (some ⟨jb, 0, none⟩) v.m v.m], kOw w.heap.size 112 3 (.slice wa2 x.no wk2) x.no (intF x.O), kOw w.heap.size 74 2 (.slice wa1 x.n wk1) x.n (intF x.F), kBx (tb) 61 #[.int .i64 x.c, .int .i64 x.far, .int .i64 x.j, .int .i64 x.p, .int .i64 x.a, .int .i64 x.w, .int .i64 x.l, .slice wa1 x.n wk1, .slice wa2 x.no wk2], kBx (w.heap.size + 1) 53 #[.int .i64 fp, .int .i64 fa, .int .i64 fw, .int .i64 lg, .slice ba nb bk], kBx (w.heap.size) 25 #[.slice pa v.n pc, .slice ja v.m jc], kBn w.heap.size w] wo) := ⟨(gB Mn.out.1).fr HF1.out (fun e => (gO Mn.out.2.2.2.2.2.1).off (gB Mn.out.1) (by decide) (g := cq) rfl e.symm), (gO Mn.out.2.1).fr HF1.out (fun g hg (e : g = cq) => (gO Mn.out.2.1).apart (gO Mn.out.2.2.2.2.2.1) (by decide) hg (by rw [e]; rfl)), (gO Mn.out.2.2.1).fr HF1.out (fun g hg (e : g = cq) => by have h0 := ((gO Mn.out.2.2.1).lt hg).1; have h1 := HLB.out; have h2 := HP7.out.2.2; have h4 := HN7.out; have h5 := HV9.out; omega), Nat.le_trans (gS Mn.out.2.2.2.1) HF1.out.size, (gB Mn.out.2.2.2.2.1).fr HF1.out (fun e => (gO Mn.out.2.2.2.2.2.1).off (gB Mn.out.2.2.2.2.1) (by decide) (g := cq) rfl e.symm), (gB Mn.out.2.2.2.2.2.2.1).fr HF1.out (fun e => (gO Mn.out.2.2.2.2.2.1).off (gB Mn.out.2.2.2.2.2.2.1) (by decide) (g := cq) rfl e.symm), (gO Mn.out.2.2.2.2.2.2.2.1).fr HF1.out (fun g hg (e : g = cq) => (gO Mn.out.2.2.2.2.2.2.2.1).apart (gO Mn.out.2.2.2.2.2.1) (by decide) hg (by rw [e]; rfl)), (gO Mn.out.2.2.2.2.2.2.2.2.1).fr HF1.out (fun g hg (e : g = cq) => by have h0 := HL0.out.1 g hg; have h3 := HCQ.out; have h1 := HLB.out; have h2 := HP7.out.2.2; have h4 := HN7.out; have h5 := HV9.out; omega), (gB Mn.out.2.2.2.2.2.2.2.2.2.1).fr HF1.out (fun e => (gO Mn.out.2.2.2.2.2.1).off (gB Mn.out.2.2.2.2.2.2.2.2.2.1) (by decide) (g := cq) rfl e.symm), (gB Mn.out.2.2.2.2.2.2.2.2.2.2.1).fr HF1.out (fun e => (gO Mn.out.2.2.2.2.2.1).off (gB Mn.out.2.2.2.2.2.2.2.2.2.2.1) (by decide) (g := cq) rfl e.symm), (gB Mn.out.2.2.2.2.2.2.2.2.2.2.2.1).fr HF1.out (fun e => (gO Mn.out.2.2.2.2.2.1).off (gB Mn.out.2.2.2.2.2.2.2.2.2.2.2.1) (by decide) (g := cq) rfl e.symm), ⟨(gL Mn.out.2.2.2.2.2.2.2.2.2.2.2.2.1).trans (HF1.out.below (gL Mn.out.2.2.2.2.2.2.2.2.2.2.2.2.1).size (fun k hk e => by have e1 : k = cq := e; have h3 := HCQ.out; have h1 := HLB.out; have h2 := HP7.out.2.2; have h4 := HN7.out; have h5 := HV9.out; omega)), rfl⟩, trivial⟩
  clear hW1 HF1 Mn hk3
  have hnn : ¬ ((k3 : Int) < 0) := by omega
  have hnd : decide ((k3 : Int) < 0) = false := by simp
  have m0 := (gB Mo.out.2.2.2.2.2.2.2.2.1).cel 0
  have m1 := (gB Mo.out.2.2.2.2.2.2.2.2.1).cel 1
  have m2 := (gB Mo.out.2.2.2.2.2.2.2.2.1).cel 2
  have m3 := (gB Mo.out.2.2.2.2.2.2.2.2.1).cel 3
  have m4 := (gB Mo.out.2.2.2.2.2.2.2.2.1).cel 4
  have m5 := (gB Mo.out.2.2.2.2.2.2.2.2.1).cel 5
  have m6 := (gB Mo.out.2.2.2.2.2.2.2.2.1).cel 6
  have m7 := (gB Mo.out.2.2.2.2.2.2.2.2.1).cel 7
  have m8 := (gB Mo.out.2.2.2.2.2.2.2.2.1).cel 8
  have t0 := (gB Mo.out.1).cel 0
  have t1 := (gB Mo.out.1).cel 1
  have t2 := (gB Mo.out.1).cel 2
  have t3 := (gB Mo.out.1).cel 3
  have t4 := (gB Mo.out.1).cel 4
  have t5 := (gB Mo.out.1).cel 5
  have t6 := (gB Mo.out.1).cel 6
  have t7 := (gB Mo.out.1).cel 7
  have t8 := (gB Mo.out.1).cel 8
  go_wp2_with fail
  clear m0 m1 m2 m3 m4 m5 m6 m7 m8 t0 t1 t2 t3 t4 t5 t6 t7 t8
  refine (eqMoved26 x ga1 wa1 ga2 wa2 gk1 wk1 gk2 wk2 wo hxn hxo ((gO Mo.out.2.2.1).vs.le (Nat.zero_le _)) ((gO Mo.out.2.2.2.2.2.2.2.1).vs.le (Nat.zero_le _)) ((gO Mo.out.2.1).vs.le (Nat.zero_le _)) ((gO Mo.out.2.2.2.2.2.2.1).vs.le (Nat.zero_le _))).mono ?_
  rintro e wp ⟨rfl, hb⟩
  have Mp := stm Mo hb
  clear hb Mo
  have m0 := (gB Mp.out.1).cel 0
  have m1 := (gB Mp.out.1).cel 1
  have m2 := (gB Mp.out.1).cel 2
  have m3 := (gB Mp.out.1).cel 3
  have m4 := (gB Mp.out.1).cel 4
  have m5 := (gB Mp.out.1).cel 5
  have m6 := (gB Mp.out.1).cel 6
  have m7 := (gB Mp.out.1).cel 7
  have m8 := (gB Mp.out.1).cel 8
  go_wp2_with fail
  clear m0 m1 m2 m3 m4 m5 m6 m7 m8
  obtain ⟨gg, gh, hg, hh, hgh, hgs⟩ := own_mark2 (gO Mp.out.2.2.1) (gO Mp.out.2.1) (gS Mp.out.2.2.2.1) (gS Mp.out.2.2.2.1) (by decide)
  have HNB : Hid ((∀ q T xs, T ≠ 74 → Box wp q T xs → q ≠ gg) ∧ ∀ q T xs, T ≠ 112 → Box wp q T xs → q ≠ gh) := ⟨hg.2.2.2.2, hh.2.2.2.2⟩
  have HGG : Hid (((0 < x.n → ga1 = some ⟨gg, 0, none⟩) ∧ (0 < x.n → gg < wp.heap.size) ∧ n9 ≤ gg) ∧ (0 < x.no → ga2 = some ⟨gh, 0, none⟩) ∧ (0 < x.no → gh < wp.heap.size) ∧ n9 ≤ gh) := ⟨⟨hg.1, hg.2.1, hg.2.2.1⟩, hh.1, hh.2.1, hh.2.2.1⟩
  refine (markMoved28 x ga1 ga2 gk1 gk2 1 gg gh wp hxn hxo (by omega) hg.1 hg.2.1 hg.2.2.2.1 hh.1 hh.2.1 hh.2.2.2.1 hgh hgs).mono ?_
  clear hg hh hgh hgs
  rintro e wq ⟨he, hf, hmk1, hmk2⟩
  obtain ⟨mm, HMM⟩ : ∃ mm, Hid (1 + x.n * 2 + x.no * 3 = mm) := ⟨_, rfl⟩
  rw [HMM.out] at he
  subst he
  have HF2 : Hid (Fr (fun q => q = gg ∨ q = gh) wp wq) := hf
  have HMK : Hid ((0 < x.n → gg < wq.heap.size) ∧ (∀ i, i < x.n → ∀ j, j < 2 → wq.cell? ⟨gg, 0 + i * 2 + j, none⟩ = some (.int .i64 ((1 + i * 2 + j : Nat) : Int))) ∧ (0 < x.no → gh < wq.heap.size) ∧ (∀ i, i < x.no → ∀ j, j < 3 → wq.cell? ⟨gh, 0 + i * 3 + j, none⟩ = some (.int .i64 ((1 + x.n * 2 + i * 3 + j : Nat) : Int)))) := ⟨fun h => Nat.lt_of_lt_of_le (HGG.out.1.2.1 h) hf.size, hmk1, fun h => Nat.lt_of_lt_of_le (HGG.out.2.2.1 h) hf.size, hmk2⟩
  have Mq : Hid (Sts [kBx (gb) 61 #[.int .i64 x.c, .int .i64 x.far, .int .i64 x.j, .int .i64 x.p, .int .i64 x.a, .int .i64 x.w, .int .i64 x.l, .slice ga1 x.n gk1, .slice ga2 x.no gk2], kSz n9, kBx (yb) 33 #[.int .i64 fp, .int .i64 fa, .int .i64 fw, .int .i64 lg, .slice (some ⟨cq, 0, none⟩) nb nb], kBx (xb) 40 #[.slice (some ⟨pb, 0, none⟩) v.n v.n, .slice (some ⟨jb, 0, none⟩) v.m v.m], kOw w.heap.size 112 3 (.slice wa2 x.no wk2) x.no (intF x.O), kOw w.heap.size 74 2 (.slice wa1 x.n wk1) x.n (intF x.F), kBx (tb) 61 #[.int .i64 x.c, .int .i64 x.far, .int .i64 x.j, .int .i64 x.p, .int .i64 x.a, .int .i64 x.w, .int .i64 x.l, .slice wa1 x.n wk1, .slice wa2 x.no wk2], kBx (w.heap.size + 1) 53 #[.int .i64 fp, .int .i64 fa, .int .i64 fw, .int .i64 lg, .slice ba nb bk], kBx (w.heap.size) 25 #[.slice pa v.n pc, .slice ja v.m jc], kBn w.heap.size w] wq) := ⟨(gB Mp.out.1).fr HF2.out (fun (e : _ = gg ∨ _ = gh) => e.elim (fun e => HNB.out.1 _ _ _ (by decide) (gB Mp.out.1) e) (fun e => HNB.out.2 _ _ _ (by decide) (gB Mp.out.1) e)), Nat.le_trans (gS Mp.out.2.2.2.1) HF2.out.size, (gB Mp.out.2.2.2.2.1).fr HF2.out (fun (e : _ = gg ∨ _ = gh) => e.elim (fun e => HNB.out.1 _ _ _ (by decide) (gB Mp.out.2.2.2.2.1) e) (fun e => HNB.out.2 _ _ _ (by decide) (gB Mp.out.2.2.2.2.1) e)), (gB Mp.out.2.2.2.2.2.1).fr HF2.out (fun (e : _ = gg ∨ _ = gh) => e.elim (fun e => HNB.out.1 _ _ _ (by decide) (gB Mp.out.2.2.2.2.2.1) e) (fun e => HNB.out.2 _ _ _ (by decide) (gB Mp.out.2.2.2.2.2.1) e)), (gO Mp.out.2.2.2.2.2.2.1).fr HF2.out (fun g hg (e : g = gg ∨ g = gh) => by have h0 := HL0.out.2 g hg; have h9 := HGG.out.1.2.2; have h8 := HGG.out.2.2.2; have h1 := HLB.out; have h2 := HP7.out.2.2; have h4 := HN7.out; have h5 := HV9.out; omega), (gO Mp.out.2.2.2.2.2.2.2.1).fr HF2.out (fun g hg (e : g = gg ∨ g = gh) => by have h0 := HL0.out.1 g hg; have h9 := HGG.out.1.2.2; have h8 := HGG.out.2.2.2; have h1 := HLB.out; have h2 := HP7.out.2.2; have h4 := HN7.out; have h5 := HV9.out; omega), (gB Mp.out.2.2.2.2.2.2.2.2.1).fr HF2.out (fun (e : _ = gg ∨ _ = gh) => e.elim (fun e => HNB.out.1 _ _ _ (by decide) (gB Mp.out.2.2.2.2.2.2.2.2.1) e) (fun e => HNB.out.2 _ _ _ (by decide) (gB Mp.out.2.2.2.2.2.2.2.2.1) e)), (gB Mp.out.2.2.2.2.2.2.2.2.2.1).fr HF2.out (fun (e : _ = gg ∨ _ = gh) => e.elim (fun e => HNB.out.1 _ _ _ (by decide) (gB Mp.out.2.2.2.2.2.2.2.2.2.1) e) (fun e => HNB.out.2 _ _ _ (by decide) (gB Mp.out.2.2.2.2.2.2.2.2.2.1) e)), (gB Mp.out.2.2.2.2.2.2.2.2.2.2.1).fr HF2.out (fun (e : _ = gg ∨ _ = gh) => e.elim (fun e => HNB.out.1 _ _ _ (by decide) (gB Mp.out.2.2.2.2.2.2.2.2.2.2.1) e) (fun e => HNB.out.2 _ _ _ (by decide) (gB Mp.out.2.2.2.2.2.2.2.2.2.2.1) e)), ⟨(gL Mp.out.2.2.2.2.2.2.2.2.2.2.2.1).trans (HF2.out.below (gL Mp.out.2.2.2.2.2.2.2.2.2.2.2.1).size (fun k hk e => by have e1 : k = gg ∨ k = gh := e; have h9 := HGG.out.1.2.2; have h8 := HGG.out.2.2.2; have h1 := HLB.out; have h2 := HP7.out.2.2; have h4 := HN7.out; have h5 := HV9.out; omega)), rfl⟩, trivial⟩
  clear hf HF2 HNB Mp hmk1 hmk2 hnn hnd
  have m0 := (gB Mq.out.1).cel 0
  have m1 := (gB Mq.out.1).cel 1
  have m2 := (gB Mq.out.1).cel 2
  have m3 := (gB Mq.out.1).cel 3
  have m4 := (gB Mq.out.1).cel 4
  have m5 := (gB Mq.out.1).cel 5
  have m6 := (gB Mq.out.1).cel 6
  have m7 := (gB Mq.out.1).cel 7
  have m8 := (gB Mq.out.1).cel 8
  go_wp2_with fail
  clear m0 m1 m2 m3 m4 m5 m6 m7 m8
  refine (heldMoved29 x ga1 ga2 gk1 gk2 1 gg gh wq hxn hxo (by omega) HGG.out.1.1 HMK.out.1 HMK.out.2.1 HGG.out.2.1 HMK.out.2.2.1 HMK.out.2.2.2).mono ?_
  rintro e wr ⟨he, hb⟩
  rw [HMM.out] at he
  subst he
  have HMR : Hid ((0 < x.n → gg < wr.heap.size) ∧ (∀ i, i < x.n → ∀ j, j < 2 → wr.cell? ⟨gg, 0 + i * 2 + j, none⟩ = some (.int .i64 ((1 + i * 2 + j : Nat) : Int))) ∧ (0 < x.no → gh < wr.heap.size) ∧ (∀ i, i < x.no → ∀ j, j < 3 → wr.cell? ⟨gh, 0 + i * 3 + j, none⟩ = some (.int .i64 ((1 + x.n * 2 + i * 3 + j : Nat) : Int)))) := ⟨fun h => Nat.lt_of_lt_of_le (HMK.out.1 h) hb.size, fun i hi j hj => cell_keep hb (HMK.out.1 (by omega)) (HMK.out.2.1 i hi j hj), fun h => Nat.lt_of_lt_of_le (HMK.out.2.2.1 h) hb.size, fun i hi j hj => cell_keep hb (HMK.out.2.2.1 (by omega)) (HMK.out.2.2.2 i hi j hj)⟩
  have Mr := stm Mq hb
  clear hb Mq
  clear HMK
  have hnn : ¬ ((mm : Int) < 0) := by omega
  have hnd : decide ((mm : Int) < 0) = false := by simp
  have zM : ((mm : Int) != (mm : Int)) = false := by simp
  have Ms : Hid (Sts [kBn wr.heap.size wr, kBx (gb) 61 #[.int .i64 x.c, .int .i64 x.far, .int .i64 x.j, .int .i64 x.p, .int .i64 x.a, .int .i64 x.w, .int .i64 x.l, .slice ga1 x.n gk1, .slice ga2 x.no gk2], kBx (yb) 33 #[.int .i64 fp, .int .i64 fa, .int .i64 fw, .int .i64 lg, .slice (some ⟨cq, 0, none⟩) nb nb], kBx (xb) 40 #[.slice (some ⟨pb, 0, none⟩) v.n v.n, .slice (some ⟨jb, 0, none⟩) v.m v.m], kOw w.heap.size 112 3 (.slice wa2 x.no wk2) x.no (intF x.O), kOw w.heap.size 74 2 (.slice wa1 x.n wk1) x.n (intF x.F), kBx (tb) 61 #[.int .i64 x.c, .int .i64 x.far, .int .i64 x.j, .int .i64 x.p, .int .i64 x.a, .int .i64 x.w, .int .i64 x.l, .slice wa1 x.n wk1, .slice wa2 x.no wk2], kBx (w.heap.size + 1) 53 #[.int .i64 fp, .int .i64 fa, .int .i64 fw, .int .i64 lg, .slice ba nb bk], kBx (w.heap.size) 25 #[.slice pa v.n pc, .slice ja v.m jc], kBn w.heap.size w] wr) := ⟨⟨Below.refl _ _, rfl⟩, (gB Mr.out.1), (gB Mr.out.2.2.1), (gB Mr.out.2.2.2.1), (gO Mr.out.2.2.2.2.1), (gO Mr.out.2.2.2.2.2.1), (gB Mr.out.2.2.2.2.2.2.1), (gB Mr.out.2.2.2.2.2.2.2.1), (gB Mr.out.2.2.2.2.2.2.2.2.1), ⟨(gL Mr.out.2.2.2.2.2.2.2.2.2.1), rfl⟩, trivial⟩
  clear Mr
  go_upto_region 37 with fail
  go_cut [18] from 19 (fun s18 wx => ∃ (hb9 : Nat) (ha1 : Option Addr) (hk1 : Nat) (ha2 : Option Addr) (hk2 : Nat), s18 = .pointer (some ⟨hb9, 0, none⟩) ∧ Hid (Sts [kOw w.heap.size 112 3 (.slice ha2 x.no hk2) x.no (intF x.O), kOw w.heap.size 74 2 (.slice ha1 x.n hk1) x.n (intF x.F), kBx (hb9) 61 #[.int .i64 x.c, .int .i64 x.far, .int .i64 x.j, .int .i64 x.p, .int .i64 x.a, .int .i64 x.w, .int .i64 x.l, .slice ha1 x.n hk1, .slice ha2 x.no hk2], kBn wr.heap.size wr, kBx (gb) 61 #[.int .i64 x.c, .int .i64 x.far, .int .i64 x.j, .int .i64 x.p, .int .i64 x.a, .int .i64 x.w, .int .i64 x.l, .slice ga1 x.n gk1, .slice ga2 x.no gk2], kBx (yb) 33 #[.int .i64 fp, .int .i64 fa, .int .i64 fw, .int .i64 lg, .slice (some ⟨cq, 0, none⟩) nb nb], kBx (xb) 40 #[.slice (some ⟨pb, 0, none⟩) v.n v.n, .slice (some ⟨jb, 0, none⟩) v.m v.m], kOw w.heap.size 112 3 (.slice wa2 x.no wk2) x.no (intF x.O), kOw w.heap.size 74 2 (.slice wa1 x.n wk1) x.n (intF x.F), kBx (tb) 61 #[.int .i64 x.c, .int .i64 x.far, .int .i64 x.j, .int .i64 x.p, .int .i64 x.a, .int .i64 x.w, .int .i64 x.l, .slice wa1 x.n wk1, .slice wa2 x.no wk2], kBx (w.heap.size + 1) 53 #[.int .i64 fp, .int .i64 fa, .int .i64 fw, .int .i64 lg, .slice ba nb bk], kBx (w.heap.size) 25 #[.slice pa v.n pc, .slice ja v.m jc], kBn w.heap.size w] wx))
  case first =>
   have a0 := (gB Ms.out.2.2.2.2.2.2.2.2.1).cel 0
   have a1 := (gB Ms.out.2.2.2.2.2.2.2.2.1).cel 1
   have b0 := (gB Ms.out.2.2.2.2.2.2.2.1).cel 0
   have b1 := (gB Ms.out.2.2.2.2.2.2.2.1).cel 1
   have b2 := (gB Ms.out.2.2.2.2.2.2.2.1).cel 2
   have b3 := (gB Ms.out.2.2.2.2.2.2.2.1).cel 3
   have b4 := (gB Ms.out.2.2.2.2.2.2.2.1).cel 4
   go_wp2_with fail
   refine wp_region_held_drew (S := (fun wx : World => wx.cell? ⟨w.heap.size, 0, none⟩ = some (.slice pa v.n pc) ∧ wx.cell? ⟨w.heap.size, 1, none⟩ = some (.slice ja v.m jc) ∧ wx.cell? ⟨w.heap.size + 1, 0, none⟩ = some (.int .i64 fp) ∧ wx.cell? ⟨w.heap.size + 1, 1, none⟩ = some (.int .i64 fa) ∧ wx.cell? ⟨w.heap.size + 1, 2, none⟩ = some (.int .i64 fw) ∧ wx.cell? ⟨w.heap.size + 1, 3, none⟩ = some (.int .i64 lg) ∧ wx.cell? ⟨w.heap.size + 1, 4, none⟩ = some (.slice ba nb bk))) (by kernel_rfl) ?_ (fun hHeld => ?_)
   ·
    exact ⟨a0, a1, b0, b1, b2, b3, b4⟩
   have MD223 := std Ms
   clear a0 a1 b0 b1 b2 b3 b4 Ms
   generalize wr.drew = VD6 at MD223 hHeld ⊢
   refine tk 0 ?_
   refine tk 2 ?_
   refine tk 4 ?_
   refine tk 6 ?_
   refine ready2_lit (i := 1) (j := 8) (by kernel_rfl) rfl rfl (fun K hK => ?_) (fun K hK => ?_)
   ·
    go_simp
    refine (toNetR pa pc ja jc _ hn1 hm1 (H.out.1.mono nr (gL MD223.out.2.2.2.2.2.2.2.2.2.1) nr) (H.out.2.1.mono nr (gL MD223.out.2.2.2.2.2.2.2.2.2.1) nr) HNE.out).mono ?_
    rintro e wh224 ⟨pa1, ja1, rfl, hP3, hJ3, hb⟩
    have MA225 := stx (k := kJs ja1 v.m v.J) (stx (k := kPs pa1 v.n v.P) (stm MD223 hb) (hP3)) (hJ3)
    clear hb hP3 hJ3 MD223
    go_wp2_with fail
    refine hK.out _ _ ?_ (fun hHeld => ?_)
    ·
     exact ⟨(gB MA225.out.2.2.2.2.2.2.2.2.2.2.1).cell 0, (gB MA225.out.2.2.2.2.2.2.2.2.2.2.1).cell 1, (gB MA225.out.2.2.2.2.2.2.2.2.2.1).cell 0, (gB MA225.out.2.2.2.2.2.2.2.2.2.1).cell 1, (gB MA225.out.2.2.2.2.2.2.2.2.2.1).cell 2, (gB MA225.out.2.2.2.2.2.2.2.2.2.1).cell 3, (gB MA225.out.2.2.2.2.2.2.2.2.2.1).cell 4⟩
    clear hK K
    refine ready2_lit (i := 3) (j := 8) (by kernel_rfl) rfl rfl (fun K hK => ?_) (fun K hK => ?_)
    ·
     go_simp
     refine (toIntS10 la nl lc L _ hl1 (H.out.2.2.1.mono nr (gL MA225.out.2.2.2.2.2.2.2.2.2.2.2.1) nr)).mono ?_
     rintro e wh226 ⟨la1, rfl, hI3, hb⟩
     have MA227 := stx (k := kIs la1 nl L) (stm MA225 hb) ((hI3.keep (Nat.zero_le _) nr fun _ _ _ => rfl))
     clear hb hI3 MA225
     go_wp2_with fail
     refine hK.out _ _ ?_ (fun hHeld => ?_)
     ·
      exact ⟨(gB MA227.out.2.2.2.2.2.2.2.2.2.2.2.1).cell 0, (gB MA227.out.2.2.2.2.2.2.2.2.2.2.2.1).cell 1, (gB MA227.out.2.2.2.2.2.2.2.2.2.2.1).cell 0, (gB MA227.out.2.2.2.2.2.2.2.2.2.2.1).cell 1, (gB MA227.out.2.2.2.2.2.2.2.2.2.2.1).cell 2, (gB MA227.out.2.2.2.2.2.2.2.2.2.2.1).cell 3, (gB MA227.out.2.2.2.2.2.2.2.2.2.2.1).cell 4⟩
     clear hK K
     refine ready2_lit (i := 5) (j := 8) (by kernel_rfl) rfl rfl (fun K hK => ?_) (fun K hK => ?_)
     ·
      go_simp
      refine (toTrain9x fp fa fw lg nb B ba bk _ hnb1 (H.out.2.2.2.1.mono nr (gL MA227.out.2.2.2.2.2.2.2.2.2.2.2.2.1) nr)).mono ?_
      rintro e wh228 ⟨bn, rfl, ho, hb⟩
      have MA229 := stx (k := kOw w.heap.size 74 2 (.slice (some ⟨bn, 0, none⟩) nb nb) nb (intF B)) (stm MA227 hb) (ho.keep (gL MA227.out.2.2.2.2.2.2.2.2.2.2.2.2.1).size (fun _ _ => rfl))
      clear hb ho MA227
      go_wp2_with fail
      refine hK.out _ _ ?_ (fun hHeld => ?_)
      ·
       exact ⟨(gB MA229.out.2.2.2.2.2.2.2.2.2.2.2.2.1).cell 0, (gB MA229.out.2.2.2.2.2.2.2.2.2.2.2.2.1).cell 1, (gB MA229.out.2.2.2.2.2.2.2.2.2.2.2.1).cell 0, (gB MA229.out.2.2.2.2.2.2.2.2.2.2.2.1).cell 1, (gB MA229.out.2.2.2.2.2.2.2.2.2.2.2.1).cell 2, (gB MA229.out.2.2.2.2.2.2.2.2.2.2.2.1).cell 3, (gB MA229.out.2.2.2.2.2.2.2.2.2.2.2.1).cell 4⟩
      clear hK K
      refine ready2_lit (i := 7) (j := 8) (by kernel_rfl) rfl rfl (fun K hK => ?_) (fun K hK => ?_)
      ·
       go_simp
       refine (implMove25 pa1 v.n ja1 v.m la1 nl nl L fp fa fw lg nb B bn 0 nb T _ hn1 hm1 hl1 hnb1 nr hn nr hm (gP MA229.out.2.2.2.1) (gJ MA229.out.2.2.1) H.out.2.2.2.2.1 HNE2.out (gI MA229.out.2.1) (Lst.own (gO MA229.out.1)) nr).mono ?_
       rintro e wh230 ⟨x2, ha1, hk1, ha2, hk2, hA, he, ho1, ho2, hb⟩
       rw [hA.det HX.out] at he ho1 ho2
       subst he
       have MA231 : Hid (Sts [kOw w.heap.size 112 3 (.slice ha2 x.no hk2) x.no (intF x.O), kOw w.heap.size 74 2 (.slice ha1 x.n hk1) x.n (intF x.F), kBn wr.heap.size wr, kBx (gb) 61 #[.int .i64 x.c, .int .i64 x.far, .int .i64 x.j, .int .i64 x.p, .int .i64 x.a, .int .i64 x.w, .int .i64 x.l, .slice ga1 x.n gk1, .slice ga2 x.no gk2], kBx (yb) 33 #[.int .i64 fp, .int .i64 fa, .int .i64 fw, .int .i64 lg, .slice (some ⟨cq, 0, none⟩) nb nb], kBx (xb) 40 #[.slice (some ⟨pb, 0, none⟩) v.n v.n, .slice (some ⟨jb, 0, none⟩) v.m v.m], kOw w.heap.size 112 3 (.slice wa2 x.no wk2) x.no (intF x.O), kOw w.heap.size 74 2 (.slice wa1 x.n wk1) x.n (intF x.F), kBx (tb) 61 #[.int .i64 x.c, .int .i64 x.far, .int .i64 x.j, .int .i64 x.p, .int .i64 x.a, .int .i64 x.w, .int .i64 x.l, .slice wa1 x.n wk1, .slice wa2 x.no wk2], kBx (w.heap.size + 1) 53 #[.int .i64 fp, .int .i64 fa, .int .i64 fw, .int .i64 lg, .slice ba nb bk], kBx (w.heap.size) 25 #[.slice pa v.n pc, .slice ja v.m jc], kBn w.heap.size w] wh230) := ⟨ho2.keep (gL MA229.out.2.2.2.2.2.2.2.2.2.2.2.2.2.1).size (fun _ _ => rfl), ho1.keep (gL MA229.out.2.2.2.2.2.2.2.2.2.2.2.2.2.1).size (fun _ _ => rfl), ⟨(gL MA229.out.2.2.2.2.1).trans (hb.mono (gL MA229.out.2.2.2.2.1).size), rfl⟩, (gB MA229.out.2.2.2.2.2.1).mono hb nr, (gB MA229.out.2.2.2.2.2.2.1).mono hb nr, (gB MA229.out.2.2.2.2.2.2.2.1).mono hb nr, (gO MA229.out.2.2.2.2.2.2.2.2.1).mono nr hb nr, (gO MA229.out.2.2.2.2.2.2.2.2.2.1).mono nr hb nr, (gB MA229.out.2.2.2.2.2.2.2.2.2.2.1).mono hb nr, (gB MA229.out.2.2.2.2.2.2.2.2.2.2.2.1).mono hb nr, (gB MA229.out.2.2.2.2.2.2.2.2.2.2.2.2.1).mono hb nr, ⟨(gL MA229.out.2.2.2.2.2.2.2.2.2.2.2.2.2.1).trans (hb.mono (gL MA229.out.2.2.2.2.2.2.2.2.2.2.2.2.2.1).size), rfl⟩, trivial⟩
       clear hb ho1 ho2 hA MA229
       go_wp2_with fail
       refine hK.out _ _ ?_ (fun hHeld => ?_)
       ·
        exact ⟨(gB MA231.out.2.2.2.2.2.2.2.2.2.2.1).cell 0, (gB MA231.out.2.2.2.2.2.2.2.2.2.2.1).cell 1, (gB MA231.out.2.2.2.2.2.2.2.2.2.1).cell 0, (gB MA231.out.2.2.2.2.2.2.2.2.2.1).cell 1, (gB MA231.out.2.2.2.2.2.2.2.2.2.1).cell 2, (gB MA231.out.2.2.2.2.2.2.2.2.2.1).cell 3, (gB MA231.out.2.2.2.2.2.2.2.2.2.1).cell 4⟩
       clear hK K
       refine rl 8 fun K hK => ?_
       have MA233 := stx (k := kBx (wh230.heap.size) 61 #[.int .i64 0, .int .i64 0, .int .i64 0, .int .i64 0, .int .i64 0, .int .i64 0, .int .i64 0, .slice none 0 0, .slice none 0 0]) (sta MA231 (.cells #[.int .i64 0, .int .i64 0, .int .i64 0, .int .i64 0, .int .i64 0, .int .i64 0, .int .i64 0, .slice none 0 0, .slice none 0 0] 61)) (Box.new _ _ _)
       have HL234 : Hid (w.heap.size ≤ wh230.heap.size) := (gL MA231.out.2.2.2.2.2.2.2.2.2.2.2.1).size
       have HL235 : Hid (wr.heap.size ≤ wh230.heap.size) := (gL MA231.out.2.2.1).size
       have HE236 : Hid (tb ≠ wh230.heap.size) := by have h9 := (gB MA231.out.2.2.2.2.2.2.2.2.1).lt; show _ ≠ _; omega
       have HE237 : Hid (gb ≠ wh230.heap.size) := by have h9 := (gB MA231.out.2.2.2.1).lt; show _ ≠ _; omega
       clear MA231
       go_simp
       refine hK.out _ _ ?_ (fun hHeld => ?_)
       ·
        exact ⟨(gB MA233.out.2.2.2.2.2.2.2.2.2.2.2.1).cell 0, (gB MA233.out.2.2.2.2.2.2.2.2.2.2.2.1).cell 1, (gB MA233.out.2.2.2.2.2.2.2.2.2.2.1).cell 0, (gB MA233.out.2.2.2.2.2.2.2.2.2.2.1).cell 1, (gB MA233.out.2.2.2.2.2.2.2.2.2.2.1).cell 2, (gB MA233.out.2.2.2.2.2.2.2.2.2.2.1).cell 3, (gB MA233.out.2.2.2.2.2.2.2.2.2.2.1).cell 4⟩
       clear hK K
       clear hHeld
       generalize wh230.alloc (.cells #[.int .i64 0, .int .i64 0, .int .i64 0, .int .i64 0, .int .i64 0, .int .i64 0, .int .i64 0, .slice none 0 0, .slice none 0 0] 61) = V232 at MA233 ⊢
       generalize wh230.heap.size = hb9 at MA233 HL234 HL235 HE236 HE237 ⊢
       refine rl 9 fun K hK => ?_
       refine step_row rfl 61 _ _ rfl hb9 #[.int .i64 x.c, .int .i64 x.far, .int .i64 x.j, .int .i64 x.p, .int .i64 x.a, .int .i64 x.w, .int .i64 x.l, .slice ha1 x.n hk1, .slice ha2 x.no hk2] rfl rfl 61 _ (gB MA233.out.1) (by kernel_rfl) rfl (by kernel_rfl) ?_
       intro W238 hB9 hF9
       have MA239 : Hid (Sts [kBx (hb9) 61 #[.int .i64 x.c, .int .i64 x.far, .int .i64 x.j, .int .i64 x.p, .int .i64 x.a, .int .i64 x.w, .int .i64 x.l, .slice ha1 x.n hk1, .slice ha2 x.no hk2], kOw w.heap.size 112 3 (.slice ha2 x.no hk2) x.no (intF x.O), kOw w.heap.size 74 2 (.slice ha1 x.n hk1) x.n (intF x.F), kBn wr.heap.size wr, kBx (gb) 61 #[.int .i64 x.c, .int .i64 x.far, .int .i64 x.j, .int .i64 x.p, .int .i64 x.a, .int .i64 x.w, .int .i64 x.l, .slice ga1 x.n gk1, .slice ga2 x.no gk2], kBx (yb) 33 #[.int .i64 fp, .int .i64 fa, .int .i64 fw, .int .i64 lg, .slice (some ⟨cq, 0, none⟩) nb nb], kBx (xb) 40 #[.slice (some ⟨pb, 0, none⟩) v.n v.n, .slice (some ⟨jb, 0, none⟩) v.m v.m], kOw w.heap.size 112 3 (.slice wa2 x.no wk2) x.no (intF x.O), kOw w.heap.size 74 2 (.slice wa1 x.n wk1) x.n (intF x.F), kBx (tb) 61 #[.int .i64 x.c, .int .i64 x.far, .int .i64 x.j, .int .i64 x.p, .int .i64 x.a, .int .i64 x.w, .int .i64 x.l, .slice wa1 x.n wk1, .slice wa2 x.no wk2], kBx (w.heap.size + 1) 53 #[.int .i64 fp, .int .i64 fa, .int .i64 fw, .int .i64 lg, .slice ba nb bk], kBx (w.heap.size) 25 #[.slice pa v.n pc, .slice ja v.m jc], kBn w.heap.size w] W238) := ⟨hB9, owf (gO MA233.out.2.1) (gB MA233.out.1) hF9, owf (gO MA233.out.2.2.1) (gB MA233.out.1) hF9, ⟨blf MA233.out.2.2.2.1 HL235.out hF9, rfl⟩, (gB MA233.out.2.2.2.2.1).fr hF9 HE237.out, bxf (gB MA233.out.2.2.2.2.2.1) (gB MA233.out.1) hF9, bxf (gB MA233.out.2.2.2.2.2.2.1) (gB MA233.out.1) hF9, owf (gO MA233.out.2.2.2.2.2.2.2.1) (gB MA233.out.1) hF9, owf (gO MA233.out.2.2.2.2.2.2.2.2.1) (gB MA233.out.1) hF9, (gB MA233.out.2.2.2.2.2.2.2.2.2.1).fr hF9 HE236.out, bxf (gB MA233.out.2.2.2.2.2.2.2.2.2.2.1) (gB MA233.out.1) hF9, bxf (gB MA233.out.2.2.2.2.2.2.2.2.2.2.2.1) (gB MA233.out.1) hF9, ⟨blf MA233.out.2.2.2.2.2.2.2.2.2.2.2.2.1 HL234.out hF9, rfl⟩, trivial⟩
       clear hB9 hF9 MA233
       simp only [Act.put]
       refine hK.out _ _ ?_ (fun hHeld => ?_)
       ·
        exact ⟨(gB MA239.out.2.2.2.2.2.2.2.2.2.2.2.1).cell 0, (gB MA239.out.2.2.2.2.2.2.2.2.2.2.2.1).cell 1, (gB MA239.out.2.2.2.2.2.2.2.2.2.2.1).cell 0, (gB MA239.out.2.2.2.2.2.2.2.2.2.2.1).cell 1, (gB MA239.out.2.2.2.2.2.2.2.2.2.2.1).cell 2, (gB MA239.out.2.2.2.2.2.2.2.2.2.2.1).cell 3, (gB MA239.out.2.2.2.2.2.2.2.2.2.2.1).cell 4⟩
       clear hK K
       refine wpAnyH_done (by kernel_rfl) ?_ _
       clear hHeld
       go_wp2_with fail
       go_meet
       case rel => exact ⟨hb9, ha1, hk1, ha2, hk2, rfl, ⟨(gO MA239.out.2.1), (gO MA239.out.2.2.1), (gB MA239.out.1), ⟨(gL MA239.out.2.2.2.1), rfl⟩, (gB MA239.out.2.2.2.2.1), (gB MA239.out.2.2.2.2.2.1), (gB MA239.out.2.2.2.2.2.2.1), (gO MA239.out.2.2.2.2.2.2.2.1), (gO MA239.out.2.2.2.2.2.2.2.2.1), (gB MA239.out.2.2.2.2.2.2.2.2.2.1), (gB MA239.out.2.2.2.2.2.2.2.2.2.2.1), (gB MA239.out.2.2.2.2.2.2.2.2.2.2.2.1), ⟨(gL MA239.out.2.2.2.2.2.2.2.2.2.2.2.2.1), rfl⟩, trivial⟩⟩
      ·
       have MA241 := stx (k := kBx (wh228.heap.size) 61 #[.int .i64 0, .int .i64 0, .int .i64 0, .int .i64 0, .int .i64 0, .int .i64 0, .int .i64 0, .slice none 0 0, .slice none 0 0]) (sta MA229 (.cells #[.int .i64 0, .int .i64 0, .int .i64 0, .int .i64 0, .int .i64 0, .int .i64 0, .int .i64 0, .slice none 0 0, .slice none 0 0] 61)) (Box.new _ _ _)
       have HL242 : Hid (w.heap.size ≤ wh228.heap.size) := (gL MA229.out.2.2.2.2.2.2.2.2.2.2.2.2.2.1).size
       have HL243 : Hid (wr.heap.size ≤ wh228.heap.size) := (gL MA229.out.2.2.2.2.1).size
       have HE244 : Hid (tb ≠ wh228.heap.size) := by have h9 := (gB MA229.out.2.2.2.2.2.2.2.2.2.2.1).lt; show _ ≠ _; omega
       have HE245 : Hid (gb ≠ wh228.heap.size) := by have h9 := (gB MA229.out.2.2.2.2.2.1).lt; show _ ≠ _; omega
       clear MA229
       go_simp
       refine hK.out _ _ ?_ (fun hHeld => ?_)
       ·
        exact ⟨(gB MA241.out.2.2.2.2.2.2.2.2.2.2.2.2.2.1).cell 0, (gB MA241.out.2.2.2.2.2.2.2.2.2.2.2.2.2.1).cell 1, (gB MA241.out.2.2.2.2.2.2.2.2.2.2.2.2.1).cell 0, (gB MA241.out.2.2.2.2.2.2.2.2.2.2.2.2.1).cell 1, (gB MA241.out.2.2.2.2.2.2.2.2.2.2.2.2.1).cell 2, (gB MA241.out.2.2.2.2.2.2.2.2.2.2.2.2.1).cell 3, (gB MA241.out.2.2.2.2.2.2.2.2.2.2.2.2.1).cell 4⟩
       clear hK K
       clear hHeld
       generalize wh228.alloc (.cells #[.int .i64 0, .int .i64 0, .int .i64 0, .int .i64 0, .int .i64 0, .int .i64 0, .int .i64 0, .slice none 0 0, .slice none 0 0] 61) = V240 at MA241 ⊢
       generalize wh228.heap.size = hb9 at MA241 HL242 HL243 HE244 HE245 ⊢
       refine rl 7 fun K hK => ?_
       go_simp
       refine (implMove25 pa1 v.n ja1 v.m la1 nl nl L fp fa fw lg nb B bn 0 nb T _ hn1 hm1 hl1 hnb1 nr hn nr hm (gP MA241.out.2.2.2.2.1) (gJ MA241.out.2.2.2.1) H.out.2.2.2.2.1 HNE2.out (gI MA241.out.2.2.1) (Lst.own (gO MA241.out.2.1)) nr).mono ?_
       rintro e wh246 ⟨x2, ha1, hk1, ha2, hk2, hA, he, ho1, ho2, hb⟩
       rw [hA.det HX.out] at he ho1 ho2
       subst he
       have MA247 : Hid (Sts [kOw w.heap.size 112 3 (.slice ha2 x.no hk2) x.no (intF x.O), kOw w.heap.size 74 2 (.slice ha1 x.n hk1) x.n (intF x.F), kBx (hb9) 61 #[.int .i64 0, .int .i64 0, .int .i64 0, .int .i64 0, .int .i64 0, .int .i64 0, .int .i64 0, .slice none 0 0, .slice none 0 0], kBn wr.heap.size wr, kBx (gb) 61 #[.int .i64 x.c, .int .i64 x.far, .int .i64 x.j, .int .i64 x.p, .int .i64 x.a, .int .i64 x.w, .int .i64 x.l, .slice ga1 x.n gk1, .slice ga2 x.no gk2], kBx (yb) 33 #[.int .i64 fp, .int .i64 fa, .int .i64 fw, .int .i64 lg, .slice (some ⟨cq, 0, none⟩) nb nb], kBx (xb) 40 #[.slice (some ⟨pb, 0, none⟩) v.n v.n, .slice (some ⟨jb, 0, none⟩) v.m v.m], kOw w.heap.size 112 3 (.slice wa2 x.no wk2) x.no (intF x.O), kOw w.heap.size 74 2 (.slice wa1 x.n wk1) x.n (intF x.F), kBx (tb) 61 #[.int .i64 x.c, .int .i64 x.far, .int .i64 x.j, .int .i64 x.p, .int .i64 x.a, .int .i64 x.w, .int .i64 x.l, .slice wa1 x.n wk1, .slice wa2 x.no wk2], kBx (w.heap.size + 1) 53 #[.int .i64 fp, .int .i64 fa, .int .i64 fw, .int .i64 lg, .slice ba nb bk], kBx (w.heap.size) 25 #[.slice pa v.n pc, .slice ja v.m jc], kBn w.heap.size w] wh246) := ⟨ho2.keep (gL MA241.out.2.2.2.2.2.2.2.2.2.2.2.2.2.2.1).size (fun _ _ => rfl), ho1.keep (gL MA241.out.2.2.2.2.2.2.2.2.2.2.2.2.2.2.1).size (fun _ _ => rfl), (gB MA241.out.1).mono hb nr, ⟨(gL MA241.out.2.2.2.2.2.1).trans (hb.mono (gL MA241.out.2.2.2.2.2.1).size), rfl⟩, (gB MA241.out.2.2.2.2.2.2.1).mono hb nr, (gB MA241.out.2.2.2.2.2.2.2.1).mono hb nr, (gB MA241.out.2.2.2.2.2.2.2.2.1).mono hb nr, (gO MA241.out.2.2.2.2.2.2.2.2.2.1).mono nr hb nr, (gO MA241.out.2.2.2.2.2.2.2.2.2.2.1).mono nr hb nr, (gB MA241.out.2.2.2.2.2.2.2.2.2.2.2.1).mono hb nr, (gB MA241.out.2.2.2.2.2.2.2.2.2.2.2.2.1).mono hb nr, (gB MA241.out.2.2.2.2.2.2.2.2.2.2.2.2.2.1).mono hb nr, ⟨(gL MA241.out.2.2.2.2.2.2.2.2.2.2.2.2.2.2.1).trans (hb.mono (gL MA241.out.2.2.2.2.2.2.2.2.2.2.2.2.2.2.1).size), rfl⟩, trivial⟩
       clear hb ho1 ho2 hA MA241
       go_wp2_with fail
       refine hK.out _ _ ?_ (fun hHeld => ?_)
       ·
        exact ⟨(gB MA247.out.2.2.2.2.2.2.2.2.2.2.2.1).cell 0, (gB MA247.out.2.2.2.2.2.2.2.2.2.2.2.1).cell 1, (gB MA247.out.2.2.2.2.2.2.2.2.2.2.1).cell 0, (gB MA247.out.2.2.2.2.2.2.2.2.2.2.1).cell 1, (gB MA247.out.2.2.2.2.2.2.2.2.2.2.1).cell 2, (gB MA247.out.2.2.2.2.2.2.2.2.2.2.1).cell 3, (gB MA247.out.2.2.2.2.2.2.2.2.2.2.1).cell 4⟩
       clear hK K
       refine rl 9 fun K hK => ?_
       refine step_row rfl 61 _ _ rfl hb9 #[.int .i64 x.c, .int .i64 x.far, .int .i64 x.j, .int .i64 x.p, .int .i64 x.a, .int .i64 x.w, .int .i64 x.l, .slice ha1 x.n hk1, .slice ha2 x.no hk2] rfl rfl 61 _ (gB MA247.out.2.2.1) (by kernel_rfl) rfl (by kernel_rfl) ?_
       intro W248 hB9 hF9
       have MA249 : Hid (Sts [kOw w.heap.size 112 3 (.slice ha2 x.no hk2) x.no (intF x.O), kOw w.heap.size 74 2 (.slice ha1 x.n hk1) x.n (intF x.F), kBx (hb9) 61 #[.int .i64 x.c, .int .i64 x.far, .int .i64 x.j, .int .i64 x.p, .int .i64 x.a, .int .i64 x.w, .int .i64 x.l, .slice ha1 x.n hk1, .slice ha2 x.no hk2], kBn wr.heap.size wr, kBx (gb) 61 #[.int .i64 x.c, .int .i64 x.far, .int .i64 x.j, .int .i64 x.p, .int .i64 x.a, .int .i64 x.w, .int .i64 x.l, .slice ga1 x.n gk1, .slice ga2 x.no gk2], kBx (yb) 33 #[.int .i64 fp, .int .i64 fa, .int .i64 fw, .int .i64 lg, .slice (some ⟨cq, 0, none⟩) nb nb], kBx (xb) 40 #[.slice (some ⟨pb, 0, none⟩) v.n v.n, .slice (some ⟨jb, 0, none⟩) v.m v.m], kOw w.heap.size 112 3 (.slice wa2 x.no wk2) x.no (intF x.O), kOw w.heap.size 74 2 (.slice wa1 x.n wk1) x.n (intF x.F), kBx (tb) 61 #[.int .i64 x.c, .int .i64 x.far, .int .i64 x.j, .int .i64 x.p, .int .i64 x.a, .int .i64 x.w, .int .i64 x.l, .slice wa1 x.n wk1, .slice wa2 x.no wk2], kBx (w.heap.size + 1) 53 #[.int .i64 fp, .int .i64 fa, .int .i64 fw, .int .i64 lg, .slice ba nb bk], kBx (w.heap.size) 25 #[.slice pa v.n pc, .slice ja v.m jc], kBn w.heap.size w] W248) := ⟨owf (gO MA247.out.1) (gB MA247.out.2.2.1) hF9, owf (gO MA247.out.2.1) (gB MA247.out.2.2.1) hF9, hB9, ⟨blf MA247.out.2.2.2.1 HL243.out hF9, rfl⟩, (gB MA247.out.2.2.2.2.1).fr hF9 HE245.out, bxf (gB MA247.out.2.2.2.2.2.1) (gB MA247.out.2.2.1) hF9, bxf (gB MA247.out.2.2.2.2.2.2.1) (gB MA247.out.2.2.1) hF9, owf (gO MA247.out.2.2.2.2.2.2.2.1) (gB MA247.out.2.2.1) hF9, owf (gO MA247.out.2.2.2.2.2.2.2.2.1) (gB MA247.out.2.2.1) hF9, (gB MA247.out.2.2.2.2.2.2.2.2.2.1).fr hF9 HE244.out, bxf (gB MA247.out.2.2.2.2.2.2.2.2.2.2.1) (gB MA247.out.2.2.1) hF9, bxf (gB MA247.out.2.2.2.2.2.2.2.2.2.2.2.1) (gB MA247.out.2.2.1) hF9, ⟨blf MA247.out.2.2.2.2.2.2.2.2.2.2.2.2.1 HL242.out hF9, rfl⟩, trivial⟩
       clear hB9 hF9 MA247
       simp only [Act.put]
       refine hK.out _ _ ?_ (fun hHeld => ?_)
       ·
        exact ⟨(gB MA249.out.2.2.2.2.2.2.2.2.2.2.2.1).cell 0, (gB MA249.out.2.2.2.2.2.2.2.2.2.2.2.1).cell 1, (gB MA249.out.2.2.2.2.2.2.2.2.2.2.1).cell 0, (gB MA249.out.2.2.2.2.2.2.2.2.2.2.1).cell 1, (gB MA249.out.2.2.2.2.2.2.2.2.2.2.1).cell 2, (gB MA249.out.2.2.2.2.2.2.2.2.2.2.1).cell 3, (gB MA249.out.2.2.2.2.2.2.2.2.2.2.1).cell 4⟩
       clear hK K
       refine wpAnyH_done (by kernel_rfl) ?_ _
       clear hHeld
       go_wp2_with fail
       go_meet
       case rel => exact ⟨hb9, ha1, hk1, ha2, hk2, rfl, ⟨(gO MA249.out.1), (gO MA249.out.2.1), (gB MA249.out.2.2.1), ⟨(gL MA249.out.2.2.2.1), rfl⟩, (gB MA249.out.2.2.2.2.1), (gB MA249.out.2.2.2.2.2.1), (gB MA249.out.2.2.2.2.2.2.1), (gO MA249.out.2.2.2.2.2.2.2.1), (gO MA249.out.2.2.2.2.2.2.2.2.1), (gB MA249.out.2.2.2.2.2.2.2.2.2.1), (gB MA249.out.2.2.2.2.2.2.2.2.2.2.1), (gB MA249.out.2.2.2.2.2.2.2.2.2.2.2.1), ⟨(gL MA249.out.2.2.2.2.2.2.2.2.2.2.2.2.1), rfl⟩, trivial⟩⟩
     ·
      have MA251 := stx (k := kBx (wh226.heap.size) 61 #[.int .i64 0, .int .i64 0, .int .i64 0, .int .i64 0, .int .i64 0, .int .i64 0, .int .i64 0, .slice none 0 0, .slice none 0 0]) (sta MA227 (.cells #[.int .i64 0, .int .i64 0, .int .i64 0, .int .i64 0, .int .i64 0, .int .i64 0, .int .i64 0, .slice none 0 0, .slice none 0 0] 61)) (Box.new _ _ _)
      have HL252 : Hid (w.heap.size ≤ wh226.heap.size) := (gL MA227.out.2.2.2.2.2.2.2.2.2.2.2.2.1).size
      have HL253 : Hid (wr.heap.size ≤ wh226.heap.size) := (gL MA227.out.2.2.2.1).size
      have HE254 : Hid (tb ≠ wh226.heap.size) := by have h9 := (gB MA227.out.2.2.2.2.2.2.2.2.2.1).lt; show _ ≠ _; omega
      have HE255 : Hid (gb ≠ wh226.heap.size) := by have h9 := (gB MA227.out.2.2.2.2.1).lt; show _ ≠ _; omega
      clear MA227
      go_simp
      refine hK.out _ _ ?_ (fun hHeld => ?_)
      ·
       exact ⟨(gB MA251.out.2.2.2.2.2.2.2.2.2.2.2.2.1).cell 0, (gB MA251.out.2.2.2.2.2.2.2.2.2.2.2.2.1).cell 1, (gB MA251.out.2.2.2.2.2.2.2.2.2.2.2.1).cell 0, (gB MA251.out.2.2.2.2.2.2.2.2.2.2.2.1).cell 1, (gB MA251.out.2.2.2.2.2.2.2.2.2.2.2.1).cell 2, (gB MA251.out.2.2.2.2.2.2.2.2.2.2.2.1).cell 3, (gB MA251.out.2.2.2.2.2.2.2.2.2.2.2.1).cell 4⟩
      clear hK K
      clear hHeld
      generalize wh226.alloc (.cells #[.int .i64 0, .int .i64 0, .int .i64 0, .int .i64 0, .int .i64 0, .int .i64 0, .int .i64 0, .slice none 0 0, .slice none 0 0] 61) = V250 at MA251 ⊢
      generalize wh226.heap.size = hb9 at MA251 HL252 HL253 HE254 HE255 ⊢
      refine rl 5 fun K hK => ?_
      go_simp
      refine (toTrain9x fp fa fw lg nb B ba bk _ hnb1 (H.out.2.2.2.1.mono nr (gL MA251.out.2.2.2.2.2.2.2.2.2.2.2.2.2.1) nr)).mono ?_
      rintro e wh256 ⟨bn, rfl, ho, hb⟩
      have MA257 := stx (k := kOw w.heap.size 74 2 (.slice (some ⟨bn, 0, none⟩) nb nb) nb (intF B)) (stm MA251 hb) (ho.keep (gL MA251.out.2.2.2.2.2.2.2.2.2.2.2.2.2.1).size (fun _ _ => rfl))
      clear hb ho MA251
      go_wp2_with fail
      refine hK.out _ _ ?_ (fun hHeld => ?_)
      ·
       exact ⟨(gB MA257.out.2.2.2.2.2.2.2.2.2.2.2.2.2.1).cell 0, (gB MA257.out.2.2.2.2.2.2.2.2.2.2.2.2.2.1).cell 1, (gB MA257.out.2.2.2.2.2.2.2.2.2.2.2.2.1).cell 0, (gB MA257.out.2.2.2.2.2.2.2.2.2.2.2.2.1).cell 1, (gB MA257.out.2.2.2.2.2.2.2.2.2.2.2.2.1).cell 2, (gB MA257.out.2.2.2.2.2.2.2.2.2.2.2.2.1).cell 3, (gB MA257.out.2.2.2.2.2.2.2.2.2.2.2.2.1).cell 4⟩
      clear hK K
      refine rl 7 fun K hK => ?_
      go_simp
      refine (implMove25 pa1 v.n ja1 v.m la1 nl nl L fp fa fw lg nb B bn 0 nb T _ hn1 hm1 hl1 hnb1 nr hn nr hm (gP MA257.out.2.2.2.2.1) (gJ MA257.out.2.2.2.1) H.out.2.2.2.2.1 HNE2.out (gI MA257.out.2.2.1) (Lst.own (gO MA257.out.1)) nr).mono ?_
      rintro e wh258 ⟨x2, ha1, hk1, ha2, hk2, hA, he, ho1, ho2, hb⟩
      rw [hA.det HX.out] at he ho1 ho2
      subst he
      have MA259 : Hid (Sts [kOw w.heap.size 112 3 (.slice ha2 x.no hk2) x.no (intF x.O), kOw w.heap.size 74 2 (.slice ha1 x.n hk1) x.n (intF x.F), kBx (hb9) 61 #[.int .i64 0, .int .i64 0, .int .i64 0, .int .i64 0, .int .i64 0, .int .i64 0, .int .i64 0, .slice none 0 0, .slice none 0 0], kBn wr.heap.size wr, kBx (gb) 61 #[.int .i64 x.c, .int .i64 x.far, .int .i64 x.j, .int .i64 x.p, .int .i64 x.a, .int .i64 x.w, .int .i64 x.l, .slice ga1 x.n gk1, .slice ga2 x.no gk2], kBx (yb) 33 #[.int .i64 fp, .int .i64 fa, .int .i64 fw, .int .i64 lg, .slice (some ⟨cq, 0, none⟩) nb nb], kBx (xb) 40 #[.slice (some ⟨pb, 0, none⟩) v.n v.n, .slice (some ⟨jb, 0, none⟩) v.m v.m], kOw w.heap.size 112 3 (.slice wa2 x.no wk2) x.no (intF x.O), kOw w.heap.size 74 2 (.slice wa1 x.n wk1) x.n (intF x.F), kBx (tb) 61 #[.int .i64 x.c, .int .i64 x.far, .int .i64 x.j, .int .i64 x.p, .int .i64 x.a, .int .i64 x.w, .int .i64 x.l, .slice wa1 x.n wk1, .slice wa2 x.no wk2], kBx (w.heap.size + 1) 53 #[.int .i64 fp, .int .i64 fa, .int .i64 fw, .int .i64 lg, .slice ba nb bk], kBx (w.heap.size) 25 #[.slice pa v.n pc, .slice ja v.m jc], kBn w.heap.size w] wh258) := ⟨ho2.keep (gL MA257.out.2.2.2.2.2.2.2.2.2.2.2.2.2.2.1).size (fun _ _ => rfl), ho1.keep (gL MA257.out.2.2.2.2.2.2.2.2.2.2.2.2.2.2.1).size (fun _ _ => rfl), (gB MA257.out.2.1).mono hb nr, ⟨(gL MA257.out.2.2.2.2.2.1).trans (hb.mono (gL MA257.out.2.2.2.2.2.1).size), rfl⟩, (gB MA257.out.2.2.2.2.2.2.1).mono hb nr, (gB MA257.out.2.2.2.2.2.2.2.1).mono hb nr, (gB MA257.out.2.2.2.2.2.2.2.2.1).mono hb nr, (gO MA257.out.2.2.2.2.2.2.2.2.2.1).mono nr hb nr, (gO MA257.out.2.2.2.2.2.2.2.2.2.2.1).mono nr hb nr, (gB MA257.out.2.2.2.2.2.2.2.2.2.2.2.1).mono hb nr, (gB MA257.out.2.2.2.2.2.2.2.2.2.2.2.2.1).mono hb nr, (gB MA257.out.2.2.2.2.2.2.2.2.2.2.2.2.2.1).mono hb nr, ⟨(gL MA257.out.2.2.2.2.2.2.2.2.2.2.2.2.2.2.1).trans (hb.mono (gL MA257.out.2.2.2.2.2.2.2.2.2.2.2.2.2.2.1).size), rfl⟩, trivial⟩
      clear hb ho1 ho2 hA MA257
      go_wp2_with fail
      refine hK.out _ _ ?_ (fun hHeld => ?_)
      ·
       exact ⟨(gB MA259.out.2.2.2.2.2.2.2.2.2.2.2.1).cell 0, (gB MA259.out.2.2.2.2.2.2.2.2.2.2.2.1).cell 1, (gB MA259.out.2.2.2.2.2.2.2.2.2.2.1).cell 0, (gB MA259.out.2.2.2.2.2.2.2.2.2.2.1).cell 1, (gB MA259.out.2.2.2.2.2.2.2.2.2.2.1).cell 2, (gB MA259.out.2.2.2.2.2.2.2.2.2.2.1).cell 3, (gB MA259.out.2.2.2.2.2.2.2.2.2.2.1).cell 4⟩
      clear hK K
      refine rl 9 fun K hK => ?_
      refine step_row rfl 61 _ _ rfl hb9 #[.int .i64 x.c, .int .i64 x.far, .int .i64 x.j, .int .i64 x.p, .int .i64 x.a, .int .i64 x.w, .int .i64 x.l, .slice ha1 x.n hk1, .slice ha2 x.no hk2] rfl rfl 61 _ (gB MA259.out.2.2.1) (by kernel_rfl) rfl (by kernel_rfl) ?_
      intro W260 hB9 hF9
      have MA261 : Hid (Sts [kOw w.heap.size 112 3 (.slice ha2 x.no hk2) x.no (intF x.O), kOw w.heap.size 74 2 (.slice ha1 x.n hk1) x.n (intF x.F), kBx (hb9) 61 #[.int .i64 x.c, .int .i64 x.far, .int .i64 x.j, .int .i64 x.p, .int .i64 x.a, .int .i64 x.w, .int .i64 x.l, .slice ha1 x.n hk1, .slice ha2 x.no hk2], kBn wr.heap.size wr, kBx (gb) 61 #[.int .i64 x.c, .int .i64 x.far, .int .i64 x.j, .int .i64 x.p, .int .i64 x.a, .int .i64 x.w, .int .i64 x.l, .slice ga1 x.n gk1, .slice ga2 x.no gk2], kBx (yb) 33 #[.int .i64 fp, .int .i64 fa, .int .i64 fw, .int .i64 lg, .slice (some ⟨cq, 0, none⟩) nb nb], kBx (xb) 40 #[.slice (some ⟨pb, 0, none⟩) v.n v.n, .slice (some ⟨jb, 0, none⟩) v.m v.m], kOw w.heap.size 112 3 (.slice wa2 x.no wk2) x.no (intF x.O), kOw w.heap.size 74 2 (.slice wa1 x.n wk1) x.n (intF x.F), kBx (tb) 61 #[.int .i64 x.c, .int .i64 x.far, .int .i64 x.j, .int .i64 x.p, .int .i64 x.a, .int .i64 x.w, .int .i64 x.l, .slice wa1 x.n wk1, .slice wa2 x.no wk2], kBx (w.heap.size + 1) 53 #[.int .i64 fp, .int .i64 fa, .int .i64 fw, .int .i64 lg, .slice ba nb bk], kBx (w.heap.size) 25 #[.slice pa v.n pc, .slice ja v.m jc], kBn w.heap.size w] W260) := ⟨owf (gO MA259.out.1) (gB MA259.out.2.2.1) hF9, owf (gO MA259.out.2.1) (gB MA259.out.2.2.1) hF9, hB9, ⟨blf MA259.out.2.2.2.1 HL253.out hF9, rfl⟩, (gB MA259.out.2.2.2.2.1).fr hF9 HE255.out, bxf (gB MA259.out.2.2.2.2.2.1) (gB MA259.out.2.2.1) hF9, bxf (gB MA259.out.2.2.2.2.2.2.1) (gB MA259.out.2.2.1) hF9, owf (gO MA259.out.2.2.2.2.2.2.2.1) (gB MA259.out.2.2.1) hF9, owf (gO MA259.out.2.2.2.2.2.2.2.2.1) (gB MA259.out.2.2.1) hF9, (gB MA259.out.2.2.2.2.2.2.2.2.2.1).fr hF9 HE254.out, bxf (gB MA259.out.2.2.2.2.2.2.2.2.2.2.1) (gB MA259.out.2.2.1) hF9, bxf (gB MA259.out.2.2.2.2.2.2.2.2.2.2.2.1) (gB MA259.out.2.2.1) hF9, ⟨blf MA259.out.2.2.2.2.2.2.2.2.2.2.2.2.1 HL252.out hF9, rfl⟩, trivial⟩
      clear hB9 hF9 MA259
      simp only [Act.put]
      refine hK.out _ _ ?_ (fun hHeld => ?_)
      ·
       exact ⟨(gB MA261.out.2.2.2.2.2.2.2.2.2.2.2.1).cell 0, (gB MA261.out.2.2.2.2.2.2.2.2.2.2.2.1).cell 1, (gB MA261.out.2.2.2.2.2.2.2.2.2.2.1).cell 0, (gB MA261.out.2.2.2.2.2.2.2.2.2.2.1).cell 1, (gB MA261.out.2.2.2.2.2.2.2.2.2.2.1).cell 2, (gB MA261.out.2.2.2.2.2.2.2.2.2.2.1).cell 3, (gB MA261.out.2.2.2.2.2.2.2.2.2.2.1).cell 4⟩
      clear hK K
      refine wpAnyH_done (by kernel_rfl) ?_ _
      clear hHeld
      go_wp2_with fail
      go_meet
      case rel => exact ⟨hb9, ha1, hk1, ha2, hk2, rfl, ⟨(gO MA261.out.1), (gO MA261.out.2.1), (gB MA261.out.2.2.1), ⟨(gL MA261.out.2.2.2.1), rfl⟩, (gB MA261.out.2.2.2.2.1), (gB MA261.out.2.2.2.2.2.1), (gB MA261.out.2.2.2.2.2.2.1), (gO MA261.out.2.2.2.2.2.2.2.1), (gO MA261.out.2.2.2.2.2.2.2.2.1), (gB MA261.out.2.2.2.2.2.2.2.2.2.1), (gB MA261.out.2.2.2.2.2.2.2.2.2.2.1), (gB MA261.out.2.2.2.2.2.2.2.2.2.2.2.1), ⟨(gL MA261.out.2.2.2.2.2.2.2.2.2.2.2.2.1), rfl⟩, trivial⟩⟩
    ·
     have MA263 := stx (k := kBx (wh224.heap.size) 61 #[.int .i64 0, .int .i64 0, .int .i64 0, .int .i64 0, .int .i64 0, .int .i64 0, .int .i64 0, .slice none 0 0, .slice none 0 0]) (sta MA225 (.cells #[.int .i64 0, .int .i64 0, .int .i64 0, .int .i64 0, .int .i64 0, .int .i64 0, .int .i64 0, .slice none 0 0, .slice none 0 0] 61)) (Box.new _ _ _)
     have HL264 : Hid (w.heap.size ≤ wh224.heap.size) := (gL MA225.out.2.2.2.2.2.2.2.2.2.2.2.1).size
     have HL265 : Hid (wr.heap.size ≤ wh224.heap.size) := (gL MA225.out.2.2.1).size
     have HE266 : Hid (tb ≠ wh224.heap.size) := by have h9 := (gB MA225.out.2.2.2.2.2.2.2.2.1).lt; show _ ≠ _; omega
     have HE267 : Hid (gb ≠ wh224.heap.size) := by have h9 := (gB MA225.out.2.2.2.1).lt; show _ ≠ _; omega
     clear MA225
     go_simp
     refine hK.out _ _ ?_ (fun hHeld => ?_)
     ·
      exact ⟨(gB MA263.out.2.2.2.2.2.2.2.2.2.2.2.1).cell 0, (gB MA263.out.2.2.2.2.2.2.2.2.2.2.2.1).cell 1, (gB MA263.out.2.2.2.2.2.2.2.2.2.2.1).cell 0, (gB MA263.out.2.2.2.2.2.2.2.2.2.2.1).cell 1, (gB MA263.out.2.2.2.2.2.2.2.2.2.2.1).cell 2, (gB MA263.out.2.2.2.2.2.2.2.2.2.2.1).cell 3, (gB MA263.out.2.2.2.2.2.2.2.2.2.2.1).cell 4⟩
     clear hK K
     clear hHeld
     generalize wh224.alloc (.cells #[.int .i64 0, .int .i64 0, .int .i64 0, .int .i64 0, .int .i64 0, .int .i64 0, .int .i64 0, .slice none 0 0, .slice none 0 0] 61) = V262 at MA263 ⊢
     generalize wh224.heap.size = hb9 at MA263 HL264 HL265 HE266 HE267 ⊢
     refine rl 3 fun K hK => ?_
     go_simp
     refine (toIntS10 la nl lc L _ hl1 (H.out.2.2.1.mono nr (gL MA263.out.2.2.2.2.2.2.2.2.2.2.2.2.1) nr)).mono ?_
     rintro e wh268 ⟨la1, rfl, hI3, hb⟩
     have MA269 := stx (k := kIs la1 nl L) (stm MA263 hb) ((hI3.keep (Nat.zero_le _) nr fun _ _ _ => rfl))
     clear hb hI3 MA263
     go_wp2_with fail
     refine hK.out _ _ ?_ (fun hHeld => ?_)
     ·
      exact ⟨(gB MA269.out.2.2.2.2.2.2.2.2.2.2.2.2.1).cell 0, (gB MA269.out.2.2.2.2.2.2.2.2.2.2.2.2.1).cell 1, (gB MA269.out.2.2.2.2.2.2.2.2.2.2.2.1).cell 0, (gB MA269.out.2.2.2.2.2.2.2.2.2.2.2.1).cell 1, (gB MA269.out.2.2.2.2.2.2.2.2.2.2.2.1).cell 2, (gB MA269.out.2.2.2.2.2.2.2.2.2.2.2.1).cell 3, (gB MA269.out.2.2.2.2.2.2.2.2.2.2.2.1).cell 4⟩
     clear hK K
     refine rl 5 fun K hK => ?_
     go_simp
     refine (toTrain9x fp fa fw lg nb B ba bk _ hnb1 (H.out.2.2.2.1.mono nr (gL MA269.out.2.2.2.2.2.2.2.2.2.2.2.2.2.1) nr)).mono ?_
     rintro e wh270 ⟨bn, rfl, ho, hb⟩
     have MA271 := stx (k := kOw w.heap.size 74 2 (.slice (some ⟨bn, 0, none⟩) nb nb) nb (intF B)) (stm MA269 hb) (ho.keep (gL MA269.out.2.2.2.2.2.2.2.2.2.2.2.2.2.1).size (fun _ _ => rfl))
     clear hb ho MA269
     go_wp2_with fail
     refine hK.out _ _ ?_ (fun hHeld => ?_)
     ·
      exact ⟨(gB MA271.out.2.2.2.2.2.2.2.2.2.2.2.2.2.1).cell 0, (gB MA271.out.2.2.2.2.2.2.2.2.2.2.2.2.2.1).cell 1, (gB MA271.out.2.2.2.2.2.2.2.2.2.2.2.2.1).cell 0, (gB MA271.out.2.2.2.2.2.2.2.2.2.2.2.2.1).cell 1, (gB MA271.out.2.2.2.2.2.2.2.2.2.2.2.2.1).cell 2, (gB MA271.out.2.2.2.2.2.2.2.2.2.2.2.2.1).cell 3, (gB MA271.out.2.2.2.2.2.2.2.2.2.2.2.2.1).cell 4⟩
     clear hK K
     refine rl 7 fun K hK => ?_
     go_simp
     refine (implMove25 pa1 v.n ja1 v.m la1 nl nl L fp fa fw lg nb B bn 0 nb T _ hn1 hm1 hl1 hnb1 nr hn nr hm (gP MA271.out.2.2.2.2.1) (gJ MA271.out.2.2.2.1) H.out.2.2.2.2.1 HNE2.out (gI MA271.out.2.1) (Lst.own (gO MA271.out.1)) nr).mono ?_
     rintro e wh272 ⟨x2, ha1, hk1, ha2, hk2, hA, he, ho1, ho2, hb⟩
     rw [hA.det HX.out] at he ho1 ho2
     subst he
     have MA273 : Hid (Sts [kOw w.heap.size 112 3 (.slice ha2 x.no hk2) x.no (intF x.O), kOw w.heap.size 74 2 (.slice ha1 x.n hk1) x.n (intF x.F), kBx (hb9) 61 #[.int .i64 0, .int .i64 0, .int .i64 0, .int .i64 0, .int .i64 0, .int .i64 0, .int .i64 0, .slice none 0 0, .slice none 0 0], kBn wr.heap.size wr, kBx (gb) 61 #[.int .i64 x.c, .int .i64 x.far, .int .i64 x.j, .int .i64 x.p, .int .i64 x.a, .int .i64 x.w, .int .i64 x.l, .slice ga1 x.n gk1, .slice ga2 x.no gk2], kBx (yb) 33 #[.int .i64 fp, .int .i64 fa, .int .i64 fw, .int .i64 lg, .slice (some ⟨cq, 0, none⟩) nb nb], kBx (xb) 40 #[.slice (some ⟨pb, 0, none⟩) v.n v.n, .slice (some ⟨jb, 0, none⟩) v.m v.m], kOw w.heap.size 112 3 (.slice wa2 x.no wk2) x.no (intF x.O), kOw w.heap.size 74 2 (.slice wa1 x.n wk1) x.n (intF x.F), kBx (tb) 61 #[.int .i64 x.c, .int .i64 x.far, .int .i64 x.j, .int .i64 x.p, .int .i64 x.a, .int .i64 x.w, .int .i64 x.l, .slice wa1 x.n wk1, .slice wa2 x.no wk2], kBx (w.heap.size + 1) 53 #[.int .i64 fp, .int .i64 fa, .int .i64 fw, .int .i64 lg, .slice ba nb bk], kBx (w.heap.size) 25 #[.slice pa v.n pc, .slice ja v.m jc], kBn w.heap.size w] wh272) := ⟨ho2.keep (gL MA271.out.2.2.2.2.2.2.2.2.2.2.2.2.2.2.1).size (fun _ _ => rfl), ho1.keep (gL MA271.out.2.2.2.2.2.2.2.2.2.2.2.2.2.2.1).size (fun _ _ => rfl), (gB MA271.out.2.2.1).mono hb nr, ⟨(gL MA271.out.2.2.2.2.2.1).trans (hb.mono (gL MA271.out.2.2.2.2.2.1).size), rfl⟩, (gB MA271.out.2.2.2.2.2.2.1).mono hb nr, (gB MA271.out.2.2.2.2.2.2.2.1).mono hb nr, (gB MA271.out.2.2.2.2.2.2.2.2.1).mono hb nr, (gO MA271.out.2.2.2.2.2.2.2.2.2.1).mono nr hb nr, (gO MA271.out.2.2.2.2.2.2.2.2.2.2.1).mono nr hb nr, (gB MA271.out.2.2.2.2.2.2.2.2.2.2.2.1).mono hb nr, (gB MA271.out.2.2.2.2.2.2.2.2.2.2.2.2.1).mono hb nr, (gB MA271.out.2.2.2.2.2.2.2.2.2.2.2.2.2.1).mono hb nr, ⟨(gL MA271.out.2.2.2.2.2.2.2.2.2.2.2.2.2.2.1).trans (hb.mono (gL MA271.out.2.2.2.2.2.2.2.2.2.2.2.2.2.2.1).size), rfl⟩, trivial⟩
     clear hb ho1 ho2 hA MA271
     go_wp2_with fail
     refine hK.out _ _ ?_ (fun hHeld => ?_)
     ·
      exact ⟨(gB MA273.out.2.2.2.2.2.2.2.2.2.2.2.1).cell 0, (gB MA273.out.2.2.2.2.2.2.2.2.2.2.2.1).cell 1, (gB MA273.out.2.2.2.2.2.2.2.2.2.2.1).cell 0, (gB MA273.out.2.2.2.2.2.2.2.2.2.2.1).cell 1, (gB MA273.out.2.2.2.2.2.2.2.2.2.2.1).cell 2, (gB MA273.out.2.2.2.2.2.2.2.2.2.2.1).cell 3, (gB MA273.out.2.2.2.2.2.2.2.2.2.2.1).cell 4⟩
     clear hK K
     refine rl 9 fun K hK => ?_
     refine step_row rfl 61 _ _ rfl hb9 #[.int .i64 x.c, .int .i64 x.far, .int .i64 x.j, .int .i64 x.p, .int .i64 x.a, .int .i64 x.w, .int .i64 x.l, .slice ha1 x.n hk1, .slice ha2 x.no hk2] rfl rfl 61 _ (gB MA273.out.2.2.1) (by kernel_rfl) rfl (by kernel_rfl) ?_
     intro W274 hB9 hF9
     have MA275 : Hid (Sts [kOw w.heap.size 112 3 (.slice ha2 x.no hk2) x.no (intF x.O), kOw w.heap.size 74 2 (.slice ha1 x.n hk1) x.n (intF x.F), kBx (hb9) 61 #[.int .i64 x.c, .int .i64 x.far, .int .i64 x.j, .int .i64 x.p, .int .i64 x.a, .int .i64 x.w, .int .i64 x.l, .slice ha1 x.n hk1, .slice ha2 x.no hk2], kBn wr.heap.size wr, kBx (gb) 61 #[.int .i64 x.c, .int .i64 x.far, .int .i64 x.j, .int .i64 x.p, .int .i64 x.a, .int .i64 x.w, .int .i64 x.l, .slice ga1 x.n gk1, .slice ga2 x.no gk2], kBx (yb) 33 #[.int .i64 fp, .int .i64 fa, .int .i64 fw, .int .i64 lg, .slice (some ⟨cq, 0, none⟩) nb nb], kBx (xb) 40 #[.slice (some ⟨pb, 0, none⟩) v.n v.n, .slice (some ⟨jb, 0, none⟩) v.m v.m], kOw w.heap.size 112 3 (.slice wa2 x.no wk2) x.no (intF x.O), kOw w.heap.size 74 2 (.slice wa1 x.n wk1) x.n (intF x.F), kBx (tb) 61 #[.int .i64 x.c, .int .i64 x.far, .int .i64 x.j, .int .i64 x.p, .int .i64 x.a, .int .i64 x.w, .int .i64 x.l, .slice wa1 x.n wk1, .slice wa2 x.no wk2], kBx (w.heap.size + 1) 53 #[.int .i64 fp, .int .i64 fa, .int .i64 fw, .int .i64 lg, .slice ba nb bk], kBx (w.heap.size) 25 #[.slice pa v.n pc, .slice ja v.m jc], kBn w.heap.size w] W274) := ⟨owf (gO MA273.out.1) (gB MA273.out.2.2.1) hF9, owf (gO MA273.out.2.1) (gB MA273.out.2.2.1) hF9, hB9, ⟨blf MA273.out.2.2.2.1 HL265.out hF9, rfl⟩, (gB MA273.out.2.2.2.2.1).fr hF9 HE267.out, bxf (gB MA273.out.2.2.2.2.2.1) (gB MA273.out.2.2.1) hF9, bxf (gB MA273.out.2.2.2.2.2.2.1) (gB MA273.out.2.2.1) hF9, owf (gO MA273.out.2.2.2.2.2.2.2.1) (gB MA273.out.2.2.1) hF9, owf (gO MA273.out.2.2.2.2.2.2.2.2.1) (gB MA273.out.2.2.1) hF9, (gB MA273.out.2.2.2.2.2.2.2.2.2.1).fr hF9 HE266.out, bxf (gB MA273.out.2.2.2.2.2.2.2.2.2.2.1) (gB MA273.out.2.2.1) hF9, bxf (gB MA273.out.2.2.2.2.2.2.2.2.2.2.2.1) (gB MA273.out.2.2.1) hF9, ⟨blf MA273.out.2.2.2.2.2.2.2.2.2.2.2.2.1 HL264.out hF9, rfl⟩, trivial⟩
     clear hB9 hF9 MA273
     simp only [Act.put]
     refine hK.out _ _ ?_ (fun hHeld => ?_)
     ·
      exact ⟨(gB MA275.out.2.2.2.2.2.2.2.2.2.2.2.1).cell 0, (gB MA275.out.2.2.2.2.2.2.2.2.2.2.2.1).cell 1, (gB MA275.out.2.2.2.2.2.2.2.2.2.2.1).cell 0, (gB MA275.out.2.2.2.2.2.2.2.2.2.2.1).cell 1, (gB MA275.out.2.2.2.2.2.2.2.2.2.2.1).cell 2, (gB MA275.out.2.2.2.2.2.2.2.2.2.2.1).cell 3, (gB MA275.out.2.2.2.2.2.2.2.2.2.2.1).cell 4⟩
     clear hK K
     refine wpAnyH_done (by kernel_rfl) ?_ _
     clear hHeld
     go_wp2_with fail
     go_meet
     case rel => exact ⟨hb9, ha1, hk1, ha2, hk2, rfl, ⟨(gO MA275.out.1), (gO MA275.out.2.1), (gB MA275.out.2.2.1), ⟨(gL MA275.out.2.2.2.1), rfl⟩, (gB MA275.out.2.2.2.2.1), (gB MA275.out.2.2.2.2.2.1), (gB MA275.out.2.2.2.2.2.2.1), (gO MA275.out.2.2.2.2.2.2.2.1), (gO MA275.out.2.2.2.2.2.2.2.2.1), (gB MA275.out.2.2.2.2.2.2.2.2.2.1), (gB MA275.out.2.2.2.2.2.2.2.2.2.2.1), (gB MA275.out.2.2.2.2.2.2.2.2.2.2.2.1), ⟨(gL MA275.out.2.2.2.2.2.2.2.2.2.2.2.2.1), rfl⟩, trivial⟩⟩
   ·
    have MA277 := stx (k := kBx (VD6.heap.size) 61 #[.int .i64 0, .int .i64 0, .int .i64 0, .int .i64 0, .int .i64 0, .int .i64 0, .int .i64 0, .slice none 0 0, .slice none 0 0]) (sta MD223 (.cells #[.int .i64 0, .int .i64 0, .int .i64 0, .int .i64 0, .int .i64 0, .int .i64 0, .int .i64 0, .slice none 0 0, .slice none 0 0] 61)) (Box.new _ _ _)
    have HL278 : Hid (w.heap.size ≤ VD6.heap.size) := (gL MD223.out.2.2.2.2.2.2.2.2.2.1).size
    have HL279 : Hid (wr.heap.size ≤ VD6.heap.size) := (gL MD223.out.1).size
    have HE280 : Hid (tb ≠ VD6.heap.size) := by have h9 := (gB MD223.out.2.2.2.2.2.2.1).lt; show _ ≠ _; omega
    have HE281 : Hid (gb ≠ VD6.heap.size) := by have h9 := (gB MD223.out.2.1).lt; show _ ≠ _; omega
    clear MD223
    go_simp
    refine hK.out _ _ ?_ (fun hHeld => ?_)
    ·
     exact ⟨(gB MA277.out.2.2.2.2.2.2.2.2.2.1).cell 0, (gB MA277.out.2.2.2.2.2.2.2.2.2.1).cell 1, (gB MA277.out.2.2.2.2.2.2.2.2.1).cell 0, (gB MA277.out.2.2.2.2.2.2.2.2.1).cell 1, (gB MA277.out.2.2.2.2.2.2.2.2.1).cell 2, (gB MA277.out.2.2.2.2.2.2.2.2.1).cell 3, (gB MA277.out.2.2.2.2.2.2.2.2.1).cell 4⟩
    clear hK K
    clear hHeld
    generalize VD6.alloc (.cells #[.int .i64 0, .int .i64 0, .int .i64 0, .int .i64 0, .int .i64 0, .int .i64 0, .int .i64 0, .slice none 0 0, .slice none 0 0] 61) = V276 at MA277 ⊢
    generalize VD6.heap.size = hb9 at MA277 HL278 HL279 HE280 HE281 ⊢
    refine rl 1 fun K hK => ?_
    go_simp
    refine (toNetR pa pc ja jc _ hn1 hm1 (H.out.1.mono nr (gL MA277.out.2.2.2.2.2.2.2.2.2.2.1) nr) (H.out.2.1.mono nr (gL MA277.out.2.2.2.2.2.2.2.2.2.2.1) nr) HNE.out).mono ?_
    rintro e wh282 ⟨pa1, ja1, rfl, hP3, hJ3, hb⟩
    have MA283 := stx (k := kJs ja1 v.m v.J) (stx (k := kPs pa1 v.n v.P) (stm MA277 hb) (hP3)) (hJ3)
    clear hb hP3 hJ3 MA277
    go_wp2_with fail
    refine hK.out _ _ ?_ (fun hHeld => ?_)
    ·
     exact ⟨(gB MA283.out.2.2.2.2.2.2.2.2.2.2.2.1).cell 0, (gB MA283.out.2.2.2.2.2.2.2.2.2.2.2.1).cell 1, (gB MA283.out.2.2.2.2.2.2.2.2.2.2.1).cell 0, (gB MA283.out.2.2.2.2.2.2.2.2.2.2.1).cell 1, (gB MA283.out.2.2.2.2.2.2.2.2.2.2.1).cell 2, (gB MA283.out.2.2.2.2.2.2.2.2.2.2.1).cell 3, (gB MA283.out.2.2.2.2.2.2.2.2.2.2.1).cell 4⟩
    clear hK K
    refine rl 3 fun K hK => ?_
    go_simp
    refine (toIntS10 la nl lc L _ hl1 (H.out.2.2.1.mono nr (gL MA283.out.2.2.2.2.2.2.2.2.2.2.2.2.1) nr)).mono ?_
    rintro e wh284 ⟨la1, rfl, hI3, hb⟩
    have MA285 := stx (k := kIs la1 nl L) (stm MA283 hb) ((hI3.keep (Nat.zero_le _) nr fun _ _ _ => rfl))
    clear hb hI3 MA283
    go_wp2_with fail
    refine hK.out _ _ ?_ (fun hHeld => ?_)
    ·
     exact ⟨(gB MA285.out.2.2.2.2.2.2.2.2.2.2.2.2.1).cell 0, (gB MA285.out.2.2.2.2.2.2.2.2.2.2.2.2.1).cell 1, (gB MA285.out.2.2.2.2.2.2.2.2.2.2.2.1).cell 0, (gB MA285.out.2.2.2.2.2.2.2.2.2.2.2.1).cell 1, (gB MA285.out.2.2.2.2.2.2.2.2.2.2.2.1).cell 2, (gB MA285.out.2.2.2.2.2.2.2.2.2.2.2.1).cell 3, (gB MA285.out.2.2.2.2.2.2.2.2.2.2.2.1).cell 4⟩
    clear hK K
    refine rl 5 fun K hK => ?_
    go_simp
    refine (toTrain9x fp fa fw lg nb B ba bk _ hnb1 (H.out.2.2.2.1.mono nr (gL MA285.out.2.2.2.2.2.2.2.2.2.2.2.2.2.1) nr)).mono ?_
    rintro e wh286 ⟨bn, rfl, ho, hb⟩
    have MA287 := stx (k := kOw w.heap.size 74 2 (.slice (some ⟨bn, 0, none⟩) nb nb) nb (intF B)) (stm MA285 hb) (ho.keep (gL MA285.out.2.2.2.2.2.2.2.2.2.2.2.2.2.1).size (fun _ _ => rfl))
    clear hb ho MA285
    go_wp2_with fail
    refine hK.out _ _ ?_ (fun hHeld => ?_)
    ·
     exact ⟨(gB MA287.out.2.2.2.2.2.2.2.2.2.2.2.2.2.1).cell 0, (gB MA287.out.2.2.2.2.2.2.2.2.2.2.2.2.2.1).cell 1, (gB MA287.out.2.2.2.2.2.2.2.2.2.2.2.2.1).cell 0, (gB MA287.out.2.2.2.2.2.2.2.2.2.2.2.2.1).cell 1, (gB MA287.out.2.2.2.2.2.2.2.2.2.2.2.2.1).cell 2, (gB MA287.out.2.2.2.2.2.2.2.2.2.2.2.2.1).cell 3, (gB MA287.out.2.2.2.2.2.2.2.2.2.2.2.2.1).cell 4⟩
    clear hK K
    refine rl 7 fun K hK => ?_
    go_simp
    refine (implMove25 pa1 v.n ja1 v.m la1 nl nl L fp fa fw lg nb B bn 0 nb T _ hn1 hm1 hl1 hnb1 nr hn nr hm (gP MA287.out.2.2.2.1) (gJ MA287.out.2.2.1) H.out.2.2.2.2.1 HNE2.out (gI MA287.out.2.1) (Lst.own (gO MA287.out.1)) nr).mono ?_
    rintro e wh288 ⟨x2, ha1, hk1, ha2, hk2, hA, he, ho1, ho2, hb⟩
    rw [hA.det HX.out] at he ho1 ho2
    subst he
    have MA289 : Hid (Sts [kOw w.heap.size 112 3 (.slice ha2 x.no hk2) x.no (intF x.O), kOw w.heap.size 74 2 (.slice ha1 x.n hk1) x.n (intF x.F), kBx (hb9) 61 #[.int .i64 0, .int .i64 0, .int .i64 0, .int .i64 0, .int .i64 0, .int .i64 0, .int .i64 0, .slice none 0 0, .slice none 0 0], kBn wr.heap.size wr, kBx (gb) 61 #[.int .i64 x.c, .int .i64 x.far, .int .i64 x.j, .int .i64 x.p, .int .i64 x.a, .int .i64 x.w, .int .i64 x.l, .slice ga1 x.n gk1, .slice ga2 x.no gk2], kBx (yb) 33 #[.int .i64 fp, .int .i64 fa, .int .i64 fw, .int .i64 lg, .slice (some ⟨cq, 0, none⟩) nb nb], kBx (xb) 40 #[.slice (some ⟨pb, 0, none⟩) v.n v.n, .slice (some ⟨jb, 0, none⟩) v.m v.m], kOw w.heap.size 112 3 (.slice wa2 x.no wk2) x.no (intF x.O), kOw w.heap.size 74 2 (.slice wa1 x.n wk1) x.n (intF x.F), kBx (tb) 61 #[.int .i64 x.c, .int .i64 x.far, .int .i64 x.j, .int .i64 x.p, .int .i64 x.a, .int .i64 x.w, .int .i64 x.l, .slice wa1 x.n wk1, .slice wa2 x.no wk2], kBx (w.heap.size + 1) 53 #[.int .i64 fp, .int .i64 fa, .int .i64 fw, .int .i64 lg, .slice ba nb bk], kBx (w.heap.size) 25 #[.slice pa v.n pc, .slice ja v.m jc], kBn w.heap.size w] wh288) := ⟨ho2.keep (gL MA287.out.2.2.2.2.2.2.2.2.2.2.2.2.2.2.1).size (fun _ _ => rfl), ho1.keep (gL MA287.out.2.2.2.2.2.2.2.2.2.2.2.2.2.2.1).size (fun _ _ => rfl), (gB MA287.out.2.2.2.2.1).mono hb nr, ⟨(gL MA287.out.2.2.2.2.2.1).trans (hb.mono (gL MA287.out.2.2.2.2.2.1).size), rfl⟩, (gB MA287.out.2.2.2.2.2.2.1).mono hb nr, (gB MA287.out.2.2.2.2.2.2.2.1).mono hb nr, (gB MA287.out.2.2.2.2.2.2.2.2.1).mono hb nr, (gO MA287.out.2.2.2.2.2.2.2.2.2.1).mono nr hb nr, (gO MA287.out.2.2.2.2.2.2.2.2.2.2.1).mono nr hb nr, (gB MA287.out.2.2.2.2.2.2.2.2.2.2.2.1).mono hb nr, (gB MA287.out.2.2.2.2.2.2.2.2.2.2.2.2.1).mono hb nr, (gB MA287.out.2.2.2.2.2.2.2.2.2.2.2.2.2.1).mono hb nr, ⟨(gL MA287.out.2.2.2.2.2.2.2.2.2.2.2.2.2.2.1).trans (hb.mono (gL MA287.out.2.2.2.2.2.2.2.2.2.2.2.2.2.2.1).size), rfl⟩, trivial⟩
    clear hb ho1 ho2 hA MA287
    go_wp2_with fail
    refine hK.out _ _ ?_ (fun hHeld => ?_)
    ·
     exact ⟨(gB MA289.out.2.2.2.2.2.2.2.2.2.2.2.1).cell 0, (gB MA289.out.2.2.2.2.2.2.2.2.2.2.2.1).cell 1, (gB MA289.out.2.2.2.2.2.2.2.2.2.2.1).cell 0, (gB MA289.out.2.2.2.2.2.2.2.2.2.2.1).cell 1, (gB MA289.out.2.2.2.2.2.2.2.2.2.2.1).cell 2, (gB MA289.out.2.2.2.2.2.2.2.2.2.2.1).cell 3, (gB MA289.out.2.2.2.2.2.2.2.2.2.2.1).cell 4⟩
    clear hK K
    refine rl 9 fun K hK => ?_
    refine step_row rfl 61 _ _ rfl hb9 #[.int .i64 x.c, .int .i64 x.far, .int .i64 x.j, .int .i64 x.p, .int .i64 x.a, .int .i64 x.w, .int .i64 x.l, .slice ha1 x.n hk1, .slice ha2 x.no hk2] rfl rfl 61 _ (gB MA289.out.2.2.1) (by kernel_rfl) rfl (by kernel_rfl) ?_
    intro W290 hB9 hF9
    have MA291 : Hid (Sts [kOw w.heap.size 112 3 (.slice ha2 x.no hk2) x.no (intF x.O), kOw w.heap.size 74 2 (.slice ha1 x.n hk1) x.n (intF x.F), kBx (hb9) 61 #[.int .i64 x.c, .int .i64 x.far, .int .i64 x.j, .int .i64 x.p, .int .i64 x.a, .int .i64 x.w, .int .i64 x.l, .slice ha1 x.n hk1, .slice ha2 x.no hk2], kBn wr.heap.size wr, kBx (gb) 61 #[.int .i64 x.c, .int .i64 x.far, .int .i64 x.j, .int .i64 x.p, .int .i64 x.a, .int .i64 x.w, .int .i64 x.l, .slice ga1 x.n gk1, .slice ga2 x.no gk2], kBx (yb) 33 #[.int .i64 fp, .int .i64 fa, .int .i64 fw, .int .i64 lg, .slice (some ⟨cq, 0, none⟩) nb nb], kBx (xb) 40 #[.slice (some ⟨pb, 0, none⟩) v.n v.n, .slice (some ⟨jb, 0, none⟩) v.m v.m], kOw w.heap.size 112 3 (.slice wa2 x.no wk2) x.no (intF x.O), kOw w.heap.size 74 2 (.slice wa1 x.n wk1) x.n (intF x.F), kBx (tb) 61 #[.int .i64 x.c, .int .i64 x.far, .int .i64 x.j, .int .i64 x.p, .int .i64 x.a, .int .i64 x.w, .int .i64 x.l, .slice wa1 x.n wk1, .slice wa2 x.no wk2], kBx (w.heap.size + 1) 53 #[.int .i64 fp, .int .i64 fa, .int .i64 fw, .int .i64 lg, .slice ba nb bk], kBx (w.heap.size) 25 #[.slice pa v.n pc, .slice ja v.m jc], kBn w.heap.size w] W290) := ⟨owf (gO MA289.out.1) (gB MA289.out.2.2.1) hF9, owf (gO MA289.out.2.1) (gB MA289.out.2.2.1) hF9, hB9, ⟨blf MA289.out.2.2.2.1 HL279.out hF9, rfl⟩, (gB MA289.out.2.2.2.2.1).fr hF9 HE281.out, bxf (gB MA289.out.2.2.2.2.2.1) (gB MA289.out.2.2.1) hF9, bxf (gB MA289.out.2.2.2.2.2.2.1) (gB MA289.out.2.2.1) hF9, owf (gO MA289.out.2.2.2.2.2.2.2.1) (gB MA289.out.2.2.1) hF9, owf (gO MA289.out.2.2.2.2.2.2.2.2.1) (gB MA289.out.2.2.1) hF9, (gB MA289.out.2.2.2.2.2.2.2.2.2.1).fr hF9 HE280.out, bxf (gB MA289.out.2.2.2.2.2.2.2.2.2.2.1) (gB MA289.out.2.2.1) hF9, bxf (gB MA289.out.2.2.2.2.2.2.2.2.2.2.2.1) (gB MA289.out.2.2.1) hF9, ⟨blf MA289.out.2.2.2.2.2.2.2.2.2.2.2.2.1 HL278.out hF9, rfl⟩, trivial⟩
    clear hB9 hF9 MA289
    simp only [Act.put]
    refine hK.out _ _ ?_ (fun hHeld => ?_)
    ·
     exact ⟨(gB MA291.out.2.2.2.2.2.2.2.2.2.2.2.1).cell 0, (gB MA291.out.2.2.2.2.2.2.2.2.2.2.2.1).cell 1, (gB MA291.out.2.2.2.2.2.2.2.2.2.2.1).cell 0, (gB MA291.out.2.2.2.2.2.2.2.2.2.2.1).cell 1, (gB MA291.out.2.2.2.2.2.2.2.2.2.2.1).cell 2, (gB MA291.out.2.2.2.2.2.2.2.2.2.2.1).cell 3, (gB MA291.out.2.2.2.2.2.2.2.2.2.2.1).cell 4⟩
    clear hK K
    refine wpAnyH_done (by kernel_rfl) ?_ _
    clear hHeld
    go_wp2_with fail
    go_meet
    case rel => exact ⟨hb9, ha1, hk1, ha2, hk2, rfl, ⟨(gO MA291.out.1), (gO MA291.out.2.1), (gB MA291.out.2.2.1), ⟨(gL MA291.out.2.2.2.1), rfl⟩, (gB MA291.out.2.2.2.2.1), (gB MA291.out.2.2.2.2.2.1), (gB MA291.out.2.2.2.2.2.2.1), (gO MA291.out.2.2.2.2.2.2.2.1), (gO MA291.out.2.2.2.2.2.2.2.2.1), (gB MA291.out.2.2.2.2.2.2.2.2.2.1), (gB MA291.out.2.2.2.2.2.2.2.2.2.2.1), (gB MA291.out.2.2.2.2.2.2.2.2.2.2.2.1), ⟨(gL MA291.out.2.2.2.2.2.2.2.2.2.2.2.2.1), rfl⟩, trivial⟩⟩
  case rest =>
   obtain ⟨hb9, ha1, hk1, ha2, hk2, rfl, Mt⟩ := hcut
   clear Ms
   generalize wc = wt at Mt ⊢
   have HMT : Hid ((0 < x.n → gg < wt.heap.size) ∧ (∀ i, i < x.n → ∀ j, j < 2 → wt.cell? ⟨gg, 0 + i * 2 + j, none⟩ = some (.int .i64 ((1 + i * 2 + j : Nat) : Int))) ∧ (0 < x.no → gh < wt.heap.size) ∧ (∀ i, i < x.no → ∀ j, j < 3 → wt.cell? ⟨gh, 0 + i * 3 + j, none⟩ = some (.int .i64 ((1 + x.n * 2 + i * 3 + j : Nat) : Int)))) := ⟨fun h => Nat.lt_of_lt_of_le (HMR.out.1 h) (gL Mt.out.2.2.2.1).size, fun i hi j hj => cell_keep (gL Mt.out.2.2.2.1) (HMR.out.1 (by omega)) (HMR.out.2.1 i hi j hj), fun h => Nat.lt_of_lt_of_le (HMR.out.2.2.1 h) (gL Mt.out.2.2.2.1).size, fun i hi j hj => cell_keep (gL Mt.out.2.2.2.1) (HMR.out.2.2.1 (by omega)) (HMR.out.2.2.2 i hi j hj)⟩
   have m0 := (gB Mt.out.2.2.2.2.2.2.2.2.2.1).cel 0
   have m1 := (gB Mt.out.2.2.2.2.2.2.2.2.2.1).cel 1
   have m2 := (gB Mt.out.2.2.2.2.2.2.2.2.2.1).cel 2
   have m3 := (gB Mt.out.2.2.2.2.2.2.2.2.2.1).cel 3
   have m4 := (gB Mt.out.2.2.2.2.2.2.2.2.2.1).cel 4
   have m5 := (gB Mt.out.2.2.2.2.2.2.2.2.2.1).cel 5
   have m6 := (gB Mt.out.2.2.2.2.2.2.2.2.2.1).cel 6
   have m7 := (gB Mt.out.2.2.2.2.2.2.2.2.2.1).cel 7
   have m8 := (gB Mt.out.2.2.2.2.2.2.2.2.2.1).cel 8
   have t0 := (gB Mt.out.2.2.1).cel 0
   have t1 := (gB Mt.out.2.2.1).cel 1
   have t2 := (gB Mt.out.2.2.1).cel 2
   have t3 := (gB Mt.out.2.2.1).cel 3
   have t4 := (gB Mt.out.2.2.1).cel 4
   have t5 := (gB Mt.out.2.2.1).cel 5
   have t6 := (gB Mt.out.2.2.1).cel 6
   have t7 := (gB Mt.out.2.2.1).cel 7
   have t8 := (gB Mt.out.2.2.1).cel 8
   go_wp2_with fail
   clear m0 m1 m2 m3 m4 m5 m6 m7 m8 t0 t1 t2 t3 t4 t5 t6 t7 t8
   refine (eqMoved26 x ha1 wa1 ha2 wa2 hk1 wk1 hk2 wk2 wt hxn hxo ((gO Mt.out.2.1).vs.le (Nat.zero_le _)) ((gO Mt.out.2.2.2.2.2.2.2.2.1).vs.le (Nat.zero_le _)) ((gO Mt.out.1).vs.le (Nat.zero_le _)) ((gO Mt.out.2.2.2.2.2.2.2.1).vs.le (Nat.zero_le _))).mono ?_
   rintro e wu ⟨rfl, hb⟩
   have HMU : Hid ((0 < x.n → gg < wu.heap.size) ∧ (∀ i, i < x.n → ∀ j, j < 2 → wu.cell? ⟨gg, 0 + i * 2 + j, none⟩ = some (.int .i64 ((1 + i * 2 + j : Nat) : Int))) ∧ (0 < x.no → gh < wu.heap.size) ∧ (∀ i, i < x.no → ∀ j, j < 3 → wu.cell? ⟨gh, 0 + i * 3 + j, none⟩ = some (.int .i64 ((1 + x.n * 2 + i * 3 + j : Nat) : Int)))) := ⟨fun h => Nat.lt_of_lt_of_le (HMT.out.1 h) hb.size, fun i hi j hj => cell_keep hb (HMT.out.1 (by omega)) (HMT.out.2.1 i hi j hj), fun h => Nat.lt_of_lt_of_le (HMT.out.2.2.1 h) hb.size, fun i hi j hj => cell_keep hb (HMT.out.2.2.1 (by omega)) (HMT.out.2.2.2 i hi j hj)⟩
   have Mu := stm Mt hb
   clear hb Mt
   have m0 := (gB Mu.out.2.2.2.2.1).cel 0
   have m1 := (gB Mu.out.2.2.2.2.1).cel 1
   have m2 := (gB Mu.out.2.2.2.2.1).cel 2
   have m3 := (gB Mu.out.2.2.2.2.1).cel 3
   have m4 := (gB Mu.out.2.2.2.2.1).cel 4
   have m5 := (gB Mu.out.2.2.2.2.1).cel 5
   have m6 := (gB Mu.out.2.2.2.2.1).cel 6
   have m7 := (gB Mu.out.2.2.2.2.1).cel 7
   have m8 := (gB Mu.out.2.2.2.2.1).cel 8
   go_wp2_with fail
   clear m0 m1 m2 m3 m4 m5 m6 m7 m8
   refine (heldMoved29 x ga1 ga2 gk1 gk2 1 gg gh wu hxn hxo (by omega) HGG.out.1.1 HMU.out.1 HMU.out.2.1 HGG.out.2.1 HMU.out.2.2.1 HMU.out.2.2.2).mono ?_
   rintro e wv ⟨he, hb⟩
   rw [HMM.out] at he
   subst he
   have Mv := stm Mu hb
   clear hb Mu
   go_wp2_with fail
   go_ret
   exact ⟨rfl, (gL Mv.out.2.2.2.2.2.2.2.2.2.2.2.2.1)⟩
end Go.Proofs.YtjhmaofjmalglaaGreat
