import Derived.Test.YtkeilejbelblcaaGreatDoorJbt
namespace Go.Proofs.YtkeilejbelblcaaGreatDoor
open Go.RowKit Go.Lib
def fq (f:Fm) (q:Nat):Fm:=⟨f.ok,f.no,f.O,f.np,f.P,f.nh,fun i=>if i<q then tkH (f.Y i) else f.Y i⟩
theorem fq_next (f:Fm) (q:Nat):(fq f (q+1)).Y=updN (fq f q).Y q (tkH (f.Y q)):=by
 funext i
 by_cases e:i=q
 ·
  subst e
  rw[updN_same]
  simp[fq]
 ·
  rw[updN_ne e]
  have :(i<q+1)=(i<q):=by simp;omega
  simp[fq,this]
theorem GF.next {B fb hb:Nat}{W W':World}{f:Fm}{oa pa:Option Addr}{oc pc hc:Nat}{r rc:Nat->Nat}{q:Nat}(g:GF B W fb (fq f q) oa pa (some (ad hb 0)) oc pc hc) (m:FMem B W fb hb f.ok oa f.no oc f.O pa f.np pc f.P f.nh hc (fq f q).Y r rc) (hi:q<f.nh) (hB:B<=W.heap.size) (hC:Chg hb (q*5) (q*5+5) (r q) W W') {r' rc':Nat}(hA:HAt W' hb (q*5) (tkH (f.Y q)) r' rc') (hr:r'=r q\/W.heap.size<=r'):GF B W' fb (fq f (q+1)) oa pa (some (ad hb 0)) oc pc hc:=by
 have h9:=m.step hi hB hC hA hr
 rw[←fq_next] at h9
 exact GF.of (f:=fq f (q+1)) h9 g.fi.o g.fi.p
theorem gf_like {B fb:Nat}{W:World}{f:Fm}{oa pa ha:Option Addr}{oc pc hc:Nat}{q:Nat}{Z:Nat->Hl}(g:GF B W fb (fq f q) oa pa ha oc pc hc) (h:∀i,i<f.nh->(fq f q).Y i=Z i):GF B W fb ⟨f.ok,f.no,f.O,f.np,f.P,f.nh,Z⟩ oa pa ha oc pc hc:=by
 by_cases h0:0<f.nh
 ·
  obtain⟨hb,r,rc,rfl,m⟩:=g.fm h0
  exact GF.of (f:=⟨f.ok,f.no,f.O,f.np,f.P,f.nh,Z⟩) (m.congr fun i hi=>by rw[h i hi];exact likeH.refl _) g.fi.o g.fi.p
 ·
  exact⟨g.bx,⟨g.fi.o,g.fi.p,fun k=>absurd k h0⟩,g.lo,fun k=>absurd k h0⟩
set_option maxRecDepth 100000 in
set_option maxHeartbeats 16000000 in
theorem spec14 (p:Pl) (f:Fm) (wa ya ba:Option Addr) (wk yc bc:Nat) (ob oo pb po:Nat) (ha:Option Addr) (oc pc hc:Nat) (op o lie:Int) (w:World) (hps:p.small) (hfs:f.small) (h:PlIn 0 w p wa ya ba) (hf:FmIn 0 w f (some (ad ob oo)) (some (ad pb po)) ha):
  Calls Tryz.prog 14 #[.agg #[.int .i64 p.sec,.slice wa p.nw wk,.slice ya p.ny yc,.slice ba p.nb bc,.int .i64 p.hold],.agg #[.bool f.ok,.slice (some (ad ob oo)) f.no oc,.slice (some (ad pb po)) f.np pc,.slice ha f.nh hc],.agg #[.int .i64 op,.int .i64 o,.int .i64 lie]] w fun e w'=>SpD w (spA p f op o lie) (spG p f op o lie) e w':=by
 have H:Hid (PlIn 0 w p wa ya ba/\FmIn 0 w f (some (ad ob oo)) (some (ad pb po)) ha/\p.small/\f.small):=⟨h,hf,hps,hfs⟩
 obtain⟨V0,hV,S0⟩:=st4 w 37 (vPl p wa wk ya yc ba bc) 42 (vFr f (some (ad ob oo)) oc (some (ad pb po)) pc ha hc) 52 (vEv op o lie) 50 z5v
 clear h hf hps hfs
 go_enter Tryz.func14,Tryz.ntmps14
 go_upto_region 1 with fail
 clear hV
 obtain⟨m0,m1,m2,m3,m4⟩:=(gB S0.out.2.2.2.1).c5
 obtain⟨n0,n1,n2,n3⟩:=(gB S0.out.2.2.1).c4
 go_wp2_with fail
 clear m0 m1 m2 m3 m4 n0 n1 n2 n3
 refine(frame8 p f wa ya ba wk yc bc ob oo pb po ha oc pc hc V0 H.out.2.2.1 H.out.2.2.2 (H.out.1.mono nr (gL S0.out.2.2.2.2.1) nr) (H.out.2.1.mono nr (gL S0.out.2.2.2.2.1) nr)).mono ?_
 rintro e w1 ⟨he,hb⟩
 obtain⟨R,HR⟩:∃R,Hid (frameB p f=R):=⟨_,rfl⟩
 rw[HR.out] at he
 subst he
 have M1:=stm S0 hb
 have HZ1:Hid (Below V0.heap.size V0 w1):=hb
 clear hb
 cases R with
 |false=>
  have HB:Hid (dfG p f op o lie=false):=by rw[Hid,dfG,HR.out];rfl
  go_wp2_with(refine wpList_rowH rfl 50 _ _ rfl (w.heap.size+1+1+1) #[.int .i64 1,.bool false,.slice none 0 0,.slice none 0 0,.slice none 0 0] rfl rfl 50 _ (gB M1.out.1) (by kernel_rfl) rfl (by kernel_rfl) (Halt.mk ?_))
  intro W9 hB9 hF9
  have MR73:Hid (Sts [kBn w.heap.size w] W9):=⟨⟨blf M1.out.2.2.2.2.1 (Nat.le_add_right _ 3) hF9,rfl⟩,trivial⟩
  obtain⟨z0,z1,z2,z3,z4⟩:=hB9.c5
  clear hF9 hB9 M1
  go_wp2_with fail
  exact bodyPost_ret (v:=.agg #[.int .i64 1,.bool false,.slice none 0 0,.slice none 0 0,.slice none 0 0]) (by simp[results,Tryz.results14,go_sem,z0,z1,z2,z3,z4]) rfl (by rw[spA,spG,HB.out];exact SpD.no (gL MR73.out.1))
 |true=>
  have HQ:=frame_in HR.out
  have HBN:Hid (1<=p.sec/\p.sec<=60/\p.nw<=40/\p.ny<=100):=by
   have hz:sizesB p f=true:=by
    have h9:=HR.out
    simp only[frameB,Bool.and_eq_true] at h9
    exact h9.1
   exact(planF_zero (sizes_ok hz).2.1).2
  have HIN:Hid (p.Ok/\f.nh=p.ny/\f.np=p.nw/\(f.no:Int)=p.sec/\∀k,k<p.ny->(p.Y k).In f.no f.np):=HQ
  clear HQ
  obtain⟨m0,m1,m2,m3,m4⟩:=(gB M1.out.2.2.2.1).c5
  obtain⟨n0,n1,n2⟩:=(gB M1.out.2.1).c3
  go_wp2_with fail
  clear m0 m1 m2 m3 m4 n0 n1 n2
  refine(ev50 p wa ya ba wk yc bc op o lie _ HBN.out.1 HBN.out.2.1 HBN.out.2.2.1 HBN.out.2.2.2).mono ?_
  rintro e w2 ⟨he,hb⟩
  obtain⟨E,HE⟩:∃E,Hid (evF p op o lie=E):=⟨_,rfl⟩
  rw[HE.out] at he
  subst he
  have M2:=stm M1 hb
  have HZ2:Hid (Below V0.heap.size V0 w2):=HZ1.out.trans (hb.mono HZ1.out.size)
  clear hb HZ1 M1
  cases E with
  |false=>
   have HB:Hid (dfG p f op o lie=false):=by rw[Hid,dfG,HR.out,HE.out];rfl
   go_wp2_with(refine wpList_rowH rfl 50 _ _ rfl (w.heap.size+1+1+1) #[.int .i64 1,.bool false,.slice none 0 0,.slice none 0 0,.slice none 0 0] rfl rfl 50 _ (gB M2.out.1) (by kernel_rfl) rfl (by kernel_rfl) (Halt.mk ?_))
   intro W9 hB9 hF9
   have MR74:Hid (Sts [kBn w.heap.size w] W9):=⟨⟨blf M2.out.2.2.2.2.1 (Nat.le_add_right _ 3) hF9,rfl⟩,trivial⟩
   obtain⟨z0,z1,z2,z3,z4⟩:=hB9.c5
   clear hF9 hB9 M2
   go_wp2_with fail
   exact bodyPost_ret (v:=.agg #[.int .i64 1,.bool false,.slice none 0 0,.slice none 0 0,.slice none 0 0]) (by simp[results,Tryz.results14,go_sem,z0,z1,z2,z3,z4]) rfl (by rw[spA,spG,HB.out];exact SpD.no (gL MR74.out.1))
  |true=>
   have HB:Hid (dfG p f op o lie=true):=by rw[Hid,dfG,HR.out,HE.out];rfl
   obtain⟨x,HX⟩:∃x,Hid (o.toNat=x):=⟨_,rfl⟩
   have HXE:Hid (op=1\/op=2->x<p.ny):=fun h9=>by have h8:=HE.out;unfold evF at h8;rw[if_pos h9,Bool.and_eq_true] at h8;have h7:=h8.1;simp only[inB,Bool.and_eq_true,decide_eq_true_eq] at h7;have h6:=HX.out;omega
   have HNB:Hid (∀i,i<f.nh->1<=(f.Y i).nb/\(f.Y i).nb<=1048576):=fun i hi=>by
    have h1:=(stateF_cases (frame_st HR.out (i:=i) (by rw[←HIN.out.2.1];exact hi)).2).1
    have h2:=(wayF_in (HIN.out.1.way i (by rw[←HIN.out.2.1];exact hi))).1
    have h3:=(H.out.2.2.1.2.2.1 i (by rw[←HIN.out.2.1];exact hi)).1
    omega
   have HNO:Hid (f.no<=60/\f.np<=40/\f.nh<=100):=by have h1:=HIN.out;have h2:=HBN.out;show _/\_/\_;omega
   obtain⟨m0,m1,m2,m3⟩:=(gB M2.out.2.2.1).c4
   go_wp2_with fail
   clear m0 m1 m2 m3
   refine(copy33 f ob oo pb po ha oc pc hc w2 (by have :=HNO.out;omega) (by have :=HNO.out;omega) (by have :=HNO.out;omega) HNB.out (H.out.2.1.o.mono nr (gL M2.out.2.2.2.2.1) nr) (H.out.2.1.p.mono nr (gL M2.out.2.2.2.2.1) nr) (H.out.2.1.h.mono nr (gL M2.out.2.2.2.2.1) nr)).mono ?_
   rintro e w3 ⟨ov,pv,hv,r,rc,rfl,vo,vp,vh,hne,hb⟩
   obtain⟨oa,oc2,rfl⟩:=vo.val
   obtain⟨pa,pc2,rfl⟩:=vp.val
   obtain⟨ha2,hc2,rfl⟩:=vh.own.val
   have b3:=bel1 w3 (.cells (vFr f oa oc2 pa pc2 ha2 hc2) 42)
   have HZ4:Hid (Below V0.heap.size V0 (w3.alloc (.cells (vFr f oa oc2 pa pc2 ha2 hc2) 42))):=(HZ2.out.trans (hb.mono HZ2.out.size)).alloc (HZ2.out.trans (hb.mono HZ2.out.size)).size _
   have HS4:Hid (SF V0.heap.size (w3.alloc (.cells (vFr f oa oc2 pa pc2 ha2 hc2) 42)) w3.heap.size f oa pa ha2 oc2 pc2 hc2 r rc):=⟨Box.new _ _ _,(vo.keep HZ2.out.size fun _ _=>rfl).mono nr b3 nr,(vp.keep HZ2.out.size fun _ _=>rfl).mono nr b3 nr,(vh.low HZ2.out.size).mono b3 nr,hne,(HZ2.out.trans (hb.mono HZ2.out.size)).size⟩
   have M4:=stm S0 HZ4.out
   clear vo vp vh hne b3 M2
   have e0:=(gB M4.out.2.1).cel 0
   go_upto_block 0 with fail
   clear e0 hb HZ2
   generalize hV4:w3.alloc (.cells (vFr f oa oc2 pa pc2 ha2 hc2) 42)=V4 at HZ4 HS4 M4⊢
   clear hV4
   generalize w3.heap.size=fb at HS4⊢
   go_cut [8] from 9 (fun s8 wx=>s8=.int .i64 (spC p f op x)/\Hid (Below V0.heap.size V0 wx)/\Hid (GF V0.heap.size wx fb (spF p f op x lie) oa pa ha2 oc2 pc2 hc2))
   case first =>
    have hev:=HE.out
    unfold evF at hev
    by_cases h1:op=1
    ·
     subst h1
     rw[if_pos (.inl rfl),Bool.and_eq_true,decide_eq_true_eq] at hev
     obtain⟨y,rfl,hy⟩:=inB_nat hev.1
     obtain rfl:y=x:=by have h9:=HX.out;rwa [Int.toNat_natCast] at h9
     obtain rfl:=hev.2
     have hnh:y<f.nh:=by rw[HIN.out.2.1];exact hy
     obtain⟨hb2,rfl,_,_⟩:=HS4.out.h.own.addr (by omega)
     obtain⟨m0,m1,m2,m3,m4⟩:=(gB M4.out.2.2.2.1).c5
     obtain⟨n0,n1,n2,n3⟩:=(gB M4.out.2.2.1).c4
     have o1:=(gB M4.out.2.1).cel 1
     go_wp2_with fail
     clear m0 m1 m2 m3 m4 n0 n1 n2 n3 o1
     refine(why59 p f wa ya ba wk yc bc ob oo pb po ha oc pc hc y V4 hy H.out.2.2.1 H.out.2.2.2 HR.out (H.out.1.mono nr (gL M4.out.2.2.2.2.1) nr) (H.out.2.1.mono nr (gL M4.out.2.2.2.2.1) nr)).mono ?_
     rintro e w5 ⟨he,hb⟩
     obtain⟨c,HC⟩:∃c,Hid (whyF p f y=c):=⟨_,rfl⟩
     rw[HC.out] at he
     subst he
     have HZ5:Hid (Below V0.heap.size V0 w5):=HZ4.out.trans (hb.mono HZ4.out.size)
     have HS5:Hid (SF V0.heap.size w5 fb f oa pa (some (ad hb2 0)) oc2 pc2 hc2 r rc):=HS4.out.mono hb nr
     have M5:=stm M4 hb
     clear hb HS4 HZ4 M4
     by_cases c0:c=0
     ·
      subst c0
      obtain⟨m0,m1,m2,m3,m4⟩:=(gB M5.out.2.2.2.1).c5
      have n1:=(gB M5.out.2.1).cel 1
      go_wp2_with fail
      clear m0 m1 m2 m3 m4 n1
      refine(set51 p f wa ya ba wk yc bc oa pa oc2 pc2 hc2 fb hb2 r rc y V0 w5 H.out.2.2.1 hnh hy (HIN.out.2.2.2.2 y hy) (H.out.1.mono nr (gL S0.out.2.2.2.2.1) nr) HZ5.out HS5.out).mono ?_
      rintro e w6 ⟨rfl,hm,hb⟩
      have HN:Hid (GF V0.heap.size w6 fb (spF p f 1 y 0) oa pa (some (ad hb2 0)) oc2 pc2 hc2/\Below V0.heap.size V0 w6):=⟨by rw[spF,if_pos rfl,if_pos HC.out];exact hm.gf,hb⟩
      have HSC:Hid (spC p f 1 y=0):=HC.out
      clear hm hb HS5 HZ5 M5
      go_wp2_with fail
      go_meet
      case rel=>exact⟨by rw[HSC.out],HN.out.2,HN.out.1⟩
     ·
      have c0':(c==0)=false:=by simpa using c0
      have HN:Hid (GF V0.heap.size w5 fb (spF p f 1 y 0) oa pa (some (ad hb2 0)) oc2 pc2 hc2):=by rw[spF,if_pos rfl,if_neg (by rw[HC.out];exact c0)];exact HS5.out.gf
      have HSC:Hid (spC p f 1 y=c):=HC.out
      clear c0 HS5 M5
      go_wp2_with fail
      go_meet
      case rel=>exact⟨by rw[HSC.out],HZ5.out,HN.out⟩
    by_cases h2:op=2
    ·
     clear h1
     subst h2
     rw[if_pos (.inr rfl),Bool.and_eq_true,decide_eq_true_eq] at hev
     obtain⟨y,rfl,hy⟩:=inB_nat hev.1
     obtain rfl:y=x:=by have h9:=HX.out;rwa [Int.toNat_natCast] at h9
     obtain rfl:=hev.2
     have hnh:y<f.nh:=by rw[HIN.out.2.1];exact hy
     obtain⟨hb2,rfl,_,_⟩:=HS4.out.h.own.addr (by omega)
     obtain⟨m0,m1,m2,m3,m4⟩:=(gB M4.out.2.2.2.1).c5
     have n1:=(gB M4.out.2.1).cel 1
     go_wp2_with fail
     clear m0 m1 m2 m3 m4 n1
     refine(back52 p f wa ya ba wk yc bc oa pa oc2 pc2 hc2 fb hb2 r rc y V0 V4 H.out.2.2.1 hnh hy (fun i hi=>by
      have h5:=HIN.out.1.way y hy
      simp only[wayF,Bool.and_eq_true,decide_eq_true_eq,listF,liesF,allB_iff,elF,tuF,inB] at h5
      have h6:=(h5.1.1.1.1.2.1 i hi).1
      have h7:=HIN.out.2.2.2.1
      exact⟨((p.Y y).M i).toNat,by omega,by omega⟩) (HNB.out y hnh).2 (H.out.1.mono nr (gL S0.out.2.2.2.2.1) nr) HZ4.out HS4.out).mono ?_
     rintro e w5 ⟨r2,rc2,rfl,hm,hb⟩
     have HN:Hid (GF V0.heap.size w5 fb (spF p f 2 y 0) oa pa (some (ad hb2 0)) oc2 pc2 hc2/\Below V0.heap.size V0 w5):=⟨GF.of (f:=spF p f 2 y 0) hm HS4.out.o.vs HS4.out.p.vs,hb⟩
     clear hm hb HS4 HZ4 M4
     go_wp2_with fail
     go_meet
     case rel=>exact⟨rfl,HN.out.2,HN.out.1⟩
    rw[if_neg (by omega)] at hev
    by_cases h3:op=3
    ·
     clear h1 h2
     subst h3
     rw[if_pos (.inl rfl),Bool.and_eq_true,decide_eq_true_eq] at hev
     rw[←HIN.out.2.2.2.1] at hev
     obtain⟨y,rfl,hy⟩:=inB_nat hev.1
     obtain rfl:y=x:=by have h9:=HX.out;rwa [Int.toNat_natCast] at h9
     obtain rfl:=hev.2
     obtain⟨ob2,rfl,_,_⟩:=HS4.out.o.addr (by omega)
     have n1:=(gB M4.out.2.1).cel 1
     have c1:=HS4.out.bx.cel 1
     have c2:V4.cell? (ad ob2 y)=some (.bool (f.O y)):=by have h9:=HS4.out.o.cell hy (j:=0) (by omega);rwa [Nat.mul_one] at h9
     have c4:=HS4.out.o.free y
     have y0:(0:Int)<=(y:Int):=by omega
     have yn:(y:Int)<(f.no:Int):=by omega
     have HN:Hid (SF V0.heap.size (V4.setCell (ad ob2 y) (.bool true)) fb (spF p f 3 y 0) (some (ad ob2 0)) pa ha2 oc2 pc2 hc2 r rc/\Below V0.heap.size V0 (V4.setCell (ad ob2 y) (.bool true))):=⟨HS4.out.occ hy true,HZ4.out.setCell (p:=(ad ob2 y)) (HS4.out.o.lt (g:=ob2) rfl).1 _⟩
     clear HS4 HZ4 M4
     go_wp2_with fail
     go_meet
     case rel=>exact⟨rfl,HN.out.2,HN.out.1.gf⟩
    by_cases h4:op=4
    ·
     clear h1 h2 h3
     subst h4
     rw[if_pos (.inr rfl),Bool.and_eq_true,decide_eq_true_eq] at hev
     rw[←HIN.out.2.2.2.1] at hev
     obtain⟨y,rfl,hy⟩:=inB_nat hev.1
     obtain rfl:y=x:=by have h9:=HX.out;rwa [Int.toNat_natCast] at h9
     obtain rfl:=hev.2
     obtain⟨ob2,rfl,_,_⟩:=HS4.out.o.addr (by omega)
     have n1:=(gB M4.out.2.1).cel 1
     have c1:=HS4.out.bx.cel 1
     have c2:V4.cell? (ad ob2 y)=some (.bool (f.O y)):=by have h9:=HS4.out.o.cell hy (j:=0) (by omega);rwa [Nat.mul_one] at h9
     have c4:=HS4.out.o.free y
     have y0:(0:Int)<=(y:Int):=by omega
     have yn:(y:Int)<(f.no:Int):=by omega
     have HN:Hid (SF V0.heap.size (V4.setCell (ad ob2 y) (.bool false)) fb (spF p f 4 y 0) (some (ad ob2 0)) pa ha2 oc2 pc2 hc2 r rc/\Below V0.heap.size V0 (V4.setCell (ad ob2 y) (.bool false))):=⟨HS4.out.occ hy false,HZ4.out.setCell (p:=(ad ob2 y)) (HS4.out.o.lt (g:=ob2) rfl).1 _⟩
     clear HS4 HZ4 M4
     go_wp2_with fail
     go_meet
     case rel=>exact⟨rfl,HN.out.2,HN.out.1.gf⟩
    rw[if_neg (by omega)] at hev
    by_cases h5:op=5
    ·
     clear h1 h2 h3 h4
     subst h5
     rw[if_pos rfl,Bool.and_eq_true] at hev
     rw[←HIN.out.2.2.1] at hev
     obtain⟨y,rfl,hy⟩:=inB_nat hev.1
     obtain rfl:y=x:=by have h9:=HX.out;rwa [Int.toNat_natCast] at h9
     obtain⟨pb2,rfl,_,_⟩:=HS4.out.p.addr (by omega)
     have n1:=(gB M4.out.2.1).cel 1
     have n2:=(gB M4.out.2.1).cel 2
     have c1:=HS4.out.bx.cel 2
     have c2:V4.cell? (ad pb2 (y*2+1))=some (.int .i64 (f.P y 1)):=HS4.out.p.cell hy (j:=1) (by omega)
     have c4:=HS4.out.p.free (y*2+1)
     have y0:(0:Int)<=(y:Int):=by omega
     have yn:(y:Int)<(f.np:Int):=by omega
     have HN:Hid (SF V0.heap.size (V4.setCell (ad pb2 (y*2+1)) (.int .i64 lie)) fb (spF p f 5 y lie) oa (some (ad pb2 0)) ha2 oc2 pc2 hc2 r rc/\Below V0.heap.size V0 (V4.setCell (ad pb2 (y*2+1)) (.int .i64 lie))):=⟨HS4.out.pt hy (j:=1) (by omega) lie (Q:=ptU f.P y (f.P y 0) lie) (fun i _ k hk=>by
      unfold ptU
      by_cases e:i=y
      ·
       subst e
       rcases(show k=0\/k=1 by omega) with rfl|rfl<;>simp
      ·
       simp[e]),HZ4.out.setCell (p:=(ad pb2 (y*2+1))) (HS4.out.p.lt (g:=pb2) rfl).1 _⟩
     clear HS4 HZ4 M4
     go_wp2_with fail
     go_meet
     case rel=>exact⟨rfl,HN.out.2,HN.out.1.gf⟩
    rw[if_neg h5] at hev
    by_cases h6:op=6
    ·
     clear h1 h2 h3 h4 h5
     subst h6
     rw[if_pos rfl,Bool.and_eq_true,←HIN.out.2.2.1] at hev
     obtain⟨y,rfl,hy⟩:=inB_nat hev.1
     obtain rfl:y=x:=by have h9:=HX.out;rwa [Int.toNat_natCast] at h9
     have hyw:y<p.nw:=by rw[←HIN.out.2.2.1];exact hy
     obtain⟨m0,m1,m2,m3,m4⟩:=(gB M4.out.2.2.2.1).c5
     obtain⟨n0,n1,n2,n3⟩:=(gB M4.out.2.2.1).c4
     have o1:=(gB M4.out.2.1).cel 1
     go_wp2_with fail
     clear m0 m1 m2 m3 m4 n0 n1 n2 n3 o1
     refine(point51 p f wa ya ba (some (ad ob oo)) (some (ad pb po)) ha wk yc bc oc pc hc y V4 H.out.2.2.1 (by have :=HNO.out;omega) HIN.out.2.1 HIN.out.1 hyw (H.out.1.mono nr (gL M4.out.2.2.2.2.1) nr) (H.out.2.1.h.mono nr (gL M4.out.2.2.2.2.1) nr)).mono ?_
     rintro e w5 ⟨va,vc,rfl,_,hb⟩
     obtain⟨nn,HNN⟩:∃n,Hid (selN (fun i=>wantsB p f i y) p.ny=n):=⟨_,rfl⟩
     rw[HNN.out]
     have HFX:Hid (selN (fun i=>wantsS p (stS p f) i y) p.ny=nn):=((sel_congr fun k hk=>wants_same HR.out hk y).1).trans HNN.out
     have HZ5:Hid (Below V0.heap.size V0 w5):=HZ4.out.trans (hb.mono HZ4.out.size)
     have HS5:Hid (SF V0.heap.size w5 fb f oa pa ha2 oc2 pc2 hc2 r rc):=HS4.out.mono hb nr
     have M5:=stm M4 hb
     clear hb HS4 HZ4 M4
     by_cases c0:0<nn
     ·
      have c1:(nn:Int) > 0:=by omega
      have HN:Hid (spC p f 6 y=2/\spF p f 6 y lie=f):=by
       have e1:fxE p f.O (stS p f) y=some 4:=by rw[fxE,HFX.out,if_pos c0]
       exact⟨by simp[spC,HNN.out,c0],by simp[spF,e1]⟩
      have HN2:Hid (GF V0.heap.size w5 fb (spF p f 6 y lie) oa pa ha2 oc2 pc2 hc2):=by rw[HN.out.2];exact HS5.out.gf
      clear HS5 M5 c0
      go_wp2_with fail
      go_meet
      case rel=>exact⟨by rw[HN.out.1],HZ5.out,HN2.out⟩
     ·
      obtain rfl:nn=0:=by omega
      clear c0
      obtain⟨sx,HSX,hsx⟩:∃sx:Nat,Hid (p.W y=(sx:Int))/\sx<f.no:=frame_sw HR.out y hyw
      obtain⟨u,HU⟩:∃u,Hid (f.O sx=u):=⟨_,rfl⟩
      obtain⟨sb,so,rfl,_,hsl,hsc⟩:=H.out.1.sw (by omega)
      have HSW:Hid (sb<w.heap.size/\w.cell? (ad sb (so+y))=some (.int .i64 (sx:Int))/\ob<w.heap.size/\w.cell? (ad ob (oo+sx))=some (.bool u)):=by
       obtain⟨b',o',e,_,k1,k2⟩:=H.out.2.1.o (by omega)
       simp only[Option.some.injEq,Addr.mk.injEq,and_true] at e
       obtain⟨rfl,rfl⟩:=e
       have k3:=hsc y hyw 0 (by omega)
       have k4:=k2 sx hsx 0 (by omega)
       rw[Nat.mul_one] at k3 k4
       exact⟨hsl,by rw[←HSX.out];exact k3,k1,by rw[←HU.out];exact k4⟩
      clear hsc hsl
      have yy0:(0:Int)<=(y:Int):=by omega
      have yyw:(y:Int)<(p.nw:Int):=by omega
      have yyp:(y:Int)<(f.np:Int):=by omega
      have sx0:(0:Int)<=(sx:Int):=by omega
      have sxn:(sx:Int)<(f.no:Int):=by omega
      have HS6:Hid (SF V0.heap.size w5.drew fb f oa pa ha2 oc2 pc2 hc2 r rc):=HS5.out.mono (Below.refl _ _).drew nr
      have HZ6:Hid (Below V0.heap.size V0 w5.drew):=HZ5.out.drew
      clear HS5 HZ5
      go_upto_region 21 with fail
      refine wp_region_held_drew (S:=(fun wx:World=>wx.cell? (ad (w.heap.size+1+1) 1)=some (.int .i64 (y:Int))/\wx.cell? (ad (w.heap.size+1) 1)=some (.slice (some (ad ob oo)) f.no oc)/\wx.cell? (ad w.heap.size 1)=some (.slice (some (ad sb so)) p.nw wk)/\wx.cell? (ad sb (so+y))=some (.int .i64 (sx:Int))/\wx.cell? (ad ob (oo+sx))=some (.bool u))) (by kernel_rfl) ⟨(gB M5.out.2.1).cell 1,(gB M5.out.2.2.1).cell 1,(gB M5.out.2.2.2.1).cell 1,cell_keep (w1:=w5) (gL M5.out.2.2.2.2.1) HSW.out.1 HSW.out.2.1,cell_keep (w1:=w5) (gL M5.out.2.2.2.2.1) HSW.out.2.2.1 HSW.out.2.2.2⟩ (fun hHeld=>?_)
      have MD75:=std M5
      clear M5
      generalize w5.drew=VD at MD75 hHeld HS6 HZ6⊢
      refine tk 0 ?_
      refine tk 1 ?_
      refine tk 2 ?_
      refine tk 3 ?_
      refine tk 4 ?_
      refine tk 5 ?_
      refine tk 6 ?_
      refine tk 7 ?_
      refine tk 8 ?_
      refine tk 9 ?_
      refine wpAnyH_done (by kernel_rfl) ?_ _
      clear hHeld
      cases u with
      |true=>
       have HN:Hid (spC p f 6 y=3/\spF p f 6 y lie=f):=by
        have e1:fxE p f.O (stS p f) y=some 5:=by rw[fxE,HFX.out,if_neg (by omega),HSX.out,Int.toNat_natCast,HU.out,if_pos rfl]
        exact⟨by simp[spC,HNN.out,HSX.out,HU.out],by simp[spF,e1]⟩
       have HN2:Hid (GF V0.heap.size VD fb (spF p f 6 y lie) oa pa ha2 oc2 pc2 hc2):=by rw[HN.out.2];exact HS6.out.gf
       clear HS6 MD75
       go_wp2_with fail
       go_meet
       case rel=>exact⟨by rw[HN.out.1],HZ6.out,HN2.out⟩
      |false=>
       obtain⟨pb2,rfl,_,_⟩:=HS6.out.p.addr (show 0<f.np by omega)
       have n1:=(gB MD75.out.2.1).cel 1
       have n2:=(gB MD75.out.2.1).cel 2
       have c1:=HS6.out.bx.cel 2
       have c2:VD.cell? (ad pb2 (y*2))=some (.int .i64 (f.P y 0)):=HS6.out.p.cell hy (j:=0) (by omega)
       have c4:=HS6.out.p.free (y*2)
       have HN:Hid (spC p f 6 y=0/\spF p f 6 y lie=⟨f.ok,f.no,f.O,f.np,ptU f.P y lie (f.P y 1),f.nh,f.Y⟩):=by
        have e1:fxE p f.O (stS p f) y=none:=by rw[fxE,HFX.out,if_neg (by omega),HSX.out,Int.toNat_natCast,HU.out,if_neg Bool.false_ne_true]
        exact⟨by simp[spC,HNN.out,HSX.out,HU.out],by simp[spF,e1]⟩
       have HN2:Hid (SF V0.heap.size (VD.setCell (ad pb2 (y*2)) (.int .i64 lie)) fb (spF p f 6 y lie) oa (some (ad pb2 0)) ha2 oc2 pc2 hc2 r rc/\Below V0.heap.size V0 (VD.setCell (ad pb2 (y*2)) (.int .i64 lie))):=by
        rw[HN.out.2]
        exact⟨HS6.out.pt hy (j:=0) (by omega) lie (Q:=ptU f.P y lie (f.P y 1)) (fun i _ k hk=>by
         unfold ptU
         by_cases e:i=y
         ·
          subst e
          rcases(show k=0\/k=1 by omega) with rfl|rfl<;>simp
         ·
          simp[e]),HZ6.out.setCell (p:=(ad pb2 (y*2))) (HS6.out.p.lt (g:=pb2) rfl).1 _⟩
       clear HS6 HZ6 MD75
       go_wp2_with fail
       go_meet
       case rel=>exact⟨by rw[HN.out.1],HN2.out.2,HN2.out.1.gf⟩
    rw[if_neg h6] at hev
    by_cases h7:op=7
    ·
     clear h1 h2 h3 h4 h5 h6
     subst h7
     rw[if_pos rfl,Bool.and_eq_true,decide_eq_true_eq,decide_eq_true_eq] at hev
     obtain⟨rfl,rfl⟩:=hev
     have hn100:f.nh<=100:=HNO.out.2.2
     have c3:=HS4.out.bx.cel 3
     have HG0:Hid (GF V0.heap.size V4 fb (fq f 0) oa pa ha2 oc2 pc2 hc2):=by
      have e9:fq f 0=f:=by simp[fq]
      rw[e9]
      exact HS4.out.gf
     clear M4 HS4
     go_wp2_with fail
     clear c3
     go_loopw [101] (fun i wr=>∃q:Nat,q<=f.nh/\i=.int .i64 (q:Int)/\Hid (Below V0.heap.size V0 wr)/\Hid (GF V0.heap.size wr fb (fq f q) oa pa ha2 oc2 pc2 hc2)) (fun i _=>f.nh-(intOf i).toNat)
     case atStart=>exact⟨0,Nat.zero_le _,rfl,HZ4,HG0⟩
     case round=>
      clear HG0 HZ4
      obtain⟨q,hq,rfl,HZ,HG⟩:=hrel
      by_cases hlt:q<f.nh
      ·
       obtain⟨hb2,r2,rc2,hha,hm⟩:=HG.out.fm (show 0<f.nh by omega)
       subst hha
       have HM:Hid (FMem V0.heap.size wr fb hb2 f.ok oa f.no oc2 f.O pa f.np pc2 f.P f.nh hc2 (fq f q).Y r2 rc2):=hm
       have h9:HAt wr hb2 (q*5) (f.Y q) (r2 q) (rc2 q):=by have h8:=hm.h q hlt;simpa [fq] using h8
       have HA:Hid (HAt wr hb2 (q*5) (f.Y q) (r2 q) (rc2 q)):=h9
       clear h9
       clear hm
       obtain⟨sq,HSQ⟩:∃s,Hid ((f.Y q).st=s):=⟨_,rfl⟩
       obtain⟨tt,HTT⟩:∃s,Hid ((f.Y q).timer=s):=⟨_,rfl⟩
       have c3:=HG.out.bx.cel 3
       have k0:wr.cell? (ad hb2 (q*5))=some (.int .i64 sq):=by rw[←HSQ.out];exact HA.out.c0
       have k4:wr.cell? (ad hb2 (q*5+4))=some (.int .i64 tt):=by rw[←HTT.out];exact HA.out.c4
       have fz:wr.frozen? (ad hb2 (q*5+4))=false:=HA.out.fr 4 (by omega)
       have q0:(0:Int)<=(q:Int):=by omega
       have qn:(q:Int)<(f.nh:Int):=by omega
       by_cases d:sq=3
       ·
        subst d
        have HTB:Hid (1<=tt/\tt<=300):=by
         obtain⟨_,hc⟩:=stateF_cases (frame_st HR.out (i:=q) (by rw[←HIN.out.2.1];exact hlt)).2
         have hh:=HIN.out.1.head
         simp only[headF,Bool.and_eq_true,decide_eq_true_eq,inB] at hh
         have h1:=HSQ.out
         have h2:=HTT.out
         rcases hc with⟨e,_⟩|⟨e,_⟩|⟨e,_⟩|⟨e,_,a,b⟩|⟨e,_⟩<;>first |omega|(constructor<;>omega)
        have hw:IntKind.i64.wrap (tt-1)=tt-1:=by have :=HTB.out;rw[IntKind.wrap_i64];omega
        have HA1:Hid (HAt (wr.setCell (ad hb2 (q*5+4)) (.int .i64 (tt-1))) hb2 (q*5) ⟨(f.Y q).st,(f.Y q).gone,(f.Y q).nb,(f.Y q).B,(f.Y q).shown,tt-1⟩ (r2 q) (rc2 q)):=HA.out.setTimer _
        have HC1:Hid (Chg hb2 (q*5) (q*5+5) (r2 q) wr (wr.setCell (ad hb2 (q*5+4)) (.int .i64 (tt-1)))):=(Chg.refl _ _ _ _ wr).set (by omega) (by omega) _
        have HL:Hid (V0.heap.size<=hb2/\V0.heap.size<=r2 q):=⟨HM.out.mh,HM.out.mr q hlt⟩
        have k5:(wr.setCell (ad hb2 (q*5+4)) (.int .i64 (tt-1))).cell? (ad hb2 (q*5+4))=some (.int .i64 (tt-1)):=HA1.out.c4
        by_cases e1:tt=1
        ·
         have e2:(tt-1==0)=true:=by simp;omega
         have HTK:Hid (tkH (f.Y q)=idH (f.Y q).nb):=by rw[Hid,tkH,if_neg (by have :=HSQ.out;omega),if_pos (by have :=HTT.out;omega)]
         clear e1
         go_wp2_with fail
         refine(idle54 hb2 (q*5) ⟨(f.Y q).st,(f.Y q).gone,(f.Y q).nb,(f.Y q).B,(f.Y q).shown,tt-1⟩ (r2 q) (rc2 q) _ (HNB.out q hlt).2 HA1.out).mono ?_
         rintro e w7 ⟨rfl,hA2,hC2⟩
         have hC:=HC1.out.trans hC2
         have HG7:Hid (GF V0.heap.size w7 fb (fq f (q+1)) oa pa (some (ad hb2 0)) oc2 pc2 hc2):=HG.out.next HM.out hlt HZ.out.size hC (by rw[HTK.out];exact hA2) (.inr (by rw[size_setc];exact nr))
         have HZ7:Hid (Below V0.heap.size V0 w7):=HZ.out.trans (hC.below HZ.out.size HL.out.1 HL.out.2)
         clear hA2 hC2 hC
         go_wp2_with fail
         go_roundw
         case rel=>exact⟨q+1,by omega,by go_num,HZ7,HG7⟩
         case measure=>simp[intOf];omega
        ·
         have e2:(tt-1==0)=false:=by simp;omega
         have HTK:Hid (tkH (f.Y q)=⟨(f.Y q).st,(f.Y q).gone,(f.Y q).nb,(f.Y q).B,(f.Y q).shown,tt-1⟩):=by rw[Hid,tkH,if_neg (by have :=HSQ.out;omega),if_neg (by have :=HTT.out;omega),HTT.out]
         have HG7:Hid (GF V0.heap.size (wr.setCell (ad hb2 (q*5+4)) (.int .i64 (tt-1))) fb (fq f (q+1)) oa pa (some (ad hb2 0)) oc2 pc2 hc2):=HG.out.next HM.out hlt HZ.out.size HC1.out (by rw[HTK.out];exact HA1.out) (.inl rfl)
         have HZ7:Hid (Below V0.heap.size V0 (wr.setCell (ad hb2 (q*5+4)) (.int .i64 (tt-1)))):=HZ.out.trans (HC1.out.below HZ.out.size HL.out.1 HL.out.2)
         clear e1
         go_wp2_with fail
         go_roundw
         case rel=>exact⟨q+1,by omega,by go_num,HZ7,HG7⟩
         case measure=>simp[intOf];omega
       ·
        have d':(sq !=3)=true:=by simpa using d
        have HG7:Hid (GF V0.heap.size wr fb (fq f (q+1)) oa pa (some (ad hb2 0)) oc2 pc2 hc2):=HG.out.next HM.out hlt HZ.out.size (Chg.refl _ _ _ _ _) (by rw[tkH,if_pos (by rw[HSQ.out];exact d)];exact HA.out) (.inl rfl)
        clear d
        go_wp2_with fail
        go_roundw
        case rel=>exact⟨q+1,by omega,by go_num,HZ,HG7⟩
        case measure=>simp[intOf];omega
      ·
       have hge:¬((q:Int)<(f.nh:Int)):=by omega
       obtain rfl:q=f.nh:=by omega
       have HN:Hid (spF p f 7 x 0=⟨f.ok,f.no,f.O,f.np,f.P,f.nh,fun i=>tkH (f.Y i)⟩):=by simp[Hid,spF]
       have HG7:Hid (GF V0.heap.size wr fb (spF p f 7 x 0) oa pa ha2 oc2 pc2 hc2):=by
        rw[HN.out]
        have g:=HG.out
        have hl:∀i,i<f.nh->(fq f f.nh).Y i=tkH (f.Y i):=fun i hi=>by simp[fq,hi]
        exact gf_like g hl
       clear HG
       go_wp2_with fail
       go_meet
       case rel=>exact⟨rfl,HZ.out,HG7.out⟩
    ·
     rw[if_neg h7] at hev
     cases hev
   case rest=>
    obtain⟨rfl,HZ5,HG5⟩:=hcut
    have M5:=stm S0 HZ5.out
    clear M4 HS4 HZ4
    obtain⟨m0,m1,m2,m3,m4⟩:=(gB M5.out.2.2.2.1).c5
    go_wp2_with fail
    clear m0 m1 m2 m3 m4
    have hsh:=spF_shape p f op x lie
    refine(settleG p (spF p f op x lie) wa ya ba oa pa ha2 wk yc bc oc2 pc2 hc2 fb V0 wc H.out.2.2.1 (by have :=HNO.out;omega) (by have :=HNO.out;omega) (by rw[hsh.2.2.2];exact HIN.out.2.1) HG5.out (fun i hi=>by
     rw[hsh.2.2.2,HIN.out.2.1] at hi
     rw[hsh.2.1,hsh.2.2.1]
     exact⟨HIN.out.2.2.2.2 i hi,sp_held HR.out HXE.out hi⟩) (H.out.1.mono nr (gL S0.out.2.2.2.2.1) nr) HZ5.out).mono ?_
    rintro e w6 ⟨rfl,hg,hb⟩
    have M6:=stm S0 hb
    have HG6:Hid (GF V0.heap.size w6 fb (spW p f op x lie) oa pa ha2 oc2 pc2 hc2):=hg
    have HZ6:Hid (Below V0.heap.size V0 w6/\w.heap.size+1+1+1<V0.heap.size):=⟨hb,(gB S0.out.1).lt⟩
    clear hg hb hsh HG5 HZ5 M5
    obtain⟨k0,k1,k2,k3⟩:=HG6.out.bx.c4
    go_wp2_with(refine wpList_rowH rfl 50 _ _ rfl (w.heap.size+1+1+1) #[.int .i64 (spC p f op x),.bool (spF p f op x lie).ok,.slice oa (spF p f op x lie).no oc2,.slice pa (spF p f op x lie).np pc2,.slice ha2 (spF p f op x lie).nh hc2] rfl rfl 50 _ (gB M6.out.1) (by kernel_rfl) rfl (by kernel_rfl) (Halt.mk ?_))
    intro W9 hB9 hF9
    have HE9:Hid (SpD w (spA p f op o lie) (spG p f op o lie) (.returned (.agg #[.int .i64 (spC p f op x),.bool (spF p f op x lie).ok,.slice oa (spF p f op x lie).no oc2,.slice pa (spF p f op x lie).np pc2,.slice ha2 (spF p f op x lie).nh hc2])) W9):=by
     rw[spA,spG,HB.out,if_pos rfl,if_pos rfl,HX.out]
     have hk:∀b,V0.heap.size<=b->b<w6.heap.size->W9.heap[b]?=w6.heap[b]?:=fun b h1 h2=>hF9.block b h2 (by have :=HZ6.out.2;omega)
     have hz9:w.heap.size<=V0.heap.size:=by have :=HZ6.out.2;omega
     exact⟨oa,pa,ha2,oc2,pc2,hc2,rfl,⟨HG6.out.fi.o.keep hz9 hF9.size hk,HG6.out.fi.p.keep hz9 hF9.size hk,HG6.out.fi.h.keep hz9 hF9.size hk⟩,blf M6.out.2.2.2.2.1 (Nat.le_add_right _ 3) hF9⟩
    obtain⟨z0,z1,z2,z3,z4⟩:=hB9.c5
    clear k0 k1 k2 k3 hF9 hB9 M6 HG6 HZ6
    go_wp2_with fail
    exact bodyPost_ret (v:=.agg #[.int .i64 (spC p f op x),.bool (spF p f op x lie).ok,.slice oa (spF p f op x lie).no oc2,.slice pa (spF p f op x lie).np pc2,.slice ha2 (spF p f op x lie).nh hc2]) (by simp[results,Tryz.results14,go_sem,z0,z1,z2,z3,z4]) rfl HE9.out
end Go.Proofs.YtkeilejbelblcaaGreatDoor
