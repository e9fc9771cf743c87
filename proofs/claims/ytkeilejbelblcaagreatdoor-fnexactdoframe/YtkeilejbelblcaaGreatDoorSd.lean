import Derived.Test.YtkeilejbelblcaaGreatDoorJam
namespace Go.Proofs.YtkeilejbelblcaaGreatDoor
open Go.RowKit
theorem planF_head {p:Pl}(h:headF p=false):planF p=(1,0):=by simp[planF,h]
theorem planF_2 {p:Pl}(h:headF p=true) {k:Nat}(ha:∀q,q<k->inB (p.W q) 0 (p.sec-1)=true) (hk:k<p.nw) (hb:inB (p.W k) 0 (p.sec-1)=false):planF p=(2,(k:Int)):=by
 rw[planF,if_pos h,plan2,firstB_hit (k:=k) (fun q hq=>by simp[ha q hq]) hk (by simp[hb])]
theorem planF_3 {p:Pl}(h:headF p=true) (hs:∀q,q<p.nw->inB (p.W q) 0 (p.sec-1)=true) {k:Nat}(ha:∀q,q<k->wayF p (p.Y q)=true) (hk:k<p.ny) (hb:wayF p (p.Y k)=false):planF p=(3,(k:Int)):=by
 rw[planF,if_pos h,plan2,firstB_none (fun q hq=>by simp[hs q hq]),plan3,firstB_hit (k:=k) (fun q hq=>by simp[ha q hq]) hk (by simp[hb])]
theorem planF_up {p:Pl}(h:headF p=true) (hs:∀q,q<p.nw->inB (p.W q) 0 (p.sec-1)=true) (hw:∀q,q<p.ny->wayF p (p.Y q)=true):planF p=plan4 p:=by
 rw[planF,if_pos h,plan2,firstB_none (fun q hq=>by simp[hs q hq]),plan3,firstB_none (fun q hq=>by simp[hw q hq])]
theorem plan4_no {p:Pl}(h:p.nb≠p.ny):plan4 p=(4,0):=by rw[plan4,if_neg h]
theorem plan4_hit {p:Pl}(h:p.nb=p.ny) {k:Nat}(ha:∀q,q<k->p.K q=p.ny) (hk:k<p.nb) (hb:p.K k≠p.ny):plan4 p=(4,(k:Int)):=by
 rw[plan4,if_pos h,firstB_hit (k:=k) (fun q hq=>by simp[ha q hq]) hk (by simp[hb])]
theorem plan4_up {p:Pl}(h:p.nb=p.ny) (ha:∀q,q<p.nb->p.K q=p.ny):plan4 p=plan5 p:=by
 rw[plan4,if_pos h,firstB_none (fun q hq=>by simp[ha q hq])]
theorem plan5_hit {p:Pl}{k:Nat}(ha:∀q,q<k->anyB (barF p q) (p.K q)=false) (hk:k<p.nb) (hb:anyB (barF p k) (p.K k)=true):plan5 p=(5,(k:Int)):=by
 rw[plan5,firstB_hit (k:=k) ha hk hb]
theorem plan5_no {p:Pl}(ha:∀q,q<p.nb->anyB (barF p q) (p.K q)=false):plan5 p=(0,0):=by
 rw[plan5,firstB_none ha]
set_option maxRecDepth 100000 in
set_option maxHeartbeats 8000000 in
theorem plan7 (p:Pl) (wa ya ba:Option Addr) (wc yc bc:Nat) (w:World) (hs:p.small) (h:PlIn 0 w p wa ya ba):
  Calls Tryz.prog 72 #[.agg #[.int .i64 p.sec,.slice wa p.nw wc,.slice ya p.ny yc,.slice ba p.nb bc,.int .i64 p.hold]] w fun e w'=>e=.returned (.agg #[.int .i64 (planF p).1,.int .i64 (planF p).2])/\Below w.heap.size w w':=by
 obtain⟨s1,s2,s3,s4,s5⟩:=hs
 have HS:Hid ((∀i,i<p.ny->(p.Y i).small 1048576)/\∀i,i<p.nb->p.K i<=1048576):=⟨s3,s5⟩
 have H:Hid (PlIn 0 w p wa ya ba):=h
 clear h s3 s5
 go_enter Tryz.func72,Tryz.ntmps72
 go_wp2_with fail
 refine(in24 p.sec 1 60 _).mono ?_
 rintro e wx ⟨he,hwx⟩
 have hwx:=hwx.symm
 subst hwx
 cases f1:inB p.sec 1 60 with
 |false=>
  rw[f1] at he
  subst he
  go_wp2_with fail
  refine bodyPost_ret (v:=.agg #[.int .i64 1,.int .i64 0]) (by simp[results,Tryz.results72,go_sem]) rfl ⟨by rw[planF_head (by simp[headF,f1])],?_⟩
  exact bel2 _ _ _
 |true=>
 rw[f1] at he
 subst he
 by_cases h40:(40:Int)<(p.nw:Int)
 ·
  have d40:decide ((40:Int)<(p.nw:Int))=true:=by simpa using h40
  go_wp2_with fail
  refine bodyPost_ret (v:=.agg #[.int .i64 1,.int .i64 0]) (by simp[results,Tryz.results72,go_sem]) rfl ⟨by rw[planF_head (by simp[headF];omega)],?_⟩
  exact bel2 _ _ _
 have d40:decide ((40:Int)<(p.nw:Int))=false:=by simpa using h40
 by_cases h100:(100:Int)<(p.ny:Int)
 ·
  have d100:decide ((100:Int)<(p.ny:Int))=true:=by simpa using h100
  go_wp2_with fail
  refine bodyPost_ret (v:=.agg #[.int .i64 1,.int .i64 0]) (by simp[results,Tryz.results72,go_sem]) rfl ⟨by rw[planF_head (by simp[headF];omega)],?_⟩
  exact bel2 _ _ _
 have d100:decide ((100:Int)<(p.ny:Int))=false:=by simpa using h100
 go_wp2_with fail
 refine(in24 p.hold 1 300 _).mono ?_
 rintro e wx ⟨he,hwx⟩
 have hwx:=hwx.symm
 subst hwx
 cases f2:inB p.hold 1 300 with
 |false=>
  rw[f2] at he
  subst he
  go_wp2_with fail
  refine bodyPost_ret (v:=.agg #[.int .i64 1,.int .i64 0]) (by simp[results,Tryz.results72,go_sem]) rfl ⟨by rw[planF_head (by simp[headF,f2])],?_⟩
  exact bel2 _ _ _
 |true=>
 rw[f2] at he
 subst he
 have hF:headF p=true:=by
  simp only[headF,f1,f2,Bool.true_and,Bool.and_eq_true,decide_eq_true_eq]
  omega
 have hsec:1<=p.sec/\p.sec<=60:=by simpa [inB] using f1
 obtain⟨hc1,hc2⟩:=hsec
 go_wp2_with fail
 have HX:Hid (Below w.heap.size w ((w.alloc (.cells (vPl p wa wc ya yc ba bc) 37)).alloc (.cells #[.int .i64 0,.int .i64 0] 124))/\Box ((w.alloc (.cells (vPl p wa wc ya yc ba bc) 37)).alloc (.cells #[.int .i64 0,.int .i64 0] 124)) w.heap.size 37 (vPl p wa wc ya yc ba bc)/\Box ((w.alloc (.cells (vPl p wa wc ya yc ba bc) 37)).alloc (.cells #[.int .i64 0,.int .i64 0] 124)) (w.heap.size+1) 124 #[.int .i64 0,.int .i64 0]):=⟨bel2 _ _ _,(Box.new w 37 _).alloc _,by have :=Box.new (w.alloc (.cells (vPl p wa wc ya yc ba bc) 37)) 124 #[.int .i64 0,.int .i64 0];simpa using this⟩
 generalize ((w.alloc (.cells (vPl p wa wc ya yc ba bc) 37)).alloc (.cells #[.int .i64 0,.int .i64 0] 124))=W0 at HX⊢
 clear d40 d100
 have x0:=HX.out.2.1.cel 0
 obtain⟨r0,r1⟩:=HX.out.2.2.c2
 obtain⟨g0,g1⟩:=HX.out.2.2.f2
 have zr:w.heap.size+1<W0.heap.size:=HX.out.2.2.lt
 go_loop [39] (fun i=>∃q:Nat,q<=p.nw/\i=.int .i64 q/\Hid (∀i,i<q->inB (p.W i) 0 (p.sec-1)=true)) (fun i=>p.nw-(intOf i).toNat)
 case atStart=>exact⟨0,Nat.zero_le _,rfl,fun i hi=>absurd hi (Nat.not_lt_zero _)⟩
 case round=>
  obtain⟨q,hq,rfl,HQ⟩:=hrel
  by_cases hlt:q<p.nw
  ·
   obtain⟨b,off,rfl,_,hb,hc⟩:=(H.out.sw.mono nr HX.out.1 nr) (by omega)
   have c0:W0.cell? (ad b (off+q))=some (.int .i64 (p.W q)):=by have :=hc q hlt 0 (by omega);rwa [Nat.mul_one] at this
   clear hc
   have hq0:(0:Int)<=(q:Int):=by omega
   have hqn:(q:Int)<(p.nw:Int):=by omega
   go_wp2_with fail
   refine(in24 (p.W q) 0 (p.sec-1) _).mono ?_
   rintro e wx ⟨he,hwx⟩
   have hwx:=hwx.symm
   subst hwx
   cases f3:inB (p.W q) 0 (p.sec-1) with
   |false=>
    rw[f3] at he
    subst he
    go_wp2_with fail
    refine bodyPost_ret (v:=.agg #[.int .i64 2,.int .i64 q]) (by simp[results,Tryz.results72,go_sem,r0,r1]) rfl ⟨by rw[planF_2 hF HQ.out hlt f3],?_⟩
    exact(HX.out.1.setCell (by show w.heap.size<=w.heap.size+1;omega) _).setCell (by show w.heap.size<=w.heap.size+1;omega) _
   |true=>
    rw[f3] at he
    subst he
    have HQ2:Hid (∀i,i<q+1->inB (p.W i) 0 (p.sec-1)=true):=fun i hi=>by
     by_cases e:i=q
     ·
      subst e
      exact f3
     ·
      exact HQ.out i (by omega)
    go_wp2_with fail
    go_round
    case rel=>exact⟨q+1,by omega,by go_num,HQ2⟩
    case measure=>simp[intOf];omega
  ·
   obtain rfl:q=p.nw:=by omega
   have HSW:Hid (∀q,q<p.nw->inB (p.W q) 0 (p.sec-1)=true):=HQ
   have x2:=HX.out.2.1.cel 2
   go_wp2_with fail
   clear x0 x2 r0 r1 g0 g1 zr
   go_loopw [56] (fun i wr=>∃q:Nat,q<=p.ny/\i=.int .i64 q/\Hid (∀i,i<q->wayF p (p.Y i)=true)/\Hid (Below w.heap.size w wr/\Box wr w.heap.size 37 (vPl p wa wc ya yc ba bc)/\Box wr (w.heap.size+1) 124 #[.int .i64 0,.int .i64 0])) (fun i _=>p.ny-(intOf i).toNat)
   case atStart=>exact⟨0,Nat.zero_le _,rfl,fun i hi=>absurd hi (Nat.not_lt_zero _),HX⟩
   case round=>
    obtain⟨q,hq,rfl,HQ,HB⟩:=hrel
    obtain⟨r0,r1⟩:=HB.out.2.2.c2
    have zr:w.heap.size+1<wr.heap.size:=HB.out.2.2.lt
    have zp:w.heap.size<wr.heap.size:=HB.out.2.1.lt
    by_cases hlt:q<p.ny
    ·
     obtain⟨b,off,hya,_,hb,hc⟩:=(H.out.wy.mono nr HB.out.1 nr) (by omega)
     obtain⟨sa,sc,la,lc,fa,fc,oa,oc,ma,mc,c0,c1,c2,c3,c4,hin⟩:=hc q hlt
     have HIN:Hid (WyIn 0 wr (p.Y q) sa la fa oa ma):=hin
     obtain⟨xp0,xp1,xp2,xp3,xp4⟩:=HB.out.2.1.c5
     clear hc hin
     subst hya
     have hq0:(0:Int)<=(q:Int):=by omega
     have hqn:(q:Int)<(p.ny:Int):=by omega
     go_wp2_with fail
     clear c0 c1 c2 c3 c4 xp0 xp1 xp2 xp3 xp4 r0 r1
     have B1:=bel1 wr (.cells (vWy (p.Y q) sa sc la lc fa fc oa oc ma mc) 112)
     refine(way25 p _ _ _ _ _ _ (p.Y q) sa la fa oa ma sc lc fc oc mc _ hc1 hc2 s1 (HS.out.1 q hlt) ((H.out.sw.mono nr HB.out.1 nr).mono nr B1 nr) (HIN.out.mono nr B1 nr)).mono ?_
     rintro e w1 ⟨he,hb1⟩
     have B2:Below wr.heap.size wr w1:=B1.trans (hb1.mono B1.size)
     have HB1:Hid (Below w.heap.size w w1/\Box w1 w.heap.size 37 (vPl p wa wc (some (ad b off)) yc ba bc)/\Box w1 (w.heap.size+1) 124 #[.int .i64 0,.int .i64 0]):=⟨HB.out.1.trans (B2.mono HB.out.1.size),HB.out.2.1.mono B2 nr,HB.out.2.2.mono B2 nr⟩
     obtain⟨r0,r1⟩:=HB1.out.2.2.c2
     obtain⟨g0,g1⟩:=HB1.out.2.2.f2
     clear B1 B2 hb1 HIN hb
     cases f4:wayF p (p.Y q) with
     |false=>
      rw[f4] at he
      subst he
      go_wp2_with fail
      refine bodyPost_ret (v:=.agg #[.int .i64 3,.int .i64 q]) (by simp[results,Tryz.results72,go_sem,r0,r1]) rfl ⟨by rw[planF_3 hF HSW.out HQ.out hlt f4],?_⟩
      exact(HB1.out.1.setCell (by show w.heap.size<=w.heap.size+1;omega) _).setCell (by show w.heap.size<=w.heap.size+1;omega) _
     |true=>
      rw[f4] at he
      subst he
      have HQ2:Hid (∀i,i<q+1->wayF p (p.Y i)=true):=fun i hi=>by
       by_cases e:i=q
       ·
        subst e
        exact f4
       ·
        exact HQ.out i (by omega)
      clear r0 r1 g0 g1
      go_wp2_with fail
      go_roundw
      case rel=>exact⟨q+1,by omega,by go_num,HQ2,HB1⟩
      case measure=>simp[intOf];omega
    ·
     obtain rfl:q=p.ny:=by omega
     have HUP:Hid (planF p=plan4 p):=planF_up hF HSW.out HQ.out
     have x2:=HB.out.2.1.cel 2
     have x3:=HB.out.2.1.cel 3
     obtain⟨g0,g1⟩:=HB.out.2.2.f2
     have HWY:Hid (∀q,q<p.ny->wayF p (p.Y q)=true):=HQ
     clear HQ
     by_cases hnb:p.nb=p.ny
     ·
      have hbi:(p.nb:Int)=(p.ny:Int):=by omega
      have hbb:((p.nb:Int)==(p.ny:Int))=true:=by simpa using hbi
      go_wp2_with fail
      have HNB:Hid (p.nb=p.ny):=hnb
      clear x2 x3 zr zp hbi hbb hnb
      go_loop [79] (fun i=>∃q:Nat,q<=p.nb/\i=.int .i64 q/\Hid (∀i,i<q->p.K i=p.ny)) (fun i=>p.nb-(intOf i).toNat)
      case atStart=>exact⟨0,Nat.zero_le _,rfl,fun i hi=>absurd hi (Nat.not_lt_zero _)⟩
      case round=>
       obtain⟨q,hq,rfl,HQ⟩:=hrel
       by_cases hlt:q<p.nb
       ·
        obtain⟨b,off,hba,_,hb,hc⟩:=(H.out.br.mono nr HB.out.1 nr) (by omega)
        obtain⟨ra,rc,c0,_⟩:=hc q hlt
        have x2:=HB.out.2.1.cel 2
        clear hc
        subst hba
        have hq0:(0:Int)<=(q:Int):=by omega
        have hqn:(q:Int)<(p.nb:Int):=by omega
        have hqy:(q:Int)<(p.ny:Int):=by have :=HNB.out;omega
        by_cases hk:p.K q=p.ny
        ·
         have hki:(p.K q:Int)=(p.ny:Int):=by omega
         have hkb:((p.K q:Int)==(p.ny:Int))=true:=by simpa using hki
         have hkn:((p.K q:Int) !=(p.ny:Int))=false:=by simp[hki]
         have HQ2:Hid (∀i,i<q+1->p.K i=p.ny):=fun i hi=>by
          by_cases e:i=q
          ·
           subst e
           exact hk
          ·
           exact HQ.out i (by omega)
         go_wp2_with fail
         go_round
         case rel=>exact⟨q+1,by omega,by go_num,HQ2⟩
         case measure=>simp[intOf];omega
        ·
         have hki:¬(p.K q:Int)=(p.ny:Int):=by omega
         have hkb:((p.K q:Int)==(p.ny:Int))=false:=by simpa using hki
         have hkn:((p.K q:Int) !=(p.ny:Int))=true:=by simp[hki]
         go_wp2_with fail
         refine bodyPost_ret (v:=.agg #[.int .i64 4,.int .i64 q]) (by simp[results,Tryz.results72,go_sem,r0,r1]) rfl ⟨by rw[HUP.out,plan4_hit HNB.out HQ.out hlt hk],?_⟩
         exact(HB.out.1.setCell (by show w.heap.size<=w.heap.size+1;omega) _).setCell (by show w.heap.size<=w.heap.size+1;omega) _
       ·
        obtain rfl:q=p.nb:=by omega
        have HUP5:Hid (planF p=plan5 p):=HUP.out.trans (plan4_up HNB.out HQ.out)
        have HK:Hid (∀i,i<p.nb->p.K i=p.ny):=HQ
        clear HQ
        have x3:=HB.out.2.1.cel 3
        have hqe:¬(p.nb:Int)<(p.ny:Int):=by have :=HNB.out;omega
        go_wp2_with fail
        clear x3 r0 r1 g0 g1 hqe
        obtain⟨WB,hWB⟩:∃W,W=wr:=⟨wr,rfl⟩
        rw[<-hWB] at HB
        rw[<-hWB]
        clear hWB
        go_loopw [96] (fun i wr=>∃q:Nat,q<=p.nb/\i=.int .i64 q/\Hid (∀i,i<q->anyB (barF p i) (p.K i)=false)/\Hid (Below WB.heap.size WB wr)) (fun i _=>p.nb-(intOf i).toNat)
        case atStart=>exact⟨0,Nat.zero_le _,rfl,fun i hi=>absurd hi (Nat.not_lt_zero _),Below.refl _ _⟩
        case round=>
         obtain⟨q,hq,rfl,HQ,HBW⟩:=hrel
         by_cases hlt:q<p.nb
         ·
          have HBR:Hid (Below w.heap.size w wr/\Box wr w.heap.size 37 (vPl p wa wc ya yc ba bc)/\Box wr (w.heap.size+1) 124 #[.int .i64 0,.int .i64 0]):=⟨HB.out.1.trans (HBW.out.mono HB.out.1.size),HB.out.2.1.mono HBW.out nr,HB.out.2.2.mono HBW.out nr⟩
          obtain⟨b,off,hba,_,hb,hc⟩:=(H.out.br.mono nr HBR.out.1 nr) (by omega)
          obtain⟨ra,rc,c0,hrow⟩:=hc q hlt
          have HROW:Hid (VsAt 1 0 wr ra (p.K q) (boolF (p.T q))):=hrow
          clear hc hrow hb
          subst hba
          have hq0:(0:Int)<=(q:Int):=by omega
          have hqn:(q:Int)<(p.nb:Int):=by omega
          have hqy:(q:Int)<(p.ny:Int):=by have :=HNB.out;omega
          have hKs:p.K q<=1048576:=HS.out.2 q hlt
          go_wp2_with fail
          clear c0
          obtain⟨WR,hWR⟩:∃W,W=wr:=⟨wr,rfl⟩
          rw[<-hWR] at HBW HBR HROW
          rw[<-hWR]
          clear hWR
          go_loopw [103] (fun j wi=>∃r:Nat,r<=p.K q/\j=.int .i64 r/\Hid (∀k,k<r->barF p q k=false)/\Hid (Below WR.heap.size WR wi)) (fun j _=>p.K q-(intOf j).toNat)
          case atStart=>exact⟨0,Nat.zero_le _,rfl,fun i hi=>absurd hi (Nat.not_lt_zero _),Below.refl _ _⟩
          case round=>
           obtain⟨r,hr,rfl,HR,HBI⟩:=hrel
           by_cases hrk:r<p.K q
           ·
            have HBN:Hid (Below w.heap.size w wr/\Box wr w.heap.size 37 (vPl p wa wc ya yc (some (ad b off)) bc)/\Box wr (w.heap.size+1) 124 #[.int .i64 0,.int .i64 0]):=⟨HBR.out.1.trans (HBI.out.mono HBR.out.1.size),HBR.out.2.1.mono HBI.out nr,HBR.out.2.2.mono HBI.out nr⟩
            have hrn:r<p.nb:=by have h1:=HK.out q hlt;have h2:=HNB.out;omega
            have hqK:q<p.K r:=by have h1:=HK.out r hrn;have h2:=HNB.out;omega
            have hKr:p.K r<=1048576:=HS.out.2 r hrn
            obtain⟨rb,roff,hra,_,_,hcr⟩:=(HROW.out.mono nr HBI.out nr) (by omega)
            have e0:wr.cell? (ad rb (roff+r))=some (.bool (p.T q r)):=by have :=hcr r hrk 0 (by omega);rwa [Nat.mul_one] at this
            obtain⟨b2,off2,hbe,_,_,hcb⟩:=(H.out.br.mono nr HBN.out.1 nr) (by omega)
            simp only[Option.some.injEq,Addr.mk.injEq,and_true] at hbe
            obtain⟨rfl,rfl⟩:=hbe
            obtain⟨ra2,rc2,c1,hrow2⟩:=hcb r hrn
            obtain⟨rb2,roff2,hra2,_,_,hcr2⟩:=hrow2 (by omega)
            have e1:wr.cell? (ad rb2 (roff2+q))=some (.bool (p.T r q)):=by have :=hcr2 q hqK 0 (by omega);rwa [Nat.mul_one] at this
            obtain⟨yb,yoff,hya,_,_,hcy⟩:=(H.out.wy.mono nr HBN.out.1 nr) (by have :=HNB.out;omega)
            obtain⟨sa,sc,_,_,_,_,_,_,_,_,c5,_,_,_,_,hin5⟩:=hcy q (by have :=HNB.out;omega)
            obtain⟨sa2,sc2,_,_,_,_,_,_,_,_,c6,_,_,_,_,hin6⟩:=hcy r (by have :=HNB.out;omega)
            have HM:Hid (VsAt 1 0 wr sa (p.Y q).ns (oneF (p.Y q).S)/\VsAt 1 0 wr sa2 (p.Y r).ns (oneF (p.Y r).S)):=⟨hin5.s,hin6.s⟩
            have n5:=(HS.out.1 q (by have :=HNB.out;omega)).1
            have n6:=(HS.out.1 r (by have :=HNB.out;omega)).1
            clear hcr hcb hcr2 hcy hrow2 hin5 hin6
            subst hra hra2 hya
            have x2:=HBN.out.2.1.cel 2
            have x3:=HBN.out.2.1.cel 3
            obtain⟨r0,r1⟩:=HBN.out.2.2.c2
            obtain⟨g0,g1⟩:=HBN.out.2.2.f2
            have hr0:(0:Int)<=(r:Int):=by omega
            have hrk':(r:Int)<(p.K q:Int):=by omega
            have hrn':(r:Int)<(p.nb:Int):=by omega
            have hry:(r:Int)<(p.ny:Int):=by have :=HNB.out;omega
            have hqK':(q:Int)<(p.K r:Int):=by omega
            have HB5:Hid (∀v,Below w.heap.size w (((wr.drewN v).setCell (ad (w.heap.size+1) 0) (.int .i64 5)).setCell (ad (w.heap.size+1) 1) (.int .i64 (q:Int)))):=fun v=>((below_drewN HBN.out.1 v).setCell (by show w.heap.size<=w.heap.size+1;omega) _).setCell (by show w.heap.size<=w.heap.size+1;omega) _
            have HGO:Hid (barF p q r=false->∀k,k<r+1->barF p q k=false):=fun h k hk=>by
             by_cases e:k=r
             ·
              subst e
              exact h
             ·
              exact HR.out k (by omega)
            have HHIT:Hid (barF p q r=true->planF p=(5,(q:Int))):=fun h=>by
             rw[HUP5.out,plan5_hit HQ.out hlt (anyB_yes hrk h)]
            cases hx:p.T q r with
            |true=>
             rw[hx] at e0
             cases hy:p.T r q with
             |true=>
              rw[hy] at e1
              by_cases hqr:q=r
              ·
               subst hqr
               go_wp2_with fail
               go_quiet (fail)
               go_wp2_with fail
               go_roundw
               case rel=>exact⟨q+1,by omega,by go_num,HGO.out (by simp[barF,hx]),below_drewN HBI.out _⟩
               case measure=>simp[intOf];omega
              ·
               have hqi:¬(q:Int)=(r:Int):=by omega
               have hqd:((q:Int)==(r:Int))=false:=by simpa using hqi
               have hqe:((q:Int) !=(r:Int))=true:=by simpa using hqi
               go_wp2_with fail
               go_quiet (fail)
               go_wp2_with fail
               go_roundw
               case rel=>exact⟨r+1,by omega,by go_num,HGO.out (by simp[barF,hx,hy]),below_drewN HBI.out _⟩
               case measure=>simp[intOf];omega
             |false=>
              rw[hy] at e1
              go_wp2_with fail
              go_quiet (fail)
              go_wp2_with fail
              refine bodyPost_ret (v:=.agg #[.int .i64 5,.int .i64 q]) (by simp[results,Tryz.results72,go_sem,r0,r1]) rfl ⟨by rw[HHIT.out (by simp[barF,hx,hy])],?_⟩
              exact HB5.out _
            |false=>
             rw[hx] at e0
             cases hy:p.T r q with
             |true=>
              rw[hy] at e1
              go_wp2_with fail
              go_quiet (fail)
              go_wp2_with fail
              refine bodyPost_ret (v:=.agg #[.int .i64 5,.int .i64 q]) (by simp[results,Tryz.results72,go_sem,r0,r1]) rfl ⟨by rw[HHIT.out (by simp[barF,hx,hy])],?_⟩
              exact HB5.out _
             |false=>
              rw[hy] at e1
              by_cases hqr:q=r
              ·
               subst hqr
               go_wp2_with fail
               go_quiet (fail)
               go_wp2_with fail
               go_roundw
               case rel=>exact⟨q+1,by omega,by go_num,HGO.out (by simp[barF,hx]),below_drewN HBI.out _⟩
               case measure=>simp[intOf];omega
              ·
               have hqi:¬(q:Int)=(r:Int):=by omega
               have hqd:((q:Int)==(r:Int))=false:=by simpa using hqi
               have hqe:((q:Int) !=(r:Int))=true:=by simpa using hqi
               go_wp2_with fail
               go_quiet ((go_at_call 102;exact Calls.quiet_of_same (meet26 sa sa2 (p.Y q).ns (p.Y r).ns sc sc2 (p.Y q).S (p.Y r).S _ (by omega) (by omega) (by exact HM.out.1) (by exact HM.out.2))))
               cases hm:meetF (p.Y q).S (p.Y q).ns (p.Y r).S (p.Y r).ns with
               |true=>
                go_wp2_with fail
                refine bodyPost_ret (v:=.agg #[.int .i64 5,.int .i64 q]) (by simp[results,Tryz.results72,go_sem,r0,r1]) rfl ⟨by rw[HHIT.out (by simp[barF,hx,hy,hqr,hm])],?_⟩
                exact HB5.out _
               |false=>
                go_wp2_with fail
                go_roundw
                case rel=>exact⟨r+1,by omega,by go_num,HGO.out (by simp[barF,hx,hy,hm]),below_drewN HBI.out _⟩
                case measure=>simp[intOf];omega
           ·
            obtain rfl:r=p.K q:=by omega
            have HQ2:Hid (∀i,i<q+1->anyB (barF p i) (p.K i)=false):=fun i hi=>by
             by_cases e:i=q
             ·
              subst e
              exact anyB_no HR.out
             ·
              exact HQ.out i (by omega)
            go_wp2_with fail
            go_roundw
            case rel=>exact⟨q+1,by omega,by go_num,HQ2,HBW.out.trans (HBI.out.mono HBW.out.size)⟩
            case measure=>simp[intOf];omega
         ·
          obtain rfl:q=p.nb:=by omega
          have HBR:Hid (Below w.heap.size w wr/\Box wr w.heap.size 37 (vPl p wa wc ya yc ba bc)/\Box wr (w.heap.size+1) 124 #[.int .i64 0,.int .i64 0]):=⟨HB.out.1.trans (HBW.out.mono HB.out.1.size),HB.out.2.1.mono HBW.out nr,HB.out.2.2.mono HBW.out nr⟩
          obtain⟨r0,r1⟩:=HBR.out.2.2.c2
          obtain⟨g0,g1⟩:=HBR.out.2.2.f2
          go_wp2_with fail
          refine bodyPost_ret (v:=.agg #[.int .i64 0,.int .i64 0]) (by simp[results,Tryz.results72,go_sem,r0,r1]) rfl ⟨by rw[HUP5.out,plan5_no HQ.out],?_⟩
          exact(HBR.out.1.setCell (by show w.heap.size<=w.heap.size+1;omega) _).setCell (by show w.heap.size<=w.heap.size+1;omega) _
     ·
      have hbi:¬(p.nb:Int)=(p.ny:Int):=by omega
      have hbb:((p.nb:Int)==(p.ny:Int))=false:=by simpa using hbi
      go_wp2_with fail
      refine bodyPost_ret (v:=.agg #[.int .i64 4,.int .i64 0]) (by simp[results,Tryz.results72,go_sem,r0,r1]) rfl ⟨by rw[HUP.out,plan4_no hnb],?_⟩
      exact(HB.out.1.setCell (by show w.heap.size<=w.heap.size+1;omega) _).setCell (by show w.heap.size<=w.heap.size+1;omega) _
end Go.Proofs.YtkeilejbelblcaaGreatDoor
