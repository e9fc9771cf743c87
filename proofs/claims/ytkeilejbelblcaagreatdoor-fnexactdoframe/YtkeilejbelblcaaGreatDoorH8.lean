import Derived.Test.YtkeilejbelblcaaGreatDoorJaj
import Derived.Deep.RegionHeld3
namespace Go.Proofs.YtkeilejbelblcaaGreatDoor
open Go.RowKit
def StM (p:Pl) (f:Fm) (wa ya ba oa pa:Option Addr) (wc yc bc oc pc hc fb hb:Nat) (wz w:World) (q:Nat) (wr:World):Prop:=
 ∃r rc:Nat->Nat,FMem wz.heap.size wr fb hb f.ok oa f.no oc f.O pa f.np pc f.P f.nh hc (fun i=>if i<q then setH (vwOf (p.Y i) f.O f.P) (f.Y i) else f.Y i) r rc/\Box wr w.heap.size 37 (vPl p wa wc ya yc ba bc)/\(∀i,i<f.nh->w.heap.size≠r i)/\Below wz.heap.size wz wr/\Below wz.heap.size w wr
def SetR (p:Pl) (f:Fm) (oa pa:Option Addr) (oc pc hc fb hb:Nat) (wz w:World) (e:Ending) (w':World):Prop:=
 ∃r rc:Nat->Nat,e=.returned (.tuple #[])/\FMem wz.heap.size w' fb hb f.ok oa f.no oc f.O pa f.np pc f.P f.nh hc (fun i=>setH (vwOf (p.Y i) f.O f.P) (f.Y i)) r rc/\Below wz.heap.size w w'
theorem heldB_parts {h:Hl}{n:Nat}{hold:Int}(hk:heldB h n hold=true):0<=h.st/\h.st<=4/\h.nb=n/\(∃g:Nat,h.gone=(g:Int)/\g<n)/\(h.st≠3->h.timer=0):=by
 simp only[heldB,Bool.and_eq_true,Bool.or_eq_true,decide_eq_true_eq,inB] at hk
 obtain⟨⟨⟨k1,k2⟩,k3,k4,k5⟩,_,_,k8⟩:=hk
 refine⟨k1,k2,k3,⟨h.gone.toNat,by omega,by omega⟩,fun e=>?_⟩
 rw[if_neg e] at k8
 simp only[Bool.and_eq_true,decide_eq_true_eq] at k8
 exact k8.1
set_option maxRecDepth 100000 in
set_option maxHeartbeats 16000000 in
theorem settle34 (p:Pl) (f:Fm) (wa ya ba oa pa:Option Addr) (wc yc bc oc pc hc fb hb:Nat) (r rc:Nat->Nat) (wz w:World) (hs:p.small) (hfo:f.no<=1048576) (hfp:f.np<=1048576) (hnh:Hid (f.nh=p.ny)) (hh:FMem wz.heap.size w fb hb f.ok oa f.no oc f.O pa f.np pc f.P f.nh hc f.Y r rc)
  (hin:∀i,i<f.nh->(p.Y i).In f.no f.np/\heldB (f.Y i) (p.Y i).ns p.hold=true) (hP:PlIn 0 wz p wa ya ba) (hB:Below wz.heap.size wz w):
  Calls Tryz.prog 34 #[.agg #[.int .i64 p.sec,.slice wa p.nw wc,.slice ya p.ny yc,.slice ba p.nb bc,.int .i64 p.hold],.pointer (some (ad fb 0))] w fun e w'=>SetR p f oa pa oc pc hc fb hb wz w e w':=by
 have HS:Hid p.small:=hs
 have hnl:f.nh<=1048576:=by have :=hs.2.1;have :=hnh.out;omega
 have HIN:Hid (∀i,i<f.nh->(p.Y i).In f.no f.np/\heldB (f.Y i) (p.Y i).ns p.hold=true):=hin
 have HP:Hid (PlIn 0 wz p wa ya ba):=hP
 have H0:Hid (StM p f wa ya ba oa pa wc yc bc oc pc hc fb hb wz w 0 (w.alloc (.cells (vPl p wa wc ya yc ba bc) 37))):=⟨r,rc,(hh.mono (bel1 _ _)).congr fun i _=>by simpa using likeH.refl _,Box.new _ _ _,fun i hi=>by have :=(hh.h i hi).rl;omega,hB.alloc hB.size _,(Below.refl _ _).alloc hB.size _⟩
 have HHX:Hid (hb<w.heap.size\/f.nh=0):=by
  by_cases c:f.nh=0
  ·
   exact .inr c
  ·
   exact .inl (hh.h 0 (by omega)).lt
 have f3:=hh.bx.cel 3
 have hfl:fb<w.heap.size:=hh.bx.lt
 clear hs hh hin hP hB
 go_enter Tryz.func34,Tryz.ntmps34
 go_wp2_with fail
 clear f3 hfl
 generalize w.alloc (.cells (vPl p wa wc ya yc ba bc) 37)=W at H0⊢
 go_loopw [12] (fun i wr=>∃q:Nat,q<=f.nh/\i=.int .i64 q/\Hid (StM p f wa ya ba oa pa wc yc bc oc pc hc fb hb wz w q wr)) (fun i _=>f.nh-(intOf i).toNat)
 case atStart=>exact⟨0,Nat.zero_le _,rfl,H0⟩
 case round=>
  obtain⟨q,hq,rfl,HQ⟩:=hrel
  by_cases hlt:q<f.nh
  ·
   have HHS:Hid (w.heap.size≠hb):=by have h1:=HHX.out;rw[Hid];omega
   obtain⟨r,rc,hM,hX,hrs,hbz,hbw⟩:=HQ.out
   obtain⟨b,off,hya,_,hb0,hcy⟩:=HP.out.wy (by have :=hnh.out;omega)
   obtain⟨sa,sc,la,lc,fa,fc,va,vc,ma,mc,x0,x1,x2,x3,x4,hy⟩:=hcy q (by have :=hnh.out;omega)
   subst hya
   have hysm:=HS.out.2.2.1 q (by have :=hnh.out;omega)
   obtain⟨hyi,hhd⟩:=HIN.out q hlt
   have HV0:Hid (vwOf (p.Y q) f.O f.P=vwOf (p.Y q) f.O f.P):=rfl
   obtain⟨y,HYe⟩:∃y,Hid (p.Y q=y):=⟨_,rfl⟩
   rw[HYe.out] at x0 x1 x2 x3 x4 hy hysm hyi hhd
   have hA:=hM.h q hlt
   simp only[Nat.lt_irrefl,if_false] at hA
   obtain⟨st1,st2,hnb,⟨g,hg,hgn⟩,htm⟩:=heldB_parts hhd
   obtain⟨hh,HHe⟩:∃hh,Hid (f.Y q=hh):=⟨_,rfl⟩
   rw[HHe.out] at hA hhd st1 st2 hnb hg htm
   obtain⟨st,gone,nb,B,sh,t⟩:=hh
   dsimp only at st1 st2 hnb hg htm
   subst hg
   subst hnb
   have hwl:wz.heap.size<=wr.heap.size:=hbz.size
   have hxl:=hX.lt
   have hX0:=hX
   have bV:=bel1 wr (.cells (vWy y sa sc la lc fa fc va vc ma mc) 112)
   have y0:=cell_keep hbz hb0 x0
   have y1:=cell_keep hbz hb0 x1
   have y2:=cell_keep hbz hb0 x2
   have y3:=cell_keep hbz hb0 x3
   have y4:=cell_keep hbz hb0 x4
   have HBV:Hid (Below wz.heap.size wz (wr.alloc (.cells (vWy y sa sc la lc fa fc va vc ma mc) 112))/\Below wz.heap.size w (wr.alloc (.cells (vWy y sa sc la lc fa fc va vc ma mc) 112))/\wz.heap.size<=hb/\wz.heap.size<=r q):=⟨hbz.alloc hwl _,hbw.alloc hwl _,hM.mh,hM.mr q hlt⟩
   have HA:Hid (HAt (wr.alloc (.cells (vWy y sa sc la lc fa fc va vc ma mc) 112)) hb (q*5) ⟨st,(g:Int),y.ns,B,sh,t⟩ (r q) (rc q)):=hA.mono bV
   have HN:Hid (w.heap.size≠hb/\w.heap.size≠r q/\fb≠hb/\fb≠r q/\wr.heap.size≠hb/\wr.heap.size≠r q/\w.heap.size<(wr.alloc (.cells (vWy y sa sc la lc fa fc va vc ma mc) 112)).heap.size):=⟨HHS.out,hrs q hlt,hM.fh,hM.fr q hlt,by have :=hA.lt;omega,by have :=hA.rl;omega,by simp;omega⟩
   have HV:Hid (Box (wr.alloc (.cells (vWy y sa sc la lc fa fc va vc ma mc) 112)) wr.heap.size 112 (vWy y sa sc la lc fa fc va vc ma mc)/\Box (wr.alloc (.cells (vWy y sa sc la lc fa fc va vc ma mc) 112)) w.heap.size 37 (vPl p wa wc (some (ad b off)) yc ba bc)/\Box (wr.alloc (.cells (vWy y sa sc la lc fa fc va vc ma mc) 112)) fb 42 (vFr f oa oc pa pc (some (ad hb 0)) hc)):=⟨Box.new _ _ _,hX.alloc _,hM.bx.alloc _⟩
   have HFIN:Hid (∀(wf:World) (k:Hl) (r' rc':Nat),Chg hb (q*5) (q*5+5) (r q) (wr.alloc (.cells (vWy y sa sc la lc fa fc va vc ma mc) 112)) wf->HAt wf hb (q*5) k r' rc'->(r'=r q\/(wr.alloc (.cells (vWy y sa sc la lc fa fc va vc ma mc) 112)).heap.size<=r')->likeH k (setH (vwOf y f.O f.P) ⟨st,(g:Int),y.ns,B,sh,t⟩)->StM p f wa (some (ad b off)) ba oa pa wc yc bc oc pc hc fb hb wz w (q+1) wf):=by
    intro wf k r' rc' hC hA' hr hk
    have hst:=(hM.mono bV).step hlt (by simp only[World.size_alloc];omega) hC hA' hr
    refine⟨updN r q r',updN rc q rc',hst.congr fun i hi=>?_,(hX.alloc _).chg hC HHS.out (hrs q hlt),fun i hi=>?_,HBV.out.1.trans (hC.below HBV.out.1.size HBV.out.2.2.1 HBV.out.2.2.2),HBV.out.2.1.trans (hC.below HBV.out.1.size HBV.out.2.2.1 HBV.out.2.2.2)⟩
    ·
     by_cases c:i=q
     ·
      subst c
      rw[updN_same]
      simp only[Nat.lt_succ_self,if_true]
      rw[HYe.out,HHe.out]
      exact hk
     ·
      rw[updN_ne c]
      by_cases c2:i<q
      ·
       have :i<q+1:=by omega
       simp only[c2,this,if_true]
       exact likeH.refl _
      ·
       have :¬i<q+1:=by omega
       simp only[c2,this,if_false]
       exact likeH.refl _
    ·
     by_cases c:i=q
     ·
      subst c
      rw[updN_same]
      rcases hr with hr|hr
      ·
       rw[hr]
       exact hrs i hi
      ·
       simp only[World.size_alloc] at hr
       omega
     ·
      rw[updN_ne c]
      exact hrs i hi
   have HPRE:Hid (∀V2,Chg hb (q*5) (q*5+5) (r q) (wr.alloc (.cells (vWy y sa sc la lc fa fc va vc ma mc) 112)) V2->PlIn 0 V2 p wa (some (ad b off)) ba/\WyIn 0 V2 y sa la fa va ma/\VsAt 1 0 V2 oa f.no (boolF f.O)/\VsAt 2 0 V2 pa f.np (intF f.P)/\Box V2 fb 42 (vFr f oa oc pa pc (some (ad hb 0)) hc)/\Box V2 w.heap.size 37 (vPl p wa wc (some (ad b off)) yc ba bc)/\Box V2 wr.heap.size 112 (vWy y sa sc la lc fa fc va vc ma mc)):=by
    intro V2 hC
    have hB2:=HBV.out.1.trans (hC.below HBV.out.1.size HBV.out.2.2.1 HBV.out.2.2.2)
    have hM2:=hM.mono bV
    exact⟨HP.out.mono nr hB2 nr,hy.mono nr hB2 nr,hM2.o.chg hC (hM.oo q hlt),hM2.p.chg hC (hM.pp q hlt),HV.out.2.2.chg hC HN.out.2.2.1 HN.out.2.2.2.1,HV.out.2.1.chg hC HN.out.1 HN.out.2.1,HV.out.1.chg hC HN.out.2.2.2.2.1 HN.out.2.2.2.2.2.1⟩
   have HPASS:Hid (∀V2,Chg hb (q*5) (q*5+5) (r q) (wr.alloc (.cells (vWy y sa sc la lc fa fc va vc ma mc) 112)) V2->HAt V2 hb (q*5) ⟨4,(g:Int),y.ns,B,sh,0⟩ (r q) (rc q)->(setH (vwOf y f.O f.P) ⟨st,(g:Int),y.ns,B,sh,t⟩=useH (vwOf y f.O f.P) ⟨4,(g:Int),y.ns,B,sh,0⟩)->Calls Tryz.prog 73 #[.agg #[.slice sa y.ns sc,.slice la y.nl lc,.slice fa y.nf fc,.slice va y.no vc,.slice ma y.nm mc],.pointer (some (ad fb 0)),.pointer (some (ad hb (q*5)))] V2 fun e w'=>e=.returned (.tuple #[])/\StM p f wa (some (ad b off)) ba oa pa wc yc bc oc pc hc fb hb wz w (q+1) w'):=by
    intro V2 hC hA2 hset
    obtain⟨q1,q2,q3,q4,q5,q6,q7⟩:=HPRE.out V2 hC
    have hsoff:OffV y.ns sa hb (r q):=fun h0 b' off' e=>by
     obtain⟨b2,off2,e2,_,hlt2,_⟩:=hy.s h0
     rw[e] at e2
     simp only[Option.some.injEq,Addr.mk.injEq] at e2
     have :=HBV.out.2.2
     omega
    refine(pass74 y sa la fa va ma oa sc lc fc vc mc oc fb hb (q*5) f.no f.O sh B g (r q) (rc q) V2 (by have :=hysm.1;omega) hfo hyi.s hgn q2.s hsoff (q5.cell 1) q5.lt ⟨HN.out.2.2.1,HN.out.2.2.2.1⟩ q3 (hM.oo q hlt) hA2).mono ?_
    rintro e w' ⟨r',rc',he,hA3,hr3,hC3⟩
    refine⟨he,HFIN.out w' _ r' rc' (hC.trans hC3) hA3 ?_ ?_⟩
    ·
     rcases hr3 with h|h
     ·
      exact .inl h
     ·
      exact .inr (Nat.le_trans hC.size h)
    ·
     rw[hset]
     exact likeH.refl _
   have HPRV:Hid (∀V2,Chg hb (q*5) (q*5+5) (r q) (wr.alloc (.cells (vWy y sa sc la lc fa fc va vc ma mc) 112)) V2->Calls Tryz.prog 66 #[.agg #[.int .i64 p.sec,.slice wa p.nw wc,.slice (some (ad b off)) p.ny yc,.slice ba p.nb bc,.int .i64 p.hold],.agg #[.bool f.ok,.slice oa f.no oc,.slice pa f.np pc,.slice (some (ad hb 0)) f.nh hc],.int .i64 (q:Int)] V2 fun e w'=>e=.returned (.bool (prvB y f.O f.P))/\Below V2.heap.size V2 w'):=by
    intro V2 hC
    obtain⟨q1,q2,q3,q4,q5,q6,q7⟩:=HPRE.out V2 hC
    have :=proved67 p f wa (some (ad b off)) ba oa pa (some (ad hb 0)) wc yc bc oc pc hc q V2 HS.out hfo hfp (by have :=hnh.out;omega) (by rw[HYe.out];exact hyi) q1 q3 q4
    rw[HYe.out] at this
    exact this
   have v2:=hX.cel 2
   have f3:=hM.bx.cel 3
   have c0:=hA.c0
   have hhl:hb<wr.heap.size:=hA.lt
   have hbl:b<wr.heap.size:=by omega
   have hq0:(0:Int)<=(q:Int):=by omega
   have hqn:(q:Int)<(f.nh:Int):=by omega
   have hqp:(q:Int)<(p.ny:Int):=by have :=hnh.out;omega
   obtain⟨o,hoS,hon⟩:=hyi.s 0 (by omega)
   have HO:Hid (y.ns<=1048576/\1<=y.ns/\vwOf y f.O f.P=⟨y.ns,fun k=>f.O (y.S k).toNat,prvB y f.O f.P⟩/\f.O (y.S 0).toNat=f.O o):=⟨by have :=hysm.1;omega,by omega,rfl,by rw[hoS];simp⟩
   clear hcy x0 x1 x2 x3 x4 hX hX0 bV hM hrs hbz hbw hA hhd hy
   rcases(show st=0\/st=1\/st=2\/st=3\/st=4 by omega) with e|e|e|e|e
   ·
    subst e
    have HF:Hid (StM p f wa (some (ad b off)) ba oa pa wc yc bc oc pc hc fb hb wz w (q+1) (wr.alloc (.cells (vWy y sa sc la lc fa fc va vc ma mc) 112))):=HFIN.out _ _ _ _ (Chg.refl _ _ _ _ _) HA.out (.inl rfl) (likeH.refl _)
    go_wp2_with fail
    go_roundw
    case rel=>exact⟨q+1,by omega,by go_num,HF⟩
    case measure=>simp[intOf];omega
   ·
    subst e
    go_wp2_with fail
    generalize (wr.alloc (.cells (vWy y sa sc la lc fa fc va vc ma mc) 112))=V at HA HN HV HFIN HPRE HPASS HPRV HBV⊢
    have e0:=HA.out.c0
    have e4:=HA.out.c4
    have g0:V.frozen? (ad hb (q*5))=false:=HA.out.fr 0 (by omega)
    have g3:V.frozen? (ad hb (q*5+3))=false:=HA.out.fr 3 (by omega)
    have g4:V.frozen? (ad hb (q*5+4))=false:=HA.out.fr 4 (by omega)
    have e3:=HA.out.c3
    obtain⟨z0,z1,z2,z3,z4⟩:=HV.out.1.c5
    have w1:=HV.out.2.2.cel 1
    obtain⟨q1,q2,q3,q4,q5,q6,q7⟩:=HPRE.out V (Chg.refl _ _ _ _ _)
    obtain⟨gb,go,rfl,_,hgb,hgc⟩:=q2.s (by have :=HO.out.2.1;omega)
    obtain⟨pb,po,rfl,_,hpb,hpc⟩:=q3 (by omega)
    have s0:V.cell? (ad gb go)=some (.int .i64 (o:Int)):=by rw[<-hoS];exact hgc 0 (by have :=HO.out.2.1;omega) 0 (by omega)
    have o0:V.cell? (ad pb (po+o))=some (.bool (f.O o)):=by have :=hpc o hon 0 (by omega);rwa [Nat.mul_one] at this
    clear q1 q2 q4 q5 q6 q7 hgc hpc
    have ho0:(0:Int)<=(o:Int):=by omega
    have hon':(o:Int)<(f.no:Int):=by omega
    have hns0:(0:Int)<(y.ns:Int):=by have :=HO.out.2.1;omega
    cases hOq:f.O o with
    |true=>
     rw[hOq] at o0
     go_quiet (fail)
     clear s0 o0
     have HA2:Hid (HAt (V.drewN nq) hb (q*5) ⟨1,(g:Int),y.ns,B,sh,t⟩ (r q) (rc q)/\Chg hb (q*5) (q*5+5) (r q) V (V.drewN nq)):=⟨HA.out.drewN _,(Chg.refl _ _ _ _ _).drewN _⟩
     generalize V.drewN nq=V2 at HA2⊢
     clear e0 e3 e4 g0 g3 g4 z0 z1 z2 z3 z4 w1
     have e0:=HA2.out.1.c0
     have e4:=HA2.out.1.c4
     have g0:V2.frozen? (ad hb (q*5))=false:=HA2.out.1.fr 0 (by omega)
     have g4:V2.frozen? (ad hb (q*5+4))=false:=HA2.out.1.fr 4 (by omega)
     have hyn:wr.heap.size≠hb:=HN.out.2.2.2.2.1
     have HBX:Hid (Box V2 wr.heap.size 112 (vWy y (some (ad gb go)) sc la lc fa fc va vc ma mc)):=(HPRE.out V2 HA2.out.2).2.2.2.2.2.2
     obtain⟨z0,z1,z2,z3,z4⟩:=HBX.out.c5
     go_wp2_with fail
     have HA3:Hid (HAt ((V2.setCell (ad hb (q*5)) (.int .i64 4)).setCell (ad hb (q*5+4)) (.int .i64 0)) hb (q*5) ⟨4,(g:Int),y.ns,B,sh,0⟩ (r q) (rc q)/\Chg hb (q*5) (q*5+5) (r q) V ((V2.setCell (ad hb (q*5)) (.int .i64 4)).setCell (ad hb (q*5+4)) (.int .i64 0))):=⟨(HA2.out.1.setSt 4).setTimer 0,(HA2.out.2.set (by omega) (by omega) _).set (by omega) (by omega) _⟩
     refine(HPASS.out _ HA3.out.2 HA3.out.1 (by rw[setH,if_neg (by simp),if_pos ⟨by simp,by show f.O (y.S 0).toNat=true;rw[HO.out.2.2.2,hOq]⟩];rfl)).mono ?_
     rintro e w2 ⟨he,hS⟩
     have HF:Hid (StM p f wa (some (ad b off)) ba (some (ad pb po)) pa wc yc bc oc pc hc fb hb wz w (q+1) w2):=hS
     subst he
     go_wp2_with fail
     go_roundw
     case rel=>exact⟨q+1,by omega,by go_num,HF⟩
     case measure=>simp[intOf];omega
    |false=>
     rw[hOq] at o0
     go_quiet (fail)
     clear s0 o0
     have hv0:¬((vwOf y f.O f.P).O 0=true):=by show¬(f.O (y.S 0).toNat=true);rw[HO.out.2.2.2,hOq];simp
     have HA2:Hid (HAt (V.drewN nq) hb (q*5) ⟨1,(g:Int),y.ns,B,sh,t⟩ (r q) (rc q)/\Chg hb (q*5) (q*5+5) (r q) V (V.drewN nq)):=⟨HA.out.drewN _,(Chg.refl _ _ _ _ _).drewN _⟩
     generalize V.drewN nq=V2 at HA2⊢
     clear e0 e3 e4 g0 g3 g4 z0 z1 z2 z3 z4 w1
     have e0:=HA2.out.1.c0
     have e4:=HA2.out.1.c4
     have g0:V2.frozen? (ad hb (q*5))=false:=HA2.out.1.fr 0 (by omega)
     have g4:V2.frozen? (ad hb (q*5+4))=false:=HA2.out.1.fr 4 (by omega)
     have hyn:wr.heap.size≠hb:=HN.out.2.2.2.2.1
     have HBX:Hid (Box V2 wr.heap.size 112 (vWy y (some (ad gb go)) sc la lc fa fc va vc ma mc)):=(HPRE.out V2 HA2.out.2).2.2.2.2.2.2
     obtain⟨z0,z1,z2,z3,z4⟩:=HBX.out.c5
     go_wp2_with fail
     have HA3:Hid (HAt (V2.setCell (ad hb (q*5)) (.int .i64 1)) hb (q*5) ⟨1,(g:Int),y.ns,B,sh,t⟩ (r q) (rc q)/\Chg hb (q*5) (q*5+5) (r q) V (V2.setCell (ad hb (q*5)) (.int .i64 1))):=⟨HA2.out.1.setSt 1,HA2.out.2.set (by omega) (by omega) _⟩
     generalize (V2.setCell (ad hb (q*5)) (.int .i64 1))=V3 at HA3⊢
     clear f3
     obtain⟨q1,q2,q3',q4,q5,q6,q7⟩:=HPRE.out V3 HA3.out.2
     obtain⟨p0,p1,p2,p3,p4⟩:=q6.c5
     obtain⟨f0,f1,f2,f3⟩:=q5.c4
     have zp:w.heap.size<V3.heap.size:=q6.lt
     have zf:fb<V3.heap.size:=q5.lt
     clear q1 q2 q3' q4 q5 q6 q7
     go_region_held3 (fun w'=>w'.cell? (ad w.heap.size 0)=some (.int .i64 p.sec)/\w'.cell? (ad w.heap.size 1)=some (.slice wa p.nw wc)/\w'.cell? (ad w.heap.size 2)=some (.slice (some (ad b off)) p.ny yc)/\w'.cell? (ad w.heap.size 3)=some (.slice ba p.nb bc)/\w'.cell? (ad w.heap.size 4)=some (.int .i64 p.hold)/\w'.cell? (ad fb 0)=some (.bool f.ok)/\w'.cell? (ad fb 1)=some (.slice (some (ad pb po)) f.no oc)/\w'.cell? (ad fb 2)=some (.slice pa f.np pc)/\w'.cell? (ad fb 3)=some (.slice (some (ad hb 0)) f.nh hc)) (go_keep) (first
      |(go_at_call 66;refine(HPRV.out _ (HA3.out.2.drewN 1)).mono ?_;rintro e w3 ⟨rfl,hb3⟩;have kp0:w3.cell? (ad w.heap.size 0)=some (.int .i64 p.sec):=cell_keep hb3 zp p0;have kp1:w3.cell? (ad w.heap.size 1)=some (.slice wa p.nw wc):=cell_keep hb3 zp p1;have kp2:w3.cell? (ad w.heap.size 2)=some (.slice (some (ad b off)) p.ny yc):=cell_keep hb3 zp p2;have kp3:w3.cell? (ad w.heap.size 3)=some (.slice ba p.nb bc):=cell_keep hb3 zp p3;have kp4:w3.cell? (ad w.heap.size 4)=some (.int .i64 p.hold):=cell_keep hb3 zp p4;have kf0:w3.cell? (ad fb 0)=some (.bool f.ok):=cell_keep hb3 zf f0;have kf1:w3.cell? (ad fb 1)=some (.slice (some (ad pb po)) f.no oc):=cell_keep hb3 zf f1;have kf2:w3.cell? (ad fb 2)=some (.slice pa f.np pc):=cell_keep hb3 zf f2;have kf3:w3.cell? (ad fb 3)=some (.slice (some (ad hb 0)) f.nh hc):=cell_keep hb3 zf f3))
     have HA4:Hid (HAt w3 hb (q*5) ⟨1,(g:Int),y.ns,B,sh,t⟩ (r q) (rc q)/\Chg hb (q*5) (q*5+5) (r q) V w3):=⟨(HA3.out.1.drewN 1).mono hb3,(HA3.out.2.drewN 1).trans (Chg.of_below hb3 HA3.out.1.lt)⟩
     clear kp0 kp1 kp2 kp3 kp4 kf0 kf1 kf2 kf3 p0 p1 p2 p3 p4 f0 f1 f2 f3 hb3 zp zf e0 e4 g0 g4 z0 z1 z2 z3 z4
     have e0:=HA4.out.1.c0
     have e3:=HA4.out.1.c3
     have g0:w3.frozen? (ad hb (q*5))=false:=HA4.out.1.fr 0 (by omega)
     have g3:w3.frozen? (ad hb (q*5+3))=false:=HA4.out.1.fr 3 (by omega)
     cases hpv:prvB y f.O f.P with
     |true=>
      have HF:Hid (StM p f wa (some (ad b off)) ba (some (ad pb po)) pa wc yc bc oc pc hc fb hb wz w (q+1) ((w3.setCell (ad hb (q*5)) (.int .i64 2)).setCell (ad hb (q*5+3)) (.bool true))):=HFIN.out _ _ _ _ ((HA4.out.2.set (by omega) (by omega) _).set (by omega) (by omega) _) ((HA4.out.1.setSt 2).setShown true) (.inl rfl) (by
       rw[setH,if_neg (by simp),if_neg (fun x=>hv0 x.2),if_pos (by simp),if_pos (show(vwOf y f.O f.P).prv=true from hpv)]
       exact likeH.refl _)
      go_wp2_with fail
      go_roundw
      case rel=>exact⟨q+1,by omega,by go_num,HF⟩
      case measure=>simp[intOf];omega
     |false=>
      have HF:Hid (StM p f wa (some (ad b off)) ba (some (ad pb po)) pa wc yc bc oc pc hc fb hb wz w (q+1) w3):=HFIN.out _ _ _ _ HA4.out.2 HA4.out.1 (.inl rfl) (by
       rw[setH,if_neg (by simp),if_neg (fun x=>hv0 x.2),if_pos (by simp),if_neg (show¬((vwOf y f.O f.P).prv=true) from by show¬(prvB y f.O f.P=true);rw[hpv];simp)]
       exact likeH.refl _)
      go_wp2_with fail
      go_roundw
      case rel=>exact⟨q+1,by omega,by go_num,HF⟩
      case measure=>simp[intOf];omega
   ·
    subst e
    go_wp2_with fail
    generalize (wr.alloc (.cells (vWy y sa sc la lc fa fc va vc ma mc) 112))=V at HA HN HV HFIN HPRE HPASS HPRV HBV⊢
    have e0:=HA.out.c0
    have e4:=HA.out.c4
    have g0:V.frozen? (ad hb (q*5))=false:=HA.out.fr 0 (by omega)
    have g3:V.frozen? (ad hb (q*5+3))=false:=HA.out.fr 3 (by omega)
    have g4:V.frozen? (ad hb (q*5+4))=false:=HA.out.fr 4 (by omega)
    have e3:=HA.out.c3
    obtain⟨z0,z1,z2,z3,z4⟩:=HV.out.1.c5
    have w1:=HV.out.2.2.cel 1
    obtain⟨q1,q2,q3,q4,q5,q6,q7⟩:=HPRE.out V (Chg.refl _ _ _ _ _)
    obtain⟨gb,go,rfl,_,hgb,hgc⟩:=q2.s (by have :=HO.out.2.1;omega)
    obtain⟨pb,po,rfl,_,hpb,hpc⟩:=q3 (by omega)
    have s0:V.cell? (ad gb go)=some (.int .i64 (o:Int)):=by rw[<-hoS];exact hgc 0 (by have :=HO.out.2.1;omega) 0 (by omega)
    have o0:V.cell? (ad pb (po+o))=some (.bool (f.O o)):=by have :=hpc o hon 0 (by omega);rwa [Nat.mul_one] at this
    clear q1 q2 q4 q5 q6 q7 hgc hpc
    have ho0:(0:Int)<=(o:Int):=by omega
    have hon':(o:Int)<(f.no:Int):=by omega
    have hns0:(0:Int)<(y.ns:Int):=by have :=HO.out.2.1;omega
    cases hOq:f.O o with
    |true=>
     rw[hOq] at o0
     go_quiet (fail)
     clear s0 o0
     have HA2:Hid (HAt (V.drewN nq) hb (q*5) ⟨2,(g:Int),y.ns,B,sh,t⟩ (r q) (rc q)/\Chg hb (q*5) (q*5+5) (r q) V (V.drewN nq)):=⟨HA.out.drewN _,(Chg.refl _ _ _ _ _).drewN _⟩
     generalize V.drewN nq=V2 at HA2⊢
     clear e0 e3 e4 g0 g3 g4 z0 z1 z2 z3 z4 w1
     have e0:=HA2.out.1.c0
     have e4:=HA2.out.1.c4
     have g0:V2.frozen? (ad hb (q*5))=false:=HA2.out.1.fr 0 (by omega)
     have g4:V2.frozen? (ad hb (q*5+4))=false:=HA2.out.1.fr 4 (by omega)
     have hyn:wr.heap.size≠hb:=HN.out.2.2.2.2.1
     have HBX:Hid (Box V2 wr.heap.size 112 (vWy y (some (ad gb go)) sc la lc fa fc va vc ma mc)):=(HPRE.out V2 HA2.out.2).2.2.2.2.2.2
     obtain⟨z0,z1,z2,z3,z4⟩:=HBX.out.c5
     go_wp2_with fail
     have HA3:Hid (HAt ((V2.setCell (ad hb (q*5)) (.int .i64 4)).setCell (ad hb (q*5+4)) (.int .i64 0)) hb (q*5) ⟨4,(g:Int),y.ns,B,sh,0⟩ (r q) (rc q)/\Chg hb (q*5) (q*5+5) (r q) V ((V2.setCell (ad hb (q*5)) (.int .i64 4)).setCell (ad hb (q*5+4)) (.int .i64 0))):=⟨(HA2.out.1.setSt 4).setTimer 0,(HA2.out.2.set (by omega) (by omega) _).set (by omega) (by omega) _⟩
     refine(HPASS.out _ HA3.out.2 HA3.out.1 (by rw[setH,if_neg (by simp),if_pos ⟨by simp,by show f.O (y.S 0).toNat=true;rw[HO.out.2.2.2,hOq]⟩];rfl)).mono ?_
     rintro e w2 ⟨he,hS⟩
     have HF:Hid (StM p f wa (some (ad b off)) ba (some (ad pb po)) pa wc yc bc oc pc hc fb hb wz w (q+1) w2):=hS
     subst he
     go_wp2_with fail
     go_roundw
     case rel=>exact⟨q+1,by omega,by go_num,HF⟩
     case measure=>simp[intOf];omega
    |false=>
     rw[hOq] at o0
     go_quiet (fail)
     clear s0 o0
     have hv0:¬((vwOf y f.O f.P).O 0=true):=by show¬(f.O (y.S 0).toNat=true);rw[HO.out.2.2.2,hOq];simp
     have HA2:Hid (HAt (V.drewN nq) hb (q*5) ⟨2,(g:Int),y.ns,B,sh,t⟩ (r q) (rc q)/\Chg hb (q*5) (q*5+5) (r q) V (V.drewN nq)):=⟨HA.out.drewN _,(Chg.refl _ _ _ _ _).drewN _⟩
     generalize V.drewN nq=V2 at HA2⊢
     clear e0 e3 e4 g0 g3 g4 z0 z1 z2 z3 z4 w1
     have e0:=HA2.out.1.c0
     have e4:=HA2.out.1.c4
     have g0:V2.frozen? (ad hb (q*5))=false:=HA2.out.1.fr 0 (by omega)
     have g4:V2.frozen? (ad hb (q*5+4))=false:=HA2.out.1.fr 4 (by omega)
     have hyn:wr.heap.size≠hb:=HN.out.2.2.2.2.1
     have HBX:Hid (Box V2 wr.heap.size 112 (vWy y (some (ad gb go)) sc la lc fa fc va vc ma mc)):=(HPRE.out V2 HA2.out.2).2.2.2.2.2.2
     obtain⟨z0,z1,z2,z3,z4⟩:=HBX.out.c5
     go_wp2_with fail
     have HA3:Hid (HAt (V2.setCell (ad hb (q*5)) (.int .i64 1)) hb (q*5) ⟨1,(g:Int),y.ns,B,sh,t⟩ (r q) (rc q)/\Chg hb (q*5) (q*5+5) (r q) V (V2.setCell (ad hb (q*5)) (.int .i64 1))):=⟨HA2.out.1.setSt 1,HA2.out.2.set (by omega) (by omega) _⟩
     generalize (V2.setCell (ad hb (q*5)) (.int .i64 1))=V3 at HA3⊢
     clear f3
     obtain⟨q1,q2,q3',q4,q5,q6,q7⟩:=HPRE.out V3 HA3.out.2
     obtain⟨p0,p1,p2,p3,p4⟩:=q6.c5
     obtain⟨f0,f1,f2,f3⟩:=q5.c4
     have zp:w.heap.size<V3.heap.size:=q6.lt
     have zf:fb<V3.heap.size:=q5.lt
     clear q1 q2 q3' q4 q5 q6 q7
     go_region_held3 (fun w'=>w'.cell? (ad w.heap.size 0)=some (.int .i64 p.sec)/\w'.cell? (ad w.heap.size 1)=some (.slice wa p.nw wc)/\w'.cell? (ad w.heap.size 2)=some (.slice (some (ad b off)) p.ny yc)/\w'.cell? (ad w.heap.size 3)=some (.slice ba p.nb bc)/\w'.cell? (ad w.heap.size 4)=some (.int .i64 p.hold)/\w'.cell? (ad fb 0)=some (.bool f.ok)/\w'.cell? (ad fb 1)=some (.slice (some (ad pb po)) f.no oc)/\w'.cell? (ad fb 2)=some (.slice pa f.np pc)/\w'.cell? (ad fb 3)=some (.slice (some (ad hb 0)) f.nh hc)) (go_keep) (first
      |(go_at_call 66;refine(HPRV.out _ (HA3.out.2.drewN 1)).mono ?_;rintro e w3 ⟨rfl,hb3⟩;have kp0:w3.cell? (ad w.heap.size 0)=some (.int .i64 p.sec):=cell_keep hb3 zp p0;have kp1:w3.cell? (ad w.heap.size 1)=some (.slice wa p.nw wc):=cell_keep hb3 zp p1;have kp2:w3.cell? (ad w.heap.size 2)=some (.slice (some (ad b off)) p.ny yc):=cell_keep hb3 zp p2;have kp3:w3.cell? (ad w.heap.size 3)=some (.slice ba p.nb bc):=cell_keep hb3 zp p3;have kp4:w3.cell? (ad w.heap.size 4)=some (.int .i64 p.hold):=cell_keep hb3 zp p4;have kf0:w3.cell? (ad fb 0)=some (.bool f.ok):=cell_keep hb3 zf f0;have kf1:w3.cell? (ad fb 1)=some (.slice (some (ad pb po)) f.no oc):=cell_keep hb3 zf f1;have kf2:w3.cell? (ad fb 2)=some (.slice pa f.np pc):=cell_keep hb3 zf f2;have kf3:w3.cell? (ad fb 3)=some (.slice (some (ad hb 0)) f.nh hc):=cell_keep hb3 zf f3))
     have HA4:Hid (HAt w3 hb (q*5) ⟨1,(g:Int),y.ns,B,sh,t⟩ (r q) (rc q)/\Chg hb (q*5) (q*5+5) (r q) V w3):=⟨(HA3.out.1.drewN 1).mono hb3,(HA3.out.2.drewN 1).trans (Chg.of_below hb3 HA3.out.1.lt)⟩
     clear kp0 kp1 kp2 kp3 kp4 kf0 kf1 kf2 kf3 p0 p1 p2 p3 p4 f0 f1 f2 f3 hb3 zp zf e0 e4 g0 g4 z0 z1 z2 z3 z4
     have e0:=HA4.out.1.c0
     have e3:=HA4.out.1.c3
     have g0:w3.frozen? (ad hb (q*5))=false:=HA4.out.1.fr 0 (by omega)
     have g3:w3.frozen? (ad hb (q*5+3))=false:=HA4.out.1.fr 3 (by omega)
     cases hpv:prvB y f.O f.P with
     |true=>
      have HF:Hid (StM p f wa (some (ad b off)) ba (some (ad pb po)) pa wc yc bc oc pc hc fb hb wz w (q+1) ((w3.setCell (ad hb (q*5)) (.int .i64 2)).setCell (ad hb (q*5+3)) (.bool true))):=HFIN.out _ _ _ _ ((HA4.out.2.set (by omega) (by omega) _).set (by omega) (by omega) _) ((HA4.out.1.setSt 2).setShown true) (.inl rfl) (by
       rw[setH,if_neg (by simp),if_neg (fun x=>hv0 x.2),if_pos (by simp),if_pos (show(vwOf y f.O f.P).prv=true from hpv)]
       exact likeH.refl _)
      go_wp2_with fail
      go_roundw
      case rel=>exact⟨q+1,by omega,by go_num,HF⟩
      case measure=>simp[intOf];omega
     |false=>
      have HF:Hid (StM p f wa (some (ad b off)) ba (some (ad pb po)) pa wc yc bc oc pc hc fb hb wz w (q+1) w3):=HFIN.out _ _ _ _ HA4.out.2 HA4.out.1 (.inl rfl) (by
       rw[setH,if_neg (by simp),if_neg (fun x=>hv0 x.2),if_pos (by simp),if_neg (show¬((vwOf y f.O f.P).prv=true) from by show¬(prvB y f.O f.P=true);rw[hpv];simp)]
       exact likeH.refl _)
      go_wp2_with fail
      go_roundw
      case rel=>exact⟨q+1,by omega,by go_num,HF⟩
      case measure=>simp[intOf];omega
   ·
    subst e
    go_wp2_with fail
    generalize (wr.alloc (.cells (vWy y sa sc la lc fa fc va vc ma mc) 112))=V at HA HN HV HFIN HPRE HPASS HPRV HBV⊢
    have e0:=HA.out.c0
    have e4:=HA.out.c4
    have g0:V.frozen? (ad hb (q*5))=false:=HA.out.fr 0 (by omega)
    have g3:V.frozen? (ad hb (q*5+3))=false:=HA.out.fr 3 (by omega)
    have g4:V.frozen? (ad hb (q*5+4))=false:=HA.out.fr 4 (by omega)
    have e3:=HA.out.c3
    obtain⟨z0,z1,z2,z3,z4⟩:=HV.out.1.c5
    have w1:=HV.out.2.2.cel 1
    obtain⟨q1,q2,q3,q4,q5,q6,q7⟩:=HPRE.out V (Chg.refl _ _ _ _ _)
    obtain⟨gb,go,rfl,_,hgb,hgc⟩:=q2.s (by have :=HO.out.2.1;omega)
    obtain⟨pb,po,rfl,_,hpb,hpc⟩:=q3 (by omega)
    have s0:V.cell? (ad gb go)=some (.int .i64 (o:Int)):=by rw[<-hoS];exact hgc 0 (by have :=HO.out.2.1;omega) 0 (by omega)
    have o0:V.cell? (ad pb (po+o))=some (.bool (f.O o)):=by have :=hpc o hon 0 (by omega);rwa [Nat.mul_one] at this
    clear q1 q2 q4 q5 q6 q7 hgc hpc
    have ho0:(0:Int)<=(o:Int):=by omega
    have hon':(o:Int)<(f.no:Int):=by omega
    have hns0:(0:Int)<(y.ns:Int):=by have :=HO.out.2.1;omega
    cases hOq:f.O o with
    |true=>
     rw[hOq] at o0
     go_quiet (fail)
     clear s0 o0
     have HA2:Hid (HAt (V.drewN nq) hb (q*5) ⟨3,(g:Int),y.ns,B,sh,t⟩ (r q) (rc q)/\Chg hb (q*5) (q*5+5) (r q) V (V.drewN nq)):=⟨HA.out.drewN _,(Chg.refl _ _ _ _ _).drewN _⟩
     generalize V.drewN nq=V2 at HA2⊢
     clear e0 e3 e4 g0 g3 g4 z0 z1 z2 z3 z4 w1
     have e0:=HA2.out.1.c0
     have e4:=HA2.out.1.c4
     have g0:V2.frozen? (ad hb (q*5))=false:=HA2.out.1.fr 0 (by omega)
     have g4:V2.frozen? (ad hb (q*5+4))=false:=HA2.out.1.fr 4 (by omega)
     have hyn:wr.heap.size≠hb:=HN.out.2.2.2.2.1
     have HBX:Hid (Box V2 wr.heap.size 112 (vWy y (some (ad gb go)) sc la lc fa fc va vc ma mc)):=(HPRE.out V2 HA2.out.2).2.2.2.2.2.2
     obtain⟨z0,z1,z2,z3,z4⟩:=HBX.out.c5
     go_wp2_with fail
     have HA3:Hid (HAt ((V2.setCell (ad hb (q*5)) (.int .i64 4)).setCell (ad hb (q*5+4)) (.int .i64 0)) hb (q*5) ⟨4,(g:Int),y.ns,B,sh,0⟩ (r q) (rc q)/\Chg hb (q*5) (q*5+5) (r q) V ((V2.setCell (ad hb (q*5)) (.int .i64 4)).setCell (ad hb (q*5+4)) (.int .i64 0))):=⟨(HA2.out.1.setSt 4).setTimer 0,(HA2.out.2.set (by omega) (by omega) _).set (by omega) (by omega) _⟩
     refine(HPASS.out _ HA3.out.2 HA3.out.1 (by rw[setH,if_neg (by simp),if_pos ⟨by simp,by show f.O (y.S 0).toNat=true;rw[HO.out.2.2.2,hOq]⟩];rfl)).mono ?_
     rintro e w2 ⟨he,hS⟩
     have HF:Hid (StM p f wa (some (ad b off)) ba (some (ad pb po)) pa wc yc bc oc pc hc fb hb wz w (q+1) w2):=hS
     subst he
     go_wp2_with fail
     go_roundw
     case rel=>exact⟨q+1,by omega,by go_num,HF⟩
     case measure=>simp[intOf];omega
    |false=>
     rw[hOq] at o0
     go_quiet (fail)
     clear s0 o0
     have hv0:¬((vwOf y f.O f.P).O 0=true):=by show¬(f.O (y.S 0).toNat=true);rw[HO.out.2.2.2,hOq];simp
     have HA2:Hid (HAt (V.drewN nq) hb (q*5) ⟨3,(g:Int),y.ns,B,sh,t⟩ (r q) (rc q)/\Chg hb (q*5) (q*5+5) (r q) V (V.drewN nq)):=⟨HA.out.drewN _,(Chg.refl _ _ _ _ _).drewN _⟩
     generalize V.drewN nq=V2 at HA2⊢
     clear e0 e3 e4 g0 g3 g4 z0 z1 z2 z3 z4 w1
     have e0:=HA2.out.1.c0
     have e4:=HA2.out.1.c4
     have g0:V2.frozen? (ad hb (q*5))=false:=HA2.out.1.fr 0 (by omega)
     have g4:V2.frozen? (ad hb (q*5+4))=false:=HA2.out.1.fr 4 (by omega)
     have hyn:wr.heap.size≠hb:=HN.out.2.2.2.2.1
     have HBX:Hid (Box V2 wr.heap.size 112 (vWy y (some (ad gb go)) sc la lc fa fc va vc ma mc)):=(HPRE.out V2 HA2.out.2).2.2.2.2.2.2
     obtain⟨z0,z1,z2,z3,z4⟩:=HBX.out.c5
     have HF:Hid (StM p f wa (some (ad b off)) ba (some (ad pb po)) pa wc yc bc oc pc hc fb hb wz w (q+1) V2):=HFIN.out _ _ _ _ HA2.out.2 HA2.out.1 (.inl rfl) (by rw[setH,if_neg (by simp),if_neg (fun x=>hv0 x.2),if_neg (by simp),if_neg (by simp)];exact likeH.refl _)
     go_wp2_with fail
     go_roundw
     case rel=>exact⟨q+1,by omega,by go_num,HF⟩
     case measure=>simp[intOf];omega
   ·
    subst e
    go_wp2_with fail
    generalize (wr.alloc (.cells (vWy y sa sc la lc fa fc va vc ma mc) 112))=V at HA HN HV HFIN HPRE HPASS HPRV HBV⊢
    have e0:=HA.out.c0
    have e4:=HA.out.c4
    have g0:V.frozen? (ad hb (q*5))=false:=HA.out.fr 0 (by omega)
    have g3:V.frozen? (ad hb (q*5+3))=false:=HA.out.fr 3 (by omega)
    have g4:V.frozen? (ad hb (q*5+4))=false:=HA.out.fr 4 (by omega)
    have e3:=HA.out.c3
    obtain⟨z0,z1,z2,z3,z4⟩:=HV.out.1.c5
    have w1:=HV.out.2.2.cel 1
    go_quiet (fail)
    have HA2:Hid (HAt (V.drewN nq) hb (q*5) ⟨4,(g:Int),y.ns,B,sh,t⟩ (r q) (rc q)/\Chg hb (q*5) (q*5+5) (r q) V (V.drewN nq)):=⟨HA.out.drewN _,(Chg.refl _ _ _ _ _).drewN _⟩
    generalize V.drewN nq=V2 at HA2⊢
    clear e0 e3 e4 g0 g3 g4 z0 z1 z2 z3 z4 w1
    have e0:=HA2.out.1.c0
    have e4:=HA2.out.1.c4
    have g0:V2.frozen? (ad hb (q*5))=false:=HA2.out.1.fr 0 (by omega)
    have g4:V2.frozen? (ad hb (q*5+4))=false:=HA2.out.1.fr 4 (by omega)
    have hyn:wr.heap.size≠hb:=HN.out.2.2.2.2.1
    have HBX:Hid (Box V2 wr.heap.size 112 (vWy y sa sc la lc fa fc va vc ma mc)):=(HPRE.out V2 HA2.out.2).2.2.2.2.2.2
    obtain⟨z0,z1,z2,z3,z4⟩:=HBX.out.c5
    have ht0:t=0:=htm (by decide)
    subst ht0
    go_wp2_with fail
    refine(HPASS.out V2 HA2.out.2 HA2.out.1 (by simp[setH])).mono ?_
    rintro e w2 ⟨he,hS⟩
    have HF:Hid (StM p f wa (some (ad b off)) ba oa pa wc yc bc oc pc hc fb hb wz w (q+1) w2):=hS
    subst he
    go_wp2_with fail
    go_roundw
    case rel=>exact⟨q+1,by omega,by go_num,HF⟩
    case measure=>simp[intOf];omega
  ·
   obtain rfl:q=f.nh:=by omega
   obtain⟨r,rc,hM,hX,hrs,hbz,hbw⟩:=HQ.out
   have HR:Hid (SetR p f oa pa oc pc hc fb hb wz w (.returned (.tuple #[])) wr):=⟨r,rc,rfl,hM.congr fun i hi=>by simp only[hi,if_true];exact likeH.refl _,hbw⟩
   go_wp2_with fail
   exact bodyPost_end (v:=.tuple #[]) (by simp[results,Tryz.results34,go_sem]) rfl HR.out
end Go.Proofs.YtkeilejbelblcaaGreatDoor
