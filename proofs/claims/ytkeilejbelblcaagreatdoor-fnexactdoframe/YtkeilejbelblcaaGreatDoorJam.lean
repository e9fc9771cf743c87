import Derived.Test.YtkeilejbelblcaaGreatDoorJal
import Derived.Test.YtkeilejbelblcaaGreatDoorGSaH5
namespace Go.Proofs.YtkeilejbelblcaaGreatDoor
open Go.RowKit
theorem FMem.of_copy {B:Nat}{w:World}{ok:Bool}{oa:Option Addr}{no oc:Nat}{O:Nat->Bool}{pa:Option Addr}{np pc:Nat}{P:Nat->Nat->Int}{hb nh hc:Nat}{Y:Nat->Hl}{r rc:Nat->Nat}(hB:B<=w.heap.size)
  (ho:VOwn B 4 1 w (.slice oa no oc) no (boolF O)) (hp:VOwn B 69 2 w (.slice pa np pc) np (intF P)) (hh:HsG B w (.slice (some (ad hb 0)) nh hc) nh Y r rc) (hne:∀g,(Value.slice oa no oc).ownBlock=some g->∀i,i<nh->r i≠g):
  FMem B (w.alloc (.cells #[.bool ok,.slice oa no oc,.slice pa np pc,.slice (some (ad hb 0)) nh hc] 42)) w.heap.size hb ok oa no oc O pa np pc P nh hc Y r rc:=by
 have b1:=bel1 w (.cells #[.bool ok,.slice oa no oc,.slice pa np pc,.slice (some (ad hb 0)) nh hc] 42)
 have hl:hb<w.heap.size:=(hh.own.lt rfl).2
 refine⟨Box.new _ _ _,ho.vs.mono (Nat.zero_le _) b1 nr,hp.vs.mono (Nat.zero_le _) b1 nr,fun i hi=>(hh.hat hi).mono b1,hh.inj,by omega,fun i hi=>?_,fun i hi _ b off e=>?_,fun i hi _ b off e=>?_,hB,(hh.own.lt rfl).1,fun i hi=>((hh.row i hi).lt rfl).1⟩
 ·
  exact Ne.symm (Nat.ne_of_lt ((hh.row i hi).lt rfl).2)
 ·
  subst e
  have hbk:off=0:=by
   rcases ho with⟨e1,_⟩|⟨g,cp,cur,e1,_⟩
   ·
    cases e1
   ·
    simp only[Value.slice.injEq,Option.some.injEq,Addr.mk.injEq,and_true,true_and] at e1
    exact e1.1.2
  subst hbk
  refine⟨fun e2=>?_,fun e2=>hne b rfl i hi e2.symm⟩
  subst e2
  exact ho.apart hh.own (by decide) rfl rfl
 ·
  subst e
  have hbk:off=0:=by
   rcases hp with⟨e1,_⟩|⟨g,cp,cur,e1,_⟩
   ·
    cases e1
   ·
    simp only[Value.slice.injEq,Option.some.injEq,Addr.mk.injEq,and_true,true_and] at e1
    exact e1.1.2
  subst hbk
  refine⟨fun e2=>?_,fun e2=>?_⟩
  ·
   subst e2
   exact hp.apart hh.own (by decide) rfl rfl
  ·
   subst e2
   exact hp.apart (hh.row i hi) (by decide) rfl rfl
theorem FMem.hs {M:Nat}{w:World}{fb hb:Nat}{ok:Bool}{oa:Option Addr}{no oc:Nat}{O:Nat->Bool}{pa:Option Addr}{np pc:Nat}{P:Nat->Nat->Int}{nh hc:Nat}{Y:Nat->Hl}{r rc:Nat->Nat}
  (x:FMem M w fb hb ok oa no oc O pa np pc P nh hc Y r rc):HsAt 0 w (some (ad hb 0)) nh Y:=by
 intro h0
 refine⟨hb,0,rfl,Nat.zero_le _,(x.h 0 h0).lt,fun i hi=>?_⟩
 have h:=x.h i hi
 refine⟨some (ad (r i) 0),rc i,?_,?_,?_,?_,?_,fun _=>⟨r i,0,rfl,Nat.zero_le _,h.rl,fun k hk j hj=>?_⟩⟩
 ·
  rw[Nat.zero_add];exact h.c0
 ·
  rw[Nat.zero_add];exact h.c1
 ·
  rw[Nat.zero_add];exact h.c2
 ·
  rw[Nat.zero_add];exact h.c3
 ·
  rw[Nat.zero_add];exact h.c4
 ·
  obtain rfl:j=0:=by omega
  rw[Nat.zero_add,Nat.mul_one,Nat.add_zero]
  exact(h.row k hk).1
set_option maxRecDepth 100000 in
set_option maxHeartbeats 4000000 in
theorem lies55 (p:Pl) (wa ya ba:Option Addr) (wc yc bc:Nat) (a:Option Addr) (n cap:Nat) (L:Nat->Nat->Int) (w:World) (hn:n<=1048576) (hw:p.nw<=1048576) (hL:VsAt 2 0 w a n (intF L)):
  Calls Tryz.prog 124 #[.agg #[.int .i64 p.sec,.slice wa p.nw wc,.slice ya p.ny yc,.slice ba p.nb bc,.int .i64 p.hold],.slice a n cap] w fun e w'=>e=.returned (.bool (liesF L n p.nw))/\Below w.heap.size w w':=by
 have HL:Hid (VsAt 2 0 w a n (intF L)):=hL
 clear hL
 go_enter Tryz.func124,Tryz.ntmps124
 go_wp2_with fail
 go_loopw [10] (fun i wr=>∃q:Nat,q<=n/\i=.int .i64 q/\Hid (∀i,i<q->tuF L p.nw i=true)/\Hid (Box wr w.heap.size 37 (vPl p wa wc ya yc ba bc))/\Below w.heap.size w wr) (fun i _=>n-(intOf i).toNat)
 case atStart=>exact⟨0,Nat.zero_le _,rfl,fun i hi=>absurd hi (Nat.not_lt_zero _),Box.new w 37 _,bel1 _ _⟩
 case round=>
  obtain⟨q,hq,rfl,HQ,HX,hbel⟩:=hrel
  by_cases hlt:q<n
  ·
   obtain⟨b,off,rfl,_,hb,hc⟩:=(HL.out.mono nr hbel nr) (by omega)
   have c0:wr.cell? (ad b (off+q*2))=some (.int .i64 (L q 0)):=hc q hlt 0 (by omega)
   have c1:wr.cell? (ad b (off+q*2+1))=some (.int .i64 (L q 1)):=hc q hlt 1 (by omega)
   have HC:Hid (∀r,r<n->wr.cell? (ad b (off+r*2))=some (.int .i64 (L r 0))):=fun r hr=>hc r hr 0 (by omega)
   have x1:=HX.out.cel 1
   have hxl:w.heap.size<wr.heap.size:=HX.out.lt
   clear hc
   have hq0:(0:Int)<=(q:Int):=by omega
   have hqn:(q:Int)<(n:Int):=by omega
   go_wp2_with fail
   have hbA:Below w.heap.size w (wr.alloc (.cells #[.int .i64 (L q 0),.int .i64 (L q 1)] 146)):=hbel.alloc hbel.size _
   refine(in24 (L q 0) 0 ((p.nw:Int)-1) _).mono ?_
   rintro e w1 ⟨he,hw1⟩
   have hw1:=hw1.symm
   subst hw1
   cases hB:inB (L q 0) 0 ((p.nw:Int)-1) with
   |false=>
    rw[hB] at he
    subst he
    go_wp2_with fail
    go_ret
    exact⟨by rw[liesF,allB_no hlt (by simp[tuF,hB])];rfl,hbA⟩
   |true=>
    rw[hB] at he
    subst he
    go_wp2_with fail
    refine(in24 (L q 1) 1 2 _).mono ?_
    rintro e w1 ⟨he,hw1⟩
    have hw1:=hw1.symm
    subst hw1
    cases hB2:inB (L q 1) 1 2 with
    |false=>
     rw[hB2] at he
     subst he
     go_wp2_with fail
     go_ret
     exact⟨by rw[liesF,allB_no hlt (by simp[tuF,hB2])];rfl,hbA⟩
    |true=>
     rw[hB2] at he
     subst he
     go_wp2_with fail
     have HX1:Hid (Box (wr.alloc (.cells #[.int .i64 (L q 0),.int .i64 (L q 1)] 146)) wr.heap.size 146 #[.int .i64 (L q 0),.int .i64 (L q 1)]):=Box.new wr 146 _
     have HB1:Hid (Below wr.heap.size wr (wr.alloc (.cells #[.int .i64 (L q 0),.int .i64 (L q 1)] 146))):=bel1 _ _
     generalize wr.alloc (.cells #[.int .i64 (L q 0),.int .i64 (L q 1)] 146)=W1 at HX1 HB1 hbA⊢
     have HXp:Hid (Box W1 w.heap.size 37 _):=HX.out.mono HB1.out nr
     have HC1:Hid (∀r,r<n->W1.cell? (ad b (off+r*2))=some (.int .i64 (L r 0))):=fun r hr=>cell_keep HB1.out hb (HC.out r hr)
     have hb1:b<W1.heap.size:=Nat.lt_of_lt_of_le hb HB1.out.size
     clear x1 c0 c1 HX HC HB1 hxl hbel hb
     generalize wr.heap.size=xb at HX1⊢
     go_loopw [7] (fun j wi=>∃r:Nat,r<=q/\j=.int .i64 r/\Hid (∀k,k<r->L k 0≠L q 0)/\Hid (Below W1.heap.size W1 wi)) (fun j _=>q-(intOf j).toNat)
     case atStart=>exact⟨0,Nat.zero_le _,rfl,fun i hi=>absurd hi (Nat.not_lt_zero _),Below.refl _ _⟩
     case round=>
      obtain⟨r,hr,rfl,HR,HBI⟩:=hrel
      have hbI:Below w.heap.size w wr:=hbA.trans (HBI.out.mono hbA.size)
      by_cases hrq:r<q
      ·
       have c2:wr.cell? (ad b (off+r*2))=some (.int .i64 (L r 0)):=cell_keep HBI.out hb1 (HC1.out r (by omega))
       have x2:=(HX1.out.mono HBI.out nr).cel 0
       have hr0:(0:Int)<=(r:Int):=by omega
       have hrn:(r:Int)<(n:Int):=by omega
       have hrq':(r:Int)<(q:Int):=by omega
       by_cases he:L r 0=L q 0
       ·
        go_wp2_with fail
        go_quiet (fail)
        go_wp2_with fail
        go_ret
        exact⟨by rw[liesF,allB_no hlt (by simp only[tuF,hB,hB2,Bool.true_and];exact allB_no hrq (by simp[he]))];rfl,below_drewN hbI _⟩
       ·
        have HR2:Hid (∀k,k<r+1->L k 0≠L q 0):=fun k hk=>by
         by_cases e:k=r
         ·
          subst e
          exact he
         ·
          exact HR.out k (by omega)
        go_wp2_with fail
        go_quiet (fail)
        go_wp2_with fail
        go_roundw
        case rel=>exact⟨r+1,by omega,by go_num,HR2,below_drewN HBI.out _⟩
        case measure=>simp[intOf];omega
      ·
       obtain rfl:r=q:=by omega
       have HQ2:Hid (∀i,i<r+1->tuF L p.nw i=true):=fun i hi=>by
        by_cases e:i=r
        ·
         subst e
         simp only[tuF,hB,hB2,Bool.true_and]
         exact allB_iff.2 fun k hk=>by simpa using HR.out k hk
        ·
         exact HQ.out i (by omega)
       have HX2:Hid (Box wr w.heap.size 37 _):=HXp.out.mono HBI.out nr
       go_wp2_with fail
       go_roundw
       case rel=>exact⟨r+1,by omega,by go_num,HQ2,HX2,hbI⟩
       case measure=>simp[intOf];omega
  ·
   obtain rfl:q=n:=by omega
   have hA:allB (tuF L p.nw) q=true:=allB_iff.2 HQ.out
   by_cases h30:(q:Int)<=30
   ·
    go_wp2_with fail
    go_ret
    exact⟨by rw[liesF,hA];simp;omega,hbel⟩
   ·
    go_wp2_with fail
    go_ret
    exact⟨by rw[liesF,hA];simp;omega,hbel⟩
set_option maxRecDepth 100000 in
set_option maxHeartbeats 8000000 in
theorem way25 (p:Pl) (wa ya ba:Option Addr) (wc yc bc:Nat) (y:Wy) (sa la fa oa ma:Option Addr) (sc lc fc oc mc:Nat) (w:World) (h1:1<=p.sec) (h2:p.sec<=60) (hw:p.nw<=1048576) (hs:y.small 1048576) (hW:VsAt 1 0 w wa p.nw (oneF p.W)) (hY:WyIn 0 w y sa la fa oa ma):
  Calls Tryz.prog 101 #[.agg #[.int .i64 p.sec,.slice wa p.nw wc,.slice ya p.ny yc,.slice ba p.nb bc,.int .i64 p.hold],.agg #[.slice sa y.ns sc,.slice la y.nl lc,.slice fa y.nf fc,.slice oa y.no oc,.slice ma y.nm mc]] w fun e w'=>e=.returned (.bool (wayF p y))/\Below w.heap.size w w':=by
 obtain⟨s1,s2,s3,s4,s5⟩:=hs
 have H:Hid (VsAt 1 0 w wa p.nw (oneF p.W)/\WyIn 0 w y sa la fa oa ma):=⟨hW,hY⟩
 clear hW hY
 go_enter Tryz.func101,Tryz.ntmps101
 by_cases hz:y.ns=0
 ·
  have hzi:(y.ns:Int)=0:=by omega
  have hzb:((y.ns:Int)==0)=true:=by simpa using hzi
  go_wp2_with fail
  go_ret
  exact⟨by simp[wayF,hz],bel2 _ _ _⟩
 have hzi:¬(y.ns:Int)=0:=by omega
 have hzb:((y.ns:Int)==0)=false:=by simpa using hzi
 go_wp2_with fail
 have HB0:Hid (Below w.heap.size w ((w.alloc (.cells (vPl p wa wc ya yc ba bc) 37)).alloc (.cells (vWy y sa sc la lc fa fc oa oc ma mc) 112))/\Box ((w.alloc (.cells (vPl p wa wc ya yc ba bc) 37)).alloc (.cells (vWy y sa sc la lc fa fc oa oc ma mc) 112)) w.heap.size 37 (vPl p wa wc ya yc ba bc)/\Box ((w.alloc (.cells (vPl p wa wc ya yc ba bc) 37)).alloc (.cells (vWy y sa sc la lc fa fc oa oc ma mc) 112)) (w.heap.size+1) 112 (vWy y sa sc la lc fa fc oa oc ma mc)):=⟨bel2 _ _ _,(Box.new w 37 _).alloc _,by have :=Box.new (w.alloc (.cells (vPl p wa wc ya yc ba bc) 37)) 112 (vWy y sa sc la lc fa fc oa oc ma mc);simpa using this⟩
 refine(list54 sa y.ns sc y.S p.sec _ (by omega) h1 h2 (H.out.2.s.mono nr HB0.out.1 nr)).mono ?_
 rintro e wx ⟨he,hwx⟩
 have hwx:=hwx.symm
 subst hwx
 cases f1:listF y.S y.ns p.sec with
 |false=>
  rw[f1] at he
  subst he
  go_wp2_with fail
  go_ret
  exact⟨by simp[wayF,f1],HB0.out.1⟩
 |true=>
 rw[f1] at he
 subst he
 go_wp2_with fail
 refine(list54 oa y.no oc y.O p.sec _ (by omega) h1 h2 (H.out.2.o.mono nr HB0.out.1 nr)).mono ?_
 rintro e wx ⟨he,hwx⟩
 have hwx:=hwx.symm
 subst hwx
 cases f2:listF y.O y.no p.sec with
 |false=>
  rw[f2] at he
  subst he
  go_wp2_with fail
  go_ret
  exact⟨by simp[wayF,f2],HB0.out.1⟩
 |true=>
 rw[f2] at he
 subst he
 go_wp2_with fail
 refine(list54 ma y.nm mc y.M p.sec _ (by omega) h1 h2 (H.out.2.m.mono nr HB0.out.1 nr)).mono ?_
 rintro e wx ⟨he,hwx⟩
 have hwx:=hwx.symm
 subst hwx
 cases f3:listF y.M y.nm p.sec with
 |false=>
  rw[f3] at he
  subst he
  go_wp2_with fail
  go_ret
  exact⟨by simp[wayF,f3],HB0.out.1⟩
 |true=>
 rw[f3] at he
 subst he
 go_wp2_with fail
 refine(lies55 p wa ya ba wc yc bc la y.nl lc y.L _ (by omega) hw (H.out.2.l.mono nr HB0.out.1 nr)).mono ?_
 rintro e w1 ⟨he,hb1⟩
 have HB1:Hid (Below w.heap.size w w1/\Box w1 w.heap.size 37 (vPl p wa wc ya yc ba bc)/\Box w1 (w.heap.size+1) 112 (vWy y sa sc la lc fa fc oa oc ma mc)):=⟨HB0.out.1.trans (hb1.mono HB0.out.1.size),HB0.out.2.1.mono hb1 nr,HB0.out.2.2.mono hb1 nr⟩
 clear hb1 HB0
 cases f4:liesF y.L y.nl p.nw with
 |false=>
  rw[f4] at he
  subst he
  go_wp2_with fail
  go_ret
  exact⟨by simp[wayF,f4],HB1.out.1⟩
 |true=>
 rw[f4] at he
 subst he
 have xy1:=HB1.out.2.2.cel 1
 have xy2:=HB1.out.2.2.cel 2
 obtain⟨xp0,xp1,xp2,xp3,xp4⟩:=HB1.out.2.1.c5
 go_wp2_with fail
 clear xy1 xy2 xp0 xp1 xp2 xp3 xp4
 refine(lies55 p wa ya ba wc yc bc fa y.nf fc y.F _ (by omega) hw (H.out.2.f.mono nr HB1.out.1 nr)).mono ?_
 rintro e w2 ⟨he,hb2⟩
 have HB2:Hid (Below w.heap.size w w2/\Box w2 w.heap.size 37 (vPl p wa wc ya yc ba bc)/\Box w2 (w.heap.size+1) 112 (vWy y sa sc la lc fa fc oa oc ma mc)):=⟨HB1.out.1.trans (hb2.mono HB1.out.1.size),HB1.out.2.1.mono hb2 nr,HB1.out.2.2.mono hb2 nr⟩
 clear hb2 HB1
 cases f5:liesF y.F y.nf p.nw with
 |false=>
  rw[f5] at he
  subst he
  go_wp2_with fail
  go_ret
  exact⟨by simp[wayF,f5],HB2.out.1⟩
 |true=>
 rw[f5] at he
 subst he
 have xy1:=HB2.out.2.2.cel 1
 have xy2:=HB2.out.2.2.cel 2
 obtain⟨xp0,xp1,xp2,xp3,xp4⟩:=HB2.out.2.1.c5
 go_wp2_with fail
 clear xy1 xy2 xp0 xp1 xp2 xp3 xp4
 have HT:Hid (∀q,q<y.nl->∃o:Nat,y.L q 0=(o:Int)/\o<p.nw):=fun q hq=>by
  have g:=f4
  rw[liesF,Bool.and_eq_true] at g
  have g:=allB_iff.1 g.1 q hq
  simp only[tuF,inB,Bool.and_eq_true,decide_eq_true_eq] at g
  exact⟨(y.L q 0).toNat,by omega,by omega⟩
 go_loopw [54] (fun i wr=>∃q:Nat,q<=y.nl/\i=.int .i64 q/\Hid (∀i,i<q->onF p y i=true)/\Hid (Below w.heap.size w wr/\Box wr w.heap.size 37 (vPl p wa wc ya yc ba bc)/\Box wr (w.heap.size+1) 112 (vWy y sa sc la lc fa fc oa oc ma mc))) (fun i _=>y.nl-(intOf i).toNat)
 case atStart=>exact⟨0,Nat.zero_le _,rfl,fun i hi=>absurd hi (Nat.not_lt_zero _),HB2⟩
 case round=>
  obtain⟨q,hq,rfl,HQ,HB⟩:=hrel
  by_cases hlt:q<y.nl
  ·
   obtain⟨o,ho,hon⟩:=HT.out q hlt
   have HLq:=(H.out.2.l.mono nr HB.out.1 nr) (by omega)
   obtain⟨b,off,rfl,_,hb,hc⟩:=HLq
   have c0:wr.cell? (ad b (off+q*2))=some (.int .i64 (o:Int)):=by rw[<-ho];exact hc q hlt 0 (by omega)
   have c1:wr.cell? (ad b (off+q*2+1))=some (.int .i64 (y.L q 1)):=hc q hlt 1 (by omega)
   have y2:=HB.out.2.2.cel 2
   have hyl:w.heap.size+1<wr.heap.size:=HB.out.2.2.lt
   clear hc
   have hq0:(0:Int)<=(q:Int):=by omega
   have hqn:(q:Int)<(y.nl:Int):=by omega
   go_wp2_with fail
   have HX1:Hid (Box (wr.alloc (.cells #[.int .i64 (o:Int),.int .i64 (y.L q 1)] 146)) wr.heap.size 146 #[.int .i64 (o:Int),.int .i64 (y.L q 1)]):=Box.new wr 146 _
   have HB1:Hid (Below w.heap.size w (wr.alloc (.cells #[.int .i64 (o:Int),.int .i64 (y.L q 1)] 146))/\Box (wr.alloc (.cells #[.int .i64 (o:Int),.int .i64 (y.L q 1)] 146)) w.heap.size 37 (vPl p wa wc ya yc ba bc)/\Box (wr.alloc (.cells #[.int .i64 (o:Int),.int .i64 (y.L q 1)] 146)) (w.heap.size+1) 112 (vWy y sa sc (some (ad b off)) lc fa fc oa oc ma mc)):=⟨HB.out.1.alloc HB.out.1.size _,HB.out.2.1.alloc _,HB.out.2.2.alloc _⟩
   generalize wr.alloc (.cells #[.int .i64 (o:Int),.int .i64 (y.L q 1)] 146)=W1 at HX1 HB1⊢
   generalize wr.heap.size=xb at HX1⊢
   clear c0 c1 y2 HB hyl hb
   go_loopw [61] (fun j wi=>∃r:Nat,r<=y.nf/\j=.int .i64 r/\Hid (∀k,k<r->y.L q 0≠y.F k 0)/\Hid (Below W1.heap.size W1 wi)) (fun j _=>y.nf-(intOf j).toNat)
   case atStart=>exact⟨0,Nat.zero_le _,rfl,fun i hi=>absurd hi (Nat.not_lt_zero _),Below.refl _ _⟩
   case round=>
    obtain⟨r,hr,rfl,HR,HBI⟩:=hrel
    have HBR:Hid (Below w.heap.size w wr/\Box wr w.heap.size 37 (vPl p wa wc ya yc ba bc)/\Box wr (w.heap.size+1) 112 (vWy y sa sc (some (ad b off)) lc fa fc oa oc ma mc)):=⟨HB1.out.1.trans (HBI.out.mono HB1.out.1.size),HB1.out.2.1.mono HBI.out nr,HB1.out.2.2.mono HBI.out nr⟩
    have HXR:Hid (Box wr xb 146 #[.int .i64 (o:Int),.int .i64 (y.L q 1)]):=HX1.out.mono HBI.out nr
    have x0:=HXR.out.cel 0
    have hxl:xb<wr.heap.size:=HXR.out.lt
    by_cases hrf:r<y.nf
    ·
     have HFq:=(H.out.2.f.mono nr HBR.out.1 nr) (by omega)
     obtain⟨b',off',rfl,_,hb',hc'⟩:=HFq
     have c2:wr.cell? (ad b' (off'+r*2))=some (.int .i64 (y.F r 0)):=hc' r hrf 0 (by omega)
     have c3:wr.cell? (ad b' (off'+r*2+1))=some (.int .i64 (y.F r 1)):=hc' r hrf 1 (by omega)
     clear hc'
     have hr0:(0:Int)<=(r:Int):=by omega
     have hrn:(r:Int)<(y.nf:Int):=by omega
     by_cases he:(o:Int)=y.F r 0
     ·
      go_wp2_with fail
      go_ret
      refine⟨?_,HBR.out.1.alloc HBR.out.1.size _⟩
      have :allB (onF p y) y.nl=false:=allB_no hlt (by simp only[onF];rw[allB_no hrf (by simp[ho,he])];rfl)
      simp[wayF,this]
     ·
      have HR2:Hid (∀k,k<r+1->y.L q 0≠y.F k 0):=fun k hk=>by
       by_cases e:k=r
       ·
        subst e
        rw[ho]
        exact he
       ·
        exact HR.out k (by omega)
      go_wp2_with fail
      go_roundw
      case rel=>exact⟨r+1,by omega,by go_num,HR2,HBI.out.alloc HBI.out.size _⟩
      case measure=>simp[intOf];omega
    ·
     obtain rfl:r=y.nf:=by omega
     have x1:=HBR.out.2.1.cel 1
     have x3:=HBR.out.2.2.cel 0
     have z1:=HBR.out.2.1.lt
     have z2:=HBR.out.2.2.lt
     obtain⟨bw,offw,rfl,_,hbw,hcw⟩:=(H.out.1.mono nr HBR.out.1 nr) (by omega)
     have c4:wr.cell? (ad bw (offw+o))=some (.int .i64 (p.W o)):=by have :=hcw o hon 0 (by omega);rwa [Nat.mul_one] at this
     clear hcw
     have ho0:(0:Int)<=(o:Int):=by omega
     have hon':(o:Int)<(p.nw:Int):=by omega
     have hSr:=H.out.2.s.mono nr (HBR.out.1.drew) nr
     go_wp2_with fail
     have hA:VsAt 1 0 (wr.alloc (.cells #[.int .i64 (p.W o)] 3)).drew (some (ad wr.heap.size 0)) 1 (oneF fun _=>p.W o):=fun _=>⟨wr.heap.size,0,rfl,Nat.zero_le _,by simp,fun i hi j hj=>by
      obtain rfl:i=0:=by omega
      obtain rfl:j=0:=by omega
      simp⟩
     have hS2:=H.out.2.s.mono nr (HBR.out.1.alloc HBR.out.1.size (.cells #[.int .i64 (p.W o)] 3)).drew nr
     have HB2':Hid (Below w.heap.size w (wr.alloc (.cells #[.int .i64 (p.W o)] 3)).drew/\Box (wr.alloc (.cells #[.int .i64 (p.W o)] 3)).drew w.heap.size 37 (vPl p (some (ad bw offw)) wc ya yc ba bc)/\Box (wr.alloc (.cells #[.int .i64 (p.W o)] 3)).drew (w.heap.size+1) 112 (vWy y sa sc (some (ad b off)) lc fa fc oa oc ma mc)):=⟨(HBR.out.1.alloc HBR.out.1.size _).drew,(HBR.out.2.1.alloc _).drew,(HBR.out.2.2.alloc _).drew⟩
     have hto:(y.L q 0).toNat=o:=by omega
     go_region_with(go_at_call 102;refine(meet26 (some (ad wr.heap.size 0)) sa 1 y.ns 1 sc (fun _=>p.W o) y.S _ (by omega) (by omega) hA hS2).mono ?_;rintro e w2 ⟨he,hw2⟩;have hw2:=hw2.symm;subst hw2;subst he)
     all_goals
      clear hA hS2 x0 x1 x3 c4
      cases hm:meetF (fun _=>p.W o) 1 y.S y.ns with
      |false=>
       go_wp2_with fail
       go_ret
       refine⟨?_,HB2'.out.1⟩
       have :allB (onF p y) y.nl=false:=allB_no hlt (by simp only[onF,hto,hm,Bool.and_false])
       simp[wayF,this]
      |true=>
       have HQ2:Hid (∀i,i<q+1->onF p y i=true):=fun i hi=>by
        by_cases e:i=q
        ·
         subst e
         simp only[onF,hto,hm,Bool.and_true]
         exact allB_iff.2 fun k hk=>by simpa using HR.out k hk
        ·
         exact HQ.out i (by omega)
       go_wp2_with fail
       go_roundw
       case rel=>exact⟨q+1,by omega,by go_num,HQ2,HB2'⟩
       case measure=>simp[intOf];omega
  ·
   obtain rfl:q=y.nl:=by omega
   have hA:allB (onF p y) y.nl=true:=allB_iff.2 HQ.out
   have y3:=HB.out.2.2.cel 3
   have y0:=HB.out.2.2.cel 0
   go_wp2_with fail
   refine(meet26 oa sa y.no y.ns oc sc y.O y.S _ (by omega) (by omega) (H.out.2.o.mono nr HB.out.1 nr) (H.out.2.s.mono nr HB.out.1 nr)).mono ?_
   rintro e w2 ⟨he,hw2⟩
   have hw2:=hw2.symm
   subst hw2
   subst he
   have hz1:0<y.ns:=by omega
   go_wp2_with fail
   go_ret
   exact⟨by simp[wayF,f1,f2,f3,f4,f5,hA,hz1],HB.out.1⟩
end Go.Proofs.YtkeilejbelblcaaGreatDoor
