import Derived.Test.YtkeilejbelblcaaGreatDoorGSaH5
import Derived.Test.YtkeilejbelblcaaGreatDoorGMoSm
namespace Go.Proofs.YtkeilejbelblcaaGreatDoor
open Go.RowKit
def OffV (n:Nat) (a:Option Addr) (hb r:Nat):Prop:=0<n->∀b off,a=some (ad b off)->b≠hb/\b≠r
theorem VsAt.chg {c:Nat}{w w':World}{a:Option Addr}{n:Nat}{F:Nat->Nat->Value}{hb lo hi r:Nat}(h:VsAt c 0 w a n F) (hc:Chg hb lo hi r w w') (ho:OffV n a hb r):VsAt c 0 w' a n F:=by
 intro h0
 obtain⟨b,off,e,h1,h2,h3⟩:=h h0
 obtain⟨n1,n2⟩:=ho h0 b off e
 exact⟨b,off,e,h1,Nat.lt_of_lt_of_le h2 hc.size,fun i hi j hj=>(World.cell?_of_block (a:=(ad b (off+i*c+j))) (hc.other b h2 n1 n2)).trans (h3 i hi j hj)⟩
theorem Box.chg {w w':World}{b:Nat}{T:TypeId}{vs:Array Value}{hb lo hi r:Nat}(h:Box w b T vs) (hc:Chg hb lo hi r w w') (h1:b≠hb) (h2:b≠r):Box w' b T vs:=h.keep (hc.other b h.lt h1 h2)
def goneN (hb ho:Nat) (w:World):Nat:=match w.cell? (ad hb (ho+1)) with
 |some (.int _ v)=>v.toNat
 |_=>0
theorem HAt.goneN_eq {w:World}{hb ho:Nat}{h:Hl}{r rc:Nat}(x:HAt w hb ho h r rc):goneN hb ho w=h.gone.toNat:=by
 unfold goneN
 rw[x.c1]
def PassR (n:Nat) (OO:Nat->Bool) (hb ho:Nat) (h:Hl) (r:Nat) (w:World) (e:Ending) (w':World):Prop:=
 ∃r' rc',e=.returned (.tuple #[])/\HAt w' hb ho (useH ⟨n,OO,false⟩ h) r' rc'/\(r'=r\/w.heap.size<=r')/\Chg hb ho (ho+5) r w w'
set_option maxRecDepth 100000 in
set_option maxHeartbeats 16000000 in
theorem pass74 (y:Wy) (sa la fa va ma oa:Option Addr) (sc lc fc vc mc oc:Nat) (fb hb ho no:Nat) (O:Nat->Bool) (sh:Bool) (B:Nat->Bool) (g r rc:Nat) (w:World) (hns:y.ns<=1048576) (hno:no<=1048576) (hin:∀j,j<y.ns->∃o:Nat,y.S j=(o:Int)/\o<no) (hgl:g<y.ns)
  (hs:VsAt 1 0 w sa y.ns (oneF y.S)) (hso:OffV y.ns sa hb r) (hf:w.cell? (ad fb 1)=some (.slice oa no oc)) (hfl:fb<w.heap.size) (hfn:fb≠hb/\fb≠r) (hO:VsAt 1 0 w oa no (boolF O)) (hOo:OffV no oa hb r) (hh:HAt w hb ho ⟨4,(g:Int),y.ns,B,sh,0⟩ r rc):
  Calls Tryz.prog 73 #[.agg #[.slice sa y.ns sc,.slice la y.nl lc,.slice fa y.nf fc,.slice va y.no vc,.slice ma y.nm mc],.pointer (some (ad fb 0)),.pointer (some (ad hb ho))] w fun e w'=>PassR y.ns (fun k=>O (y.S k).toNat) hb ho ⟨4,(g:Int),y.ns,B,sh,0⟩ r w e w':=by
 have hc0:Chg hb ho (ho+5) r w (w.alloc (.cells (vWy y sa sc la lc fa fc va vc ma mc) 112)):=(Chg.refl _ _ _ _ _).alloc hh.lt _
 have HX:Hid (Box (w.alloc (.cells (vWy y sa sc la lc fa fc va vc ma mc) 112)) w.heap.size 112 (vWy y sa sc la lc fa fc va vc ma mc)/\VsAt 1 0 (w.alloc (.cells (vWy y sa sc la lc fa fc va vc ma mc) 112)) sa y.ns (oneF y.S)/\VsAt 1 0 (w.alloc (.cells (vWy y sa sc la lc fa fc va vc ma mc) 112)) oa no (boolF O)/\(w.alloc (.cells (vWy y sa sc la lc fa fc va vc ma mc) 112)).cell? (ad fb 1)=some (.slice oa no oc)/\fb<(w.alloc (.cells (vWy y sa sc la lc fa fc va vc ma mc) 112)).heap.size):=⟨Box.new _ _ _,hs.chg hc0 hso,hO.chg hc0 hOo,(World.cell?_of_block (a:=(ad fb 1)) (hc0.other fb hfl hfn.1 hfn.2)).trans hf,Nat.lt_of_lt_of_le hfl hc0.size⟩
 have HN:Hid (OffV y.ns sa hb r/\OffV no oa hb r/\fb≠hb/\fb≠r/\w.heap.size≠hb/\w.heap.size≠r/\r≠hb):=⟨hso,hOo,hfn.1,hfn.2,by have :=hh.lt;omega,by have :=hh.rl;omega,hh.ne⟩
 have HC:Hid (Chg hb ho (ho+5) r w (w.alloc (.cells (vWy y sa sc la lc fa fc va vc ma mc) 112))/\HAt (w.alloc (.cells (vWy y sa sc la lc fa fc va vc ma mc) 112)) hb ho ⟨4,(g:Int),y.ns,B,sh,0⟩ r rc):=⟨hc0,hh.mono (bel1 _ _)⟩
 have HIN:Hid (∀j,j<y.ns->∃o:Nat,y.S j=(o:Int)/\o<no):=hin
 obtain⟨OO,HOO⟩:∃OO,Hid ((fun k=>O (y.S k).toNat)=OO):=⟨_,rfl⟩
 rw[HOO.out]
 have HOv:Hid (∀j o:Nat,y.S j=(o:Int)->OO j=O o):=fun j o e=>by rw[<-HOO.out];simp[e]
 clear hs hso hf hfl hfn hO hOo hh hc0 hin HOO
 go_enter Tryz.func73,Tryz.ntmps73
 go_wp2_with fail
 generalize (w.alloc (.cells (vWy y sa sc la lc fa fc va vc ma mc) 112))=W at HX HC⊢
 go_loopw [16] (fun i wr=>∃q:Nat,q<=y.ns/\i=.int .i64 q/\Hid (Chg hb ho (ho+5) r W wr/\HAt wr hb ho ⟨4,(g:Int),y.ns,fun j=>if j<q then B j||OO j else B j,sh,0⟩ r rc)) (fun i _=>y.ns-(intOf i).toNat)
 case atStart=>exact⟨0,Nat.zero_le _,rfl,Chg.refl _ _ _ _ _,by simpa using HC.out.2⟩
 case round=>
  obtain⟨q,hq,rfl,HQ⟩:=hrel
  by_cases hlt:q<y.ns
  ·
   obtain⟨o,hoS,hon⟩:=HIN.out q hlt
   obtain⟨gb,go,rfl,_,hgb,hgc⟩:=HX.out.2.1.chg HQ.out.1 HN.out.1 (by omega)
   have c0:wr.cell? (ad gb (go+q))=some (.int .i64 (o:Int)):=by rw[<-hoS];have :=hgc q hlt 0 (by omega);rwa [Nat.mul_one] at this
   clear hgc
   obtain⟨pb,po,rfl,_,hpb,hpc⟩:=HX.out.2.2.1.chg HQ.out.1 HN.out.2.1 (by omega)
   have d0:wr.cell? (ad pb (po+o))=some (.bool (O o)):=by have :=hpc o hon 0 (by omega);rwa [Nat.mul_one] at this
   clear hpc
   have f1:wr.cell? (ad fb 1)=some (.slice (some (ad pb po)) no oc):=(World.cell?_of_block (a:=(ad fb 1)) (HQ.out.1.other fb HX.out.2.2.2.2 HN.out.2.2.1 HN.out.2.2.2.1)).trans HX.out.2.2.2.1
   have h2:wr.cell? (ad hb (ho+2))=some (.slice (some (ad r 0)) y.ns rc):=HQ.out.2.c2
   have r0:wr.cell? (ad r q)=some (.bool (B q)):=by have :=(HQ.out.2.row q hlt).1;simpa using this
   have rf:wr.frozen? (ad r q)=false:=(HQ.out.2.row q hlt).2
   have hq0:(0:Int)<=(q:Int):=by omega
   have hqn:(q:Int)<(y.ns:Int):=by omega
   have ho0:(0:Int)<=(o:Int):=by omega
   have hon':(o:Int)<(no:Int):=by omega
   cases hOq:O o with
   |true=>
    rw[hOq] at d0
    have HQ2:Hid (Chg hb ho (ho+5) r W (wr.setCell (ad r q) (.bool true))/\HAt (wr.setCell (ad r q) (.bool true)) hb ho ⟨4,(g:Int),y.ns,fun j=>if j<q+1 then B j||OO j else B j,sh,0⟩ r rc):=
     ⟨HQ.out.1.row HN.out.2.2.2.2.2.2 _ _,(HQ.out.2.setRow (k:=q) hlt true).congr ⟨rfl,rfl,rfl,fun j _=>by
      by_cases e:j=q
      ·
       subst e
       simp[HOv.out j o hoS,hOq]
      ·
       by_cases e2:j<q
       ·
        have :j<q+1:=by omega
        simp[e,e2,this]
       ·
        have :¬j<q+1:=by omega
        simp[e,e2,this],rfl,rfl⟩⟩
    go_wp2_with fail
    go_roundw
    case rel=>exact⟨q+1,by omega,by go_num,HQ2⟩
    case measure=>simp[intOf];omega
   |false=>
    rw[hOq] at d0
    have HQ2:Hid (Chg hb ho (ho+5) r W wr/\HAt wr hb ho ⟨4,(g:Int),y.ns,fun j=>if j<q+1 then B j||OO j else B j,sh,0⟩ r rc):=
     ⟨HQ.out.1,HQ.out.2.congr ⟨rfl,rfl,rfl,fun j _=>by
      by_cases e:j=q
      ·
       subst e
       simp[HOv.out j o hoS,hOq]
      ·
       by_cases e2:j<q
       ·
        have :j<q+1:=by omega
        simp[e2,this]
       ·
        have :¬j<q+1:=by omega
        simp[e2,this],rfl,rfl⟩⟩
    go_wp2_with fail
    go_roundw
    case rel=>exact⟨q+1,by omega,by go_num,HQ2⟩
    case measure=>simp[intOf];omega
  ·
   obtain rfl:q=y.ns:=by omega
   obtain⟨BB,HBB⟩:∃BB,Hid (onB B OO=BB):=⟨_,rfl⟩
   have HQ0:Hid (Chg hb ho (ho+5) r W wr/\HAt wr hb ho ⟨4,(g:Int),y.ns,BB,sh,0⟩ r rc):=⟨HQ.out.1,HQ.out.2.congr ⟨rfl,rfl,rfl,fun j hj=>by
    rw[<-HBB.out]
    have :j<y.ns:=hj
    simp[this,onB],rfl,rfl⟩⟩
   clear HQ
   go_wp2_with fail
   go_loopw [] (fun wr=>∃q k:Nat,q<=y.ns/\Hid (passN y.ns BB OO y.ns g=passN y.ns BB OO k q/\y.ns<=q+k)/\Hid (Chg hb ho (ho+5) r W wr/\HAt wr hb ho ⟨4,(q:Int),y.ns,BB,sh,0⟩ r rc)) (fun wr=>y.ns-goneN hb ho wr)
   case atStart=>exact⟨g,y.ns,by omega,⟨rfl,by omega⟩,HQ0⟩
   case round=>
    obtain⟨q,k,hq,HP,HQ⟩:=hrel
    have h1:wr.cell? (ad hb (ho+1))=some (.int .i64 (q:Int)):=HQ.out.2.c1
    by_cases hlt:q<y.ns
    ·
     obtain⟨o,hoS,hon⟩:=HIN.out q hlt
     obtain⟨gb,go,rfl,_,hgb,hgc⟩:=HX.out.2.1.chg HQ.out.1 HN.out.1 (by omega)
     have c0:wr.cell? (ad gb (go+q))=some (.int .i64 (o:Int)):=by rw[<-hoS];have :=hgc q hlt 0 (by omega);rwa [Nat.mul_one] at this
     clear hgc
     obtain⟨pb,po,rfl,_,hpb,hpc⟩:=HX.out.2.2.1.chg HQ.out.1 HN.out.2.1 (by omega)
     have d0:wr.cell? (ad pb (po+o))=some (.bool (O o)):=by have :=hpc o hon 0 (by omega);rwa [Nat.mul_one] at this
     clear hpc
     have f1:wr.cell? (ad fb 1)=some (.slice (some (ad pb po)) no oc):=(World.cell?_of_block (a:=(ad fb 1)) (HQ.out.1.other fb HX.out.2.2.2.2 HN.out.2.2.1 HN.out.2.2.2.1)).trans HX.out.2.2.2.1
     have h2:wr.cell? (ad hb (ho+2))=some (.slice (some (ad r 0)) y.ns rc):=HQ.out.2.c2
     have hfz:wr.frozen? (ad hb (ho+1))=false:=HQ.out.2.fr 1 (by omega)
     have y0:=(HX.out.1.chg HQ.out.1 HN.out.2.2.2.2.1 HN.out.2.2.2.2.2.1).cel 0
     have r0:wr.cell? (ad r q)=some (.bool (BB q)):=(HQ.out.2.row q hlt).1
     have hq0:(0:Int)<=(q:Int):=by omega
     have hqn:(q:Int)<(y.ns:Int):=by omega
     have ho0:(0:Int)<=(o:Int):=by omega
     have hon':(o:Int)<(no:Int):=by omega
     have eO:OO q=O o:=HOv.out q o hoS
     cases hBq:BB q with
     |false=>
      rw[hBq] at r0
      go_wp2_with fail
      have HST:Hid (passN y.ns BB OO y.ns g=q):=HP.out.1.trans (passN_stop k (by simp[stopB,hBq]))
      have HR:Hid (∀v,PassR y.ns OO hb ho ⟨4,(g:Int),y.ns,B,sh,0⟩ r w (.returned (.tuple #[])) (wr.drewN v)):=fun v=>⟨r,rc,rfl,(HQ.out.2.drewN v).congr (by
       rw[useH]
       simp only[Int.toNat_natCast,HST.out,HBB.out]
       rw[if_neg (by omega)]
       exact likeH.refl _),.inl rfl,(HC.out.1.trans HQ.out.1).drewN v⟩
      go_quiet (fail)
      go_wp2_with fail
      exact bodyPost_ret (v:=.tuple #[]) (by simp[results,Tryz.results73,go_sem]) rfl (HR.out _)
     |true=>
      rw[hBq] at r0
      cases hOq:O o with
      |true=>
       rw[hOq] at d0 eO
       go_wp2_with fail
       have HST:Hid (passN y.ns BB OO y.ns g=q):=HP.out.1.trans (passN_stop k (by simp[stopB,eO]))
       have HR:Hid (∀v,PassR y.ns OO hb ho ⟨4,(g:Int),y.ns,B,sh,0⟩ r w (.returned (.tuple #[])) (wr.drewN v)):=fun v=>⟨r,rc,rfl,(HQ.out.2.drewN v).congr (by
        rw[useH]
        simp only[Int.toNat_natCast,HST.out,HBB.out]
        rw[if_neg (by omega)]
        exact likeH.refl _),.inl rfl,(HC.out.1.trans HQ.out.1).drewN v⟩
       go_quiet (fail)
       go_wp2_with fail
       exact bodyPost_ret (v:=.tuple #[]) (by simp[results,Tryz.results73,go_sem]) rfl (HR.out _)
      |false=>
       rw[hOq] at d0 eO
       by_cases hl:q+1=y.ns
       ·
        have hd:decide ((q:Int)<(y.ns:Int)-1)=false:=by simp;omega
        go_wp2_with fail
        have hng:stopB y.ns BB OO q=false:=by simp[stopB,hBq,eO,hl,hlt]
        obtain⟨k',rfl⟩:∃k',k=k'+1:=⟨k-1,by have :=HP.out.2;omega⟩
        have HP2:Hid (passN y.ns BB OO y.ns g=passN y.ns BB OO k' (q+1)/\y.ns<=q+1+k'):=⟨HP.out.1.trans (passN_step k' hng),by have :=HP.out.2;omega⟩
        have HQ2:Hid (∀v,Chg hb ho (ho+5) r W ((wr.drewN v).setCell (ad hb (ho+1)) (.int .i64 ((q:Int)+1)))/\HAt ((wr.drewN v).setCell (ad hb (ho+1)) (.int .i64 ((q:Int)+1))) hb ho ⟨4,((q+1:Nat):Int),y.ns,BB,sh,0⟩ r rc):=fun v=>⟨(HQ.out.1.drewN v).set (by omega) (by omega) _,((HQ.out.2.drewN v).setGone ((q:Int)+1)).congr ⟨rfl,by simp,rfl,fun _ _=>rfl,rfl,rfl⟩⟩
        have HGq:Hid (goneN hb ho wr=q):=by rw[Hid,HQ.out.2.goneN_eq];simp
        go_quiet (fail)
        go_wp2_with fail
        go_roundw
        case rel=>exact⟨q+1,k',by omega,HP2,HQ2.out _⟩
        case measure=>rw[(HQ2.out _).2.goneN_eq,HGq.out];simp;omega
       ·
        have hd:(q:Int)<(y.ns:Int)-1:=by omega
        have hq1:(q:Int)+1<(y.ns:Int):=by omega
        have hq10:(0:Int)<=(q:Int)+1:=by omega
        have r1:wr.cell? (ad r (q+1))=some (.bool (BB (q+1))):=(HQ.out.2.row (q+1) (show q+1<y.ns by omega)).1
        cases hB1:BB (q+1) with
        |false=>
         rw[hB1] at r1
         go_wp2_with fail
         have HST:Hid (passN y.ns BB OO y.ns g=q):=HP.out.1.trans (passN_stop k (by simp[stopB,hB1,hl]))
         have HR:Hid (∀v,PassR y.ns OO hb ho ⟨4,(g:Int),y.ns,B,sh,0⟩ r w (.returned (.tuple #[])) (wr.drewN v)):=fun v=>⟨r,rc,rfl,(HQ.out.2.drewN v).congr (by
          rw[useH]
          simp only[Int.toNat_natCast,HST.out,HBB.out]
          rw[if_neg (by omega)]
          exact likeH.refl _),.inl rfl,(HC.out.1.trans HQ.out.1).drewN v⟩
         go_quiet (fail)
         go_wp2_with fail
         exact bodyPost_ret (v:=.tuple #[]) (by simp[results,Tryz.results73,go_sem]) rfl (HR.out _)
        |true=>
         rw[hB1] at r1
         go_wp2_with fail
         have hng:stopB y.ns BB OO q=false:=by simp[stopB,hBq,eO,hB1,hlt]
         obtain⟨k',rfl⟩:∃k',k=k'+1:=⟨k-1,by have :=HP.out.2;omega⟩
         have HP2:Hid (passN y.ns BB OO y.ns g=passN y.ns BB OO k' (q+1)/\y.ns<=q+1+k'):=⟨HP.out.1.trans (passN_step k' hng),by have :=HP.out.2;omega⟩
         have HQ2:Hid (∀v,Chg hb ho (ho+5) r W ((wr.drewN v).setCell (ad hb (ho+1)) (.int .i64 ((q:Int)+1)))/\HAt ((wr.drewN v).setCell (ad hb (ho+1)) (.int .i64 ((q:Int)+1))) hb ho ⟨4,((q+1:Nat):Int),y.ns,BB,sh,0⟩ r rc):=fun v=>⟨(HQ.out.1.drewN v).set (by omega) (by omega) _,((HQ.out.2.drewN v).setGone ((q:Int)+1)).congr ⟨rfl,by simp,rfl,fun _ _=>rfl,rfl,rfl⟩⟩
         have HGq:Hid (goneN hb ho wr=q):=by rw[Hid,HQ.out.2.goneN_eq];simp
         go_quiet (fail)
         go_wp2_with fail
         go_roundw
         case rel=>exact⟨q+1,k',by omega,HP2,HQ2.out _⟩
         case measure=>rw[(HQ2.out _).2.goneN_eq,HGq.out];simp;omega
    ·
     obtain rfl:q=y.ns:=by omega
     go_wp2_with fail
     refine(idle54 hb ho _ r rc wr (show y.ns<=1048576 from hns) HQ.out.2).mono ?_
     rintro e w1 ⟨he,hA,hC⟩
     have HST:Hid (passN y.ns BB OO y.ns g=y.ns):=HP.out.1.trans (passN_end _ _ _ k)
     have HR:Hid (PassR y.ns OO hb ho ⟨4,(g:Int),y.ns,B,sh,0⟩ r w (.returned (.tuple #[])) w1):=⟨_,_,rfl,hA.congr (by
      rw[useH]
      simp only[Int.toNat_natCast,HBB.out,HST.out]
      exact likeH.refl _),.inr (Nat.le_trans HC.out.1.size HQ.out.1.size),HC.out.1.trans (HQ.out.1.trans hC)⟩
     subst he
     go_wp2_with fail
     exact bodyPost_end (v:=.tuple #[]) (by simp[results,Tryz.results73,go_sem]) rfl HR.out
def turnsB (L:Nat->Nat->Int) (n:Nat) (P:Nat->Nat->Int):Bool:=allB (fun j=>decide (P (L j 0).toNat 0=L j 1)&&decide (P (L j 0).toNat 1=L j 1)) n
def freeB (S:Nat->Int) (n:Nat) (O:Nat->Bool):Bool:=allB (fun j=>!O (S j).toNat) n
def prvB (y:Wy) (O:Nat->Bool) (P:Nat->Nat->Int):Bool:=turnsB y.L y.nl P&&(turnsB y.F y.nf P&&(freeB y.S y.ns O&&freeB y.O y.no O))
structure Wy.In (y:Wy) (no np:Nat):Prop where
 l:∀j,j<y.nl->∃o:Nat,y.L j 0=(o:Int)/\o<np
 f:∀j,j<y.nf->∃o:Nat,y.F j 0=(o:Int)/\o<np
 s:∀j,j<y.ns->∃o:Nat,y.S j=(o:Int)/\o<no
 o:∀j,j<y.no->∃o:Nat,y.O j=(o:Int)/\o<no
set_option maxRecDepth 100000 in
set_option maxHeartbeats 16000000 in
theorem proved67 (p:Pl) (f:Fm) (wa ya ba oa pa ha:Option Addr) (wc yc bc oc pc hc:Nat) (i:Nat) (w:World) (hs:p.small) (hfo:f.no<=1048576) (hfp:f.np<=1048576) (hi:i<p.ny) (hin:(p.Y i).In f.no f.np) (h:PlIn 0 w p wa ya ba) (ho:VsAt 1 0 w oa f.no (boolF f.O)) (hp:VsAt 2 0 w pa f.np (intF f.P)):
  Calls Tryz.prog 66 #[.agg #[.int .i64 p.sec,.slice wa p.nw wc,.slice ya p.ny yc,.slice ba p.nb bc,.int .i64 p.hold],.agg #[.bool f.ok,.slice oa f.no oc,.slice pa f.np pc,.slice ha f.nh hc],.int .i64 (i:Int)] w fun e w'=>e=.returned (.bool (prvB (p.Y i) f.O f.P))/\Below w.heap.size w w':=by
 have hsm:=hs.2.2.1 i hi
 have hpy:=hs.2.1
 obtain⟨b,off,hya,_,hb,hcy⟩:=h.wy (by omega)
 obtain⟨sa,sc,la,lc,fa,fc,oo,oc2,ma,mc,x0,x1,x2,x3,x4,hy⟩:=hcy i hi
 subst hya
 rcases hY:p.Y i with⟨n0,S,n1,L,n2,F,n3,Ov,n4,M⟩
 rw[hY] at x0 x1 x2 x3 x4 hy hin hsm
 dsimp only at x0 x1 x2 x3 x4
 have hnl:n1<=1048576:=by have :=hsm.2.1;dsimp only at this;omega
 have hnf:n2<=1048576:=by have :=hsm.2.2.1;dsimp only at this;omega
 have hns:n0<=1048576:=by have :=hsm.1;dsimp only at this;omega
 have hno:n3<=1048576:=by have :=hsm.2.2.2.1;dsimp only at this;omega
 have B2:=bel2 w (.cells (vPl p wa wc (some (ad b off)) yc ba bc) 37) (.cells (vFr f oa oc pa pc ha hc) 42)
 have v0:((w.alloc (.cells (vPl p wa wc (some (ad b off)) yc ba bc) 37)).alloc (.cells (vFr f oa oc pa pc ha hc) 42)).cell? (ad b (off+i*5))=some (.slice sa n0 sc):=cell_keep B2 hb x0
 have v1:((w.alloc (.cells (vPl p wa wc (some (ad b off)) yc ba bc) 37)).alloc (.cells (vFr f oa oc pa pc ha hc) 42)).cell? (ad b (off+i*5+1))=some (.slice la n1 lc):=cell_keep B2 hb x1
 have v2:((w.alloc (.cells (vPl p wa wc (some (ad b off)) yc ba bc) 37)).alloc (.cells (vFr f oa oc pa pc ha hc) 42)).cell? (ad b (off+i*5+2))=some (.slice fa n2 fc):=cell_keep B2 hb x2
 have v3:((w.alloc (.cells (vPl p wa wc (some (ad b off)) yc ba bc) 37)).alloc (.cells (vFr f oa oc pa pc ha hc) 42)).cell? (ad b (off+i*5+3))=some (.slice oo n3 oc2):=cell_keep B2 hb x3
 have v4:((w.alloc (.cells (vPl p wa wc (some (ad b off)) yc ba bc) 37)).alloc (.cells (vFr f oa oc pa pc ha hc) 42)).cell? (ad b (off+i*5+4))=some (.slice ma n4 mc):=cell_keep B2 hb x4
 have hi0:(0:Int)<=(i:Int):=by omega
 have hil:(i:Int)<(p.ny:Int):=by omega
 have HY:Hid (WyIn 0 w ⟨n0,S,n1,L,n2,F,n3,Ov,n4,M⟩ sa la fa oo ma/\VsAt 1 0 w oa f.no (boolF f.O)/\VsAt 2 0 w pa f.np (intF f.P)/\Wy.In ⟨n0,S,n1,L,n2,F,n3,Ov,n4,M⟩ f.no f.np):=⟨hy,ho,hp,hin⟩
 obtain⟨R,HR⟩:∃R,Hid (prvB ⟨n0,S,n1,L,n2,F,n3,Ov,n4,M⟩ f.O f.P=R):=⟨_,rfl⟩
 rw[HR.out]
 clear hs h ho hp hcy hsm x0 x1 x2 x3 x4 hy hin B2 hY hb
 go_enter Tryz.func66,Tryz.ntmps66
 go_wp2_with fail
 have HX:Hid (Below w.heap.size w ((((w.alloc (.cells (vPl p wa wc (some (ad b off)) yc ba bc) 37)).alloc (.cells (vFr f oa oc pa pc ha hc) 42)).alloc (.cells #[.slice sa n0 sc,.slice la n1 lc,.slice fa n2 fc,.slice oo n3 oc2,.slice ma n4 mc] 112)).alloc (.cells #[.slice la n1 lc,.slice fa n2 fc] 110))/\Box ((((w.alloc (.cells (vPl p wa wc (some (ad b off)) yc ba bc) 37)).alloc (.cells (vFr f oa oc pa pc ha hc) 42)).alloc (.cells #[.slice sa n0 sc,.slice la n1 lc,.slice fa n2 fc,.slice oo n3 oc2,.slice ma n4 mc] 112)).alloc (.cells #[.slice la n1 lc,.slice fa n2 fc] 110)) (w.heap.size+1) 42 (vFr f oa oc pa pc ha hc)/\Box ((((w.alloc (.cells (vPl p wa wc (some (ad b off)) yc ba bc) 37)).alloc (.cells (vFr f oa oc pa pc ha hc) 42)).alloc (.cells #[.slice sa n0 sc,.slice la n1 lc,.slice fa n2 fc,.slice oo n3 oc2,.slice ma n4 mc] 112)).alloc (.cells #[.slice la n1 lc,.slice fa n2 fc] 110)) (w.heap.size+1+1) 112 #[.slice sa n0 sc,.slice la n1 lc,.slice fa n2 fc,.slice oo n3 oc2,.slice ma n4 mc]/\Box ((((w.alloc (.cells (vPl p wa wc (some (ad b off)) yc ba bc) 37)).alloc (.cells (vFr f oa oc pa pc ha hc) 42)).alloc (.cells #[.slice sa n0 sc,.slice la n1 lc,.slice fa n2 fc,.slice oo n3 oc2,.slice ma n4 mc] 112)).alloc (.cells #[.slice la n1 lc,.slice fa n2 fc] 110)) (w.heap.size+1+1+1) 110 #[.slice la n1 lc,.slice fa n2 fc]):=⟨bel4 _ _ _ _ _,by have :=(((Box.new (w.alloc (.cells (vPl p wa wc (some (ad b off)) yc ba bc) 37)) 42 (vFr f oa oc pa pc ha hc)).alloc (.cells #[.slice sa n0 sc,.slice la n1 lc,.slice fa n2 fc,.slice oo n3 oc2,.slice ma n4 mc] 112)).alloc (.cells #[.slice la n1 lc,.slice fa n2 fc] 110));simpa using this,by have :=(Box.new (((w.alloc (.cells (vPl p wa wc (some (ad b off)) yc ba bc) 37)).alloc (.cells (vFr f oa oc pa pc ha hc) 42))) 112 #[.slice sa n0 sc,.slice la n1 lc,.slice fa n2 fc,.slice oo n3 oc2,.slice ma n4 mc]).alloc (.cells #[.slice la n1 lc,.slice fa n2 fc] 110);simpa using this,by have :=Box.new ((((w.alloc (.cells (vPl p wa wc (some (ad b off)) yc ba bc) 37)).alloc (.cells (vFr f oa oc pa pc ha hc) 42)).alloc (.cells #[.slice sa n0 sc,.slice la n1 lc,.slice fa n2 fc,.slice oo n3 oc2,.slice ma n4 mc] 112))) 110 #[.slice la n1 lc,.slice fa n2 fc];simpa using this⟩
 clear v0 v1 v2 v3 v4
 generalize ((((w.alloc (.cells (vPl p wa wc (some (ad b off)) yc ba bc) 37)).alloc (.cells (vFr f oa oc pa pc ha hc) 42)).alloc (.cells #[.slice sa n0 sc,.slice la n1 lc,.slice fa n2 fc,.slice oo n3 oc2,.slice ma n4 mc] 112)).alloc (.cells #[.slice la n1 lc,.slice fa n2 fc] 110))=W at HX⊢
 obtain⟨TB,HTB⟩:∃TB:Nat->Bool,Hid (TB 0=turnsB L n1 f.P/\TB 1=turnsB F n2 f.P):=⟨fun q=>if q=0 then turnsB L n1 f.P else turnsB F n2 f.P,by simp[Hid]⟩
 have HL:Hid (∀q,q<2->∃a n c G,W.cell? (ad (w.heap.size+1+1+1) q)=some (.slice a n c)/\n<=1048576/\VsAt 2 0 W a n (intF G)/\(∀j,j<n->∃o:Nat,G j 0=(o:Int)/\o<f.np)/\TB q=turnsB G n f.P):=fun q hq=>by
  rcases(show q=0\/q=1 by omega) with e|e
  ·
   subst e
   exact⟨la,n1,lc,L,HX.out.2.2.2.cell 0,hnl,HY.out.1.l.mono nr HX.out.1 nr,HY.out.2.2.2.l,HTB.out.1⟩
  ·
   subst e
   exact⟨fa,n2,fc,F,HX.out.2.2.2.cell 1,hnf,HY.out.1.f.mono nr HX.out.1 nr,HY.out.2.2.2.f,HTB.out.2⟩
 have HPo:Hid (VsAt 2 0 W pa f.np (intF f.P)/\VsAt 1 0 W oa f.no (boolF f.O)):=⟨HY.out.2.2.1.mono nr HX.out.1 nr,HY.out.2.1.mono nr HX.out.1 nr⟩
 have HRT:Hid (∀q,q<2->TB q=false->R=false):=fun q hq he=>by
  rw[<-HR.out,prvB]
  rcases(show q=0\/q=1 by omega) with e|e
  ·
   subst e
   rw[<-HTB.out.1,he];rfl
  ·
   subst e
   rw[<-HTB.out.2,he,Bool.false_and,Bool.and_false]
 go_loopw [27] (fun i wr=>∃q:Nat,q<=2/\i=.int .i64 q/\Hid (∀k,k<q->TB k=true)/\Hid (Below W.heap.size W wr)) (fun i _=>2-(intOf i).toNat)
 case atStart=>exact⟨0,Nat.zero_le _,rfl,fun i hi=>absurd hi (Nat.not_lt_zero _),Below.refl _ _⟩
 case round=>
  obtain⟨q,hq,rfl,HQ,HB⟩:=hrel
  by_cases hlt:q<2
  ·
   obtain⟨a,n,c,G,hcl,hn,hG,hGo,hTq⟩:=HL.out q hlt
   have HG:Hid (VsAt 2 0 W a n (intF G)/\(∀j,j<n->∃o:Nat,G j 0=(o:Int)/\o<f.np)/\TB q=turnsB G n f.P):=⟨hG,hGo,hTq⟩
   have cl:wr.cell? (ad (w.heap.size+1+1+1) q)=some (.slice a n c):=cell_keep HB.out HX.out.2.2.2.lt hcl
   clear hG hGo hTq hcl
   have hq0:(0:Int)<=(q:Int):=by omega
   have hqn:(q:Int)<(2:Int):=by omega
   go_wp2_with fail
   clear cl
   have HBq:=HB
   clear HB
   go_loopw [33] (fun j wi=>∃r:Nat,r<=n/\j=.int .i64 r/\Hid (∀k,k<r->(decide (f.P (G k 0).toNat 0=G k 1)&&decide (f.P (G k 0).toNat 1=G k 1))=true)/\Hid (Below W.heap.size W wi)) (fun j _=>n-(intOf j).toNat)
   case atStart=>exact⟨0,Nat.zero_le _,rfl,fun i hi=>absurd hi (Nat.not_lt_zero _),HBq⟩
   case round=>
    obtain⟨r,hr,rfl,HQr,HB⟩:=hrel
    by_cases hrn:r<n
    ·
     obtain⟨o,ho,hon⟩:=HG.out.2.1 r hrn
     obtain⟨gb,go,rfl,_,hgb,hgc⟩:=HG.out.1.mono nr HB.out nr (by omega)
     have c0:wr.cell? (ad gb (go+r*2))=some (.int .i64 (o:Int)):=by rw[<-ho];exact hgc r hrn 0 (by omega)
     have c1:wr.cell? (ad gb (go+r*2+1))=some (.int .i64 (G r 1)):=hgc r hrn 1 (by omega)
     clear hgc
     have hr0:(0:Int)<=(r:Int):=by omega
     have hrn':(r:Int)<(n:Int):=by omega
     go_wp2_with fail
     have HX1:Hid (Box (wr.alloc (.cells #[.int .i64 (o:Int),.int .i64 (G r 1)] 146)) wr.heap.size 146 #[.int .i64 (o:Int),.int .i64 (G r 1)]/\Below W.heap.size W (wr.alloc (.cells #[.int .i64 (o:Int),.int .i64 (G r 1)] 146))):=⟨Box.new wr 146 _,HB.out.alloc HB.out.size _⟩
     generalize wr.alloc (.cells #[.int .i64 (o:Int),.int .i64 (G r 1)] 146)=W1 at HX1⊢
     generalize wr.heap.size=xb at HX1⊢
     clear c0 c1 HB
     obtain⟨pb,po,rfl,_,hpb,hpc⟩:=HPo.out.1.mono nr HX1.out.2 nr (by omega)
     have d0:W1.cell? (ad pb (po+o*2))=some (.int .i64 (f.P o 0)):=hpc o hon 0 (by omega)
     have d1:W1.cell? (ad pb (po+o*2+1))=some (.int .i64 (f.P o 1)):=hpc o hon 1 (by omega)
     obtain⟨t0,t1⟩:=HX1.out.1.c2
     have f2:=(HX.out.2.1.mono HX1.out.2 nr).cel 2
     clear hpc
     have ho0:(0:Int)<=(o:Int):=by omega
     have hon':(o:Int)<(f.np:Int):=by omega
     have HNO:Hid ((decide (f.P o 0=G r 1)&&decide (f.P o 1=G r 1))=false->R=false):=fun e=>HRT.out q hlt (by rw[HG.out.2.2,turnsB,allB_no hrn (by simp only[ho,Int.toNat_natCast];exact e)])
     have HGO:Hid ((decide (f.P o 0=G r 1)&&decide (f.P o 1=G r 1))=true->∀k,k<r+1->(decide (f.P (G k 0).toNat 0=G k 1)&&decide (f.P (G k 0).toNat 1=G k 1))=true):=fun e k hk=>by
      by_cases e2:k=r
      ·
       subst e2
       simp only[ho,Int.toNat_natCast]
       exact e
      ·
       exact HQr.out k (by omega)
     have HBT:Hid (∀v,Below w.heap.size w (W1.drewN v)):=fun v=>below_drewN (HX.out.1.trans (HX1.out.2.mono HX.out.1.size)) _
     by_cases e0:f.P o 0=G r 1
     ·
      have z0:(f.P o 0 !=G r 1)=false:=by simpa using e0
      by_cases e1:f.P o 1=G r 1
      ·
       have z1:(f.P o 1 !=G r 1)=false:=by simpa using e1
       go_quiet (fail)
       go_wp2_with fail
       go_roundw
       case rel=>exact⟨r+1,by omega,by go_num,HGO.out (by simp[e0,e1]),below_drewN HX1.out.2 _⟩
       case measure=>simp[intOf];omega
      ·
       have z1:(f.P o 1 !=G r 1)=true:=by simpa using e1
       go_quiet (fail)
       go_wp2_with fail
       go_ret
       exact⟨by rw[HNO.out (by simp[e1])];rfl,HBT.out _⟩
     ·
      have z0:(f.P o 0 !=G r 1)=true:=by simpa using e0
      go_quiet (fail)
      go_wp2_with fail
      go_ret
      exact⟨by rw[HNO.out (by simp[e0])];rfl,HBT.out _⟩
    ·
     obtain rfl:r=n:=by omega
     have HQ2:Hid (∀k,k<q+1->TB k=true):=fun k hk=>by
      by_cases e:k=q
      ·
       subst e
       rw[HG.out.2.2,turnsB]
       exact allB_iff.2 HQr.out
      ·
       exact HQ.out k (by omega)
     go_wp2_with fail
     go_roundw
     case rel=>exact⟨q+1,by omega,by go_num,HQ2,HB⟩
     case measure=>simp[intOf];omega
  ·
   obtain rfl:q=2:=by omega
   have y0:=(HX.out.2.2.1.mono HB.out nr).cel 0
   have y3:=(HX.out.2.2.1.mono HB.out nr).cel 3
   have hTT:TB 0=true/\TB 1=true:=⟨HQ.out 0 (by omega),HQ.out 1 (by omega)⟩
   go_wp2_with fail
   have HZ:Hid (Box (wr.alloc (.cells #[.slice sa n0 sc,.slice oo n3 oc2] 22)) wr.heap.size 22 #[.slice sa n0 sc,.slice oo n3 oc2]/\Box (wr.alloc (.cells #[.slice sa n0 sc,.slice oo n3 oc2] 22)) (w.heap.size+1) 42 (vFr f oa oc pa pc ha hc)/\Below w.heap.size w (wr.alloc (.cells #[.slice sa n0 sc,.slice oo n3 oc2] 22))/\Below W.heap.size W (wr.alloc (.cells #[.slice sa n0 sc,.slice oo n3 oc2] 22))):=⟨Box.new _ _ _,(HX.out.2.1.mono HB.out nr).alloc _,(HX.out.1.trans (HB.out.mono HX.out.1.size)).alloc (HX.out.1.trans (HB.out.mono HX.out.1.size)).size _,HB.out.alloc HB.out.size _⟩
   generalize wr.alloc (.cells #[.slice sa n0 sc,.slice oo n3 oc2] 22)=V at HZ⊢
   generalize wr.heap.size=zb at HZ⊢
   obtain⟨SB,HSB⟩:∃SB:Nat->Bool,Hid (SB 0=freeB S n0 f.O/\SB 1=freeB Ov n3 f.O):=⟨fun q=>if q=0 then freeB S n0 f.O else freeB Ov n3 f.O,by simp[Hid]⟩
   have HL2:Hid (∀q,q<2->∃a n c G,V.cell? (ad zb q)=some (.slice a n c)/\n<=1048576/\VsAt 1 0 V a n (oneF G)/\(∀j,j<n->∃o:Nat,G j=(o:Int)/\o<f.no)/\SB q=freeB G n f.O):=fun q hq=>by
    rcases(show q=0\/q=1 by omega) with e|e
    ·
     subst e
     exact⟨sa,n0,sc,S,HZ.out.1.cell 0,hns,HY.out.1.s.mono nr HZ.out.2.2.1 nr,HY.out.2.2.2.s,HSB.out.1⟩
    ·
     subst e
     exact⟨oo,n3,oc2,Ov,HZ.out.1.cell 1,hno,HY.out.1.o.mono nr HZ.out.2.2.1 nr,HY.out.2.2.2.o,HSB.out.2⟩
   have HOo:Hid (VsAt 1 0 V oa f.no (boolF f.O)):=HY.out.2.1.mono nr HZ.out.2.2.1 nr
   have HRS:Hid (R=(SB 0&&SB 1)):=by
    rw[Hid,<-HR.out,prvB,HSB.out.1,HSB.out.2]
    show(turnsB L n1 f.P&&(turnsB F n2 f.P&&_))=_
    rw[<-HTB.out.1,<-HTB.out.2,hTT.1,hTT.2,Bool.true_and,Bool.true_and]
   clear y0 y3 hTT HB HQ HRT HL HPo HTB HR
   go_loopw [67] (fun i wr=>∃q:Nat,q<=2/\i=.int .i64 q/\Hid (∀k,k<q->SB k=true)/\Hid (Below V.heap.size V wr)) (fun i _=>2-(intOf i).toNat)
   case atStart=>exact⟨0,Nat.zero_le _,rfl,fun i hi=>absurd hi (Nat.not_lt_zero _),Below.refl _ _⟩
   case round=>
    obtain⟨q,hq,rfl,HQ,HB⟩:=hrel
    by_cases hlt:q<2
    ·
     obtain⟨a,n,c,G,hcl,hn,hG,hGo,hTq⟩:=HL2.out q hlt
     have HG:Hid (VsAt 1 0 V a n (oneF G)/\(∀j,j<n->∃o:Nat,G j=(o:Int)/\o<f.no)/\SB q=freeB G n f.O):=⟨hG,hGo,hTq⟩
     have cl:wr.cell? (ad zb q)=some (.slice a n c):=cell_keep HB.out HZ.out.1.lt hcl
     clear hG hGo hTq hcl
     have hq0:(0:Int)<=(q:Int):=by omega
     have hqn:(q:Int)<(2:Int):=by omega
     go_wp2_with fail
     clear cl
     have HBq:=HB
     clear HB
     go_loopw [73] (fun j wi=>∃r:Nat,r<=n/\j=.int .i64 r/\Hid (∀k,k<r->(!f.O (G k).toNat)=true)/\Hid (Below V.heap.size V wi)) (fun j _=>n-(intOf j).toNat)
     case atStart=>exact⟨0,Nat.zero_le _,rfl,fun i hi=>absurd hi (Nat.not_lt_zero _),HBq⟩
     case round=>
      obtain⟨r,hr,rfl,HQr,HB⟩:=hrel
      by_cases hrn:r<n
      ·
       obtain⟨o,ho,hon⟩:=HG.out.2.1 r hrn
       obtain⟨gb,go,rfl,_,hgb,hgc⟩:=HG.out.1.mono nr HB.out nr (by omega)
       have c0:wr.cell? (ad gb (go+r))=some (.int .i64 (o:Int)):=by rw[<-ho];have :=hgc r hrn 0 (by omega);rwa [Nat.mul_one] at this
       clear hgc
       obtain⟨pb,po,rfl,_,hpb,hpc⟩:=HOo.out.mono nr HB.out nr (by omega)
       have d0:wr.cell? (ad pb (po+o))=some (.bool (f.O o)):=by have :=hpc o hon 0 (by omega);rwa [Nat.mul_one] at this
       have f1:=(HZ.out.2.1.mono HB.out nr).cel 1
       clear hpc
       have hr0:(0:Int)<=(r:Int):=by omega
       have hrn':(r:Int)<(n:Int):=by omega
       have ho0:(0:Int)<=(o:Int):=by omega
       have hon':(o:Int)<(f.no:Int):=by omega
       have HBT:Hid (Below w.heap.size w wr):=HZ.out.2.2.1.trans (HB.out.mono HZ.out.2.2.1.size)
       cases e0:f.O o with
       |true=>
        rw[e0] at d0
        have HF:Hid (R=false):=by
         have h0:SB q=false:=by rw[HG.out.2.2,freeB,allB_no hrn (by simp[ho,e0])]
         rw[Hid,HRS.out]
         rcases(show q=0\/q=1 by omega) with e|e
         ·
          subst e
          rw[h0];rfl
         ·
          subst e
          rw[h0,Bool.and_false]
        go_wp2_with fail
        go_ret
        exact⟨by rw[HF.out];rfl,HBT.out⟩
       |false=>
        rw[e0] at d0
        have HGO:Hid (∀k,k<r+1->(!f.O (G k).toNat)=true):=fun k hk=>by
         by_cases e2:k=r
         ·
          subst e2
          simp[ho,e0]
         ·
          exact HQr.out k (by omega)
        go_wp2_with fail
        go_roundw
        case rel=>exact⟨r+1,by omega,by go_num,HGO,HB⟩
        case measure=>simp[intOf];omega
      ·
       obtain rfl:r=n:=by omega
       have HQ2:Hid (∀k,k<q+1->SB k=true):=fun k hk=>by
        by_cases e:k=q
        ·
         subst e
         rw[HG.out.2.2,freeB]
         exact allB_iff.2 HQr.out
        ·
         exact HQ.out k (by omega)
       go_wp2_with fail
       go_roundw
       case rel=>exact⟨q+1,by omega,by go_num,HQ2,HB⟩
       case measure=>simp[intOf];omega
    ·
     obtain rfl:q=2:=by omega
     have HF:Hid (R=true):=by rw[Hid,HRS.out,HQ.out 0 (by omega),HQ.out 1 (by omega)];rfl
     have HBT:Hid (Below w.heap.size w wr):=HZ.out.2.2.1.trans (HB.out.mono HZ.out.2.2.1.size)
     go_wp2_with fail
     go_ret
     exact⟨by rw[HF.out];rfl,HBT.out⟩
theorem Chg.of_below {hb lo hi r:Nat}{w w':World}(h:Below w.heap.size w w') (hl:hb<w.heap.size):Chg hb lo hi r w w':=
 ⟨h.os,h.tape,h.output,h.size,fun k hk _ _=>h.block k hk,fun o _=>World.cell?_of_block (a:=(ad hb o)) (h.block hb hl),fun o=>World.frozen?_of_block (a:=(ad hb o)) (h.block hb hl)⟩
theorem Chg.below {hb lo hi r M:Nat}{w w':World}(h:Chg hb lo hi r w w') (hM:M<=w.heap.size) (h1:M<=hb) (h2:M<=r):Below M w w':=⟨h.os,h.tape,h.output,h.size,fun k hk=>h.other k (by omega) (by omega) (by omega)⟩
theorem HAt.chg {w w':World}{hb ho:Nat}{h:Hl}{r rc lo hi r0:Nat}(x:HAt w hb ho h r rc) (hc:Chg hb lo hi r0 w w') (ho':ho+5<=lo\/hi<=ho) (hr:r≠r0):HAt w' hb ho h r rc:=by
 have k2:=fun o=>World.cell?_of_block (w:=w) (w':=w') (a:=(ad r o)) (hc.other r x.rl x.ne hr)
 have kf2:=fun o=>World.frozen?_of_block (w:=w) (w':=w') (a:=(ad r o)) (hc.other r x.rl x.ne hr)
 exact⟨Nat.lt_of_lt_of_le x.lt hc.size,x.ne,(hc.cell _ (by omega)).trans x.c0,(hc.cell _ (by omega)).trans x.c1,(hc.cell _ (by omega)).trans x.c2,(hc.cell _ (by omega)).trans x.c3,(hc.cell _ (by omega)).trans x.c4,fun j hj=>(hc.frozen _).trans (x.fr j hj),Nat.lt_of_lt_of_le x.rl hc.size,fun j hj=>⟨(k2 _).trans (x.row j hj).1,(kf2 _).trans (x.row j hj).2⟩⟩
def updN {A:Type}(F:Nat->A) (i:Nat) (x:A):Nat->A:=fun j=>if j=i then x else F j
theorem updN_same {A:Type}(F:Nat->A) (i:Nat) (x:A):updN F i x i=x:=if_pos rfl
theorem updN_ne {A:Type}{F:Nat->A}{i j:Nat}{x:A}(h:j≠i):updN F i x j=F j:=if_neg h
structure FMem (M:Nat) (w:World) (fb hb:Nat) (ok:Bool) (oa:Option Addr) (no oc:Nat) (O:Nat->Bool) (pa:Option Addr) (np pc:Nat) (P:Nat->Nat->Int) (nh hc:Nat) (Y:Nat->Hl) (r rc:Nat->Nat):Prop where
 bx:Box w fb 42 #[.bool ok,.slice oa no oc,.slice pa np pc,.slice (some (ad hb 0)) nh hc]
 o:VsAt 1 0 w oa no (boolF O)
 p:VsAt 2 0 w pa np (intF P)
 h:∀i,i<nh->HAt w hb (i*5) (Y i) (r i) (rc i)
 inj:∀i,i<nh->∀j,j<nh->r i=r j->i=j
 fh:fb≠hb
 fr:∀i,i<nh->fb≠r i
 oo:∀i,i<nh->OffV no oa hb (r i)
 pp:∀i,i<nh->OffV np pa hb (r i)
 mf:M<=fb
 mh:M<=hb
 mr:∀i,i<nh->M<=r i
theorem FMem.step {M:Nat}{w w':World}{fb hb:Nat}{ok:Bool}{oa:Option Addr}{no oc:Nat}{O:Nat->Bool}{pa:Option Addr}{np pc:Nat}{P:Nat->Nat->Int}{nh hc:Nat}{Y:Nat->Hl}{r rc:Nat->Nat}
  (x:FMem M w fb hb ok oa no oc O pa np pc P nh hc Y r rc) {i:Nat}(hi:i<nh) (hM:M<=w.heap.size) (hC:Chg hb (i*5) (i*5+5) (r i) w w') {k:Hl}{r' rc':Nat}(hA:HAt w' hb (i*5) k r' rc') (hr:r'=r i\/w.heap.size<=r'):
  FMem M w' fb hb ok oa no oc O pa np pc P nh hc (updN Y i k) (updN r i r') (updN rc i rc'):=by
 have hoff:∀ {c n:Nat}{a:Option Addr}{F:Nat->Nat->Value},VsAt c 0 w a n F->(∀j,j<nh->OffV n a hb (r j))->∀j,j<nh->OffV n a hb (updN r i r' j):=fun {c n a F} hv hf j hj h0 b off e=>by
  obtain⟨b',off',e',_,hlt,_⟩:=hv h0
  rw[e] at e'
  simp only[Option.some.injEq,Addr.mk.injEq] at e'
  refine⟨(hf j hj h0 b off e).1,?_⟩
  by_cases c:j=i
  ·
   subst c
   rw[updN_same]
   rcases hr with rfl|hr
   ·
    exact(hf j hj h0 b off e).2
   ·
    omega
  ·
   rw[updN_ne c]
   exact(hf j hj h0 b off e).2
 refine⟨x.bx.chg hC x.fh (x.fr i hi),x.o.chg hC (x.oo i hi),x.p.chg hC (x.pp i hi),fun j hj=>?_,fun j hj l hl e=>?_,x.fh,fun j hj=>?_,hoff x.o x.oo,hoff x.p x.pp,x.mf,x.mh,fun j hj=>?_⟩
 ·
  by_cases c:j=i
  ·
   subst c
   simp only[updN_same]
   exact hA
  ·
   simp only[updN_ne c]
   exact(x.h j hj).chg hC (by omega) fun e=>c (x.inj j hj i hi e)
 ·
  by_cases c:j=i
  ·
   by_cases c2:l=i
   ·
    omega
   ·
    subst c
    rw[updN_same,updN_ne c2] at e
    rcases hr with hr|hr
    ·
     rw[hr] at e
     exact x.inj j hi l hl e
    ·
     have :=(x.h l hl).rl
     omega
  ·
   by_cases c2:l=i
   ·
    subst c2
    rw[updN_same,updN_ne c] at e
    rcases hr with hr|hr
    ·
     rw[hr] at e
     exact x.inj j hj l hi e
    ·
     have :=(x.h j hj).rl
     omega
   ·
    rw[updN_ne c,updN_ne c2] at e
    exact x.inj j hj l hl e
 ·
  by_cases c:j=i
  ·
   subst c
   rw[updN_same]
   rcases hr with hr|hr
   ·
    rw[hr]
    exact x.fr j hj
   ·
    have :=x.bx.lt
    omega
  ·
   rw[updN_ne c]
   exact x.fr j hj
 ·
  by_cases c:j=i
  ·
   subst c
   rw[updN_same]
   rcases hr with hr|hr
   ·
    rw[hr]
    exact x.mr j hj
   ·
    omega
  ·
   rw[updN_ne c]
   exact x.mr j hj
theorem FMem.congr {M:Nat}{w:World}{fb hb:Nat}{ok:Bool}{oa:Option Addr}{no oc:Nat}{O:Nat->Bool}{pa:Option Addr}{np pc:Nat}{P:Nat->Nat->Int}{nh hc:Nat}{Y Z:Nat->Hl}{r rc:Nat->Nat}
  (x:FMem M w fb hb ok oa no oc O pa np pc P nh hc Y r rc) (e:∀i,i<nh->likeH (Y i) (Z i)):FMem M w fb hb ok oa no oc O pa np pc P nh hc Z r rc:=
 ⟨x.bx,x.o,x.p,fun i hi=>(x.h i hi).congr (e i hi),x.inj,x.fh,x.fr,x.oo,x.pp,x.mf,x.mh,x.mr⟩
theorem FMem.mono {M:Nat}{w w':World}{fb hb:Nat}{ok:Bool}{oa:Option Addr}{no oc:Nat}{O:Nat->Bool}{pa:Option Addr}{np pc:Nat}{P:Nat->Nat->Int}{nh hc:Nat}{Y:Nat->Hl}{r rc:Nat->Nat}
  (x:FMem M w fb hb ok oa no oc O pa np pc P nh hc Y r rc) (hB:Below w.heap.size w w'):FMem M w' fb hb ok oa no oc O pa np pc P nh hc Y r rc:=
 ⟨x.bx.mono hB nr,x.o.mono nr hB nr,x.p.mono nr hB nr,fun i hi=>(x.h i hi).mono hB,x.inj,x.fh,x.fr,x.oo,x.pp,x.mf,x.mh,x.mr⟩
def vwOf (y:Wy) (O:Nat->Bool) (P:Nat->Nat->Int):Vw:=⟨y.ns,fun k=>O (y.S k).toNat,prvB y O P⟩
end Go.Proofs.YtkeilejbelblcaaGreatDoor
