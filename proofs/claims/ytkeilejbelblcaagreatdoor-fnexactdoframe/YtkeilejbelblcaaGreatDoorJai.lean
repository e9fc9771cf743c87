import Derived.Test.YtkeilejbelblcaaGreatDoorJah
import Derived.Deep.RegionHeld3
import Derived.Test.YtkeilejbelblcaaGreatDoorJac
import Derived.Deep.AppendLies
namespace Go.Proofs.YtkeilejbelblcaaGreatDoor
open Go.RowKit
theorem wpList_vapp {P:Program}(w:World) {ops:Array Oper}{rest:List Oper}{o:Oper}{a:Act}{Q:Exit->Act->World->Prop}(hgd:o.guard=none) (s x:Operand) (t:TypeId)
  (ho:o.op=.call {callee:=.builtin .append,args:=#[s,x],argTypes:=#[t,t]})
  (B:Nat) (e:TypeId) (i:TypeInfo) (z:Value) (c bytes:Nat) (ht:P.underlying t=some (.slice e)) (hi:P.info? e=some i) (hz:i.zero=some z)
  (hsize:i.size=c) (hby:i.bytes=bytes) (hzs:z.cells.size=c) (hsz:0<c)
  (v:Value) (n:Nat) (F:Nat->Nat->Value) (hs:a.eval s=v) (hown:VOwn B e c w v n F) (h1:∀i j,(F i j).oneCell'=true)
  (q cap:Nat) (vs:Array Value) (hx:a.eval x=.slice (some (ad q 0)) 1 cap) (hb:Box w q e vs) (hvs:vs.toList=(List.range c).map (F n))
  (h63:n+1<=maxLen) (hbytes:(n+1)*bytes<=140737488355328) (hbase:B<=w.heap.size)
  (h:Halt (∀v' w',VOwn B e c w' v' (n+1) F->w.grownBy w' v.ownBlock->wpList P ops Q rest (a.put o.dst v') w')):wpList P ops Q (o::rest) a w:=by
 refine wpList_append_own w hgd s x t ho B e i z c bytes ht hi hz hsize hby hzs hsz v n (vcells c n F) hs hown.row (ad q 0) 1 cap ((List.range c).map (F n)) hx (by simp) ?_ ?_ h63 hbytes hbase ?_
 ·
  intro j u hj
  rw[<-hvs] at hj
  have hadd:((ad q 0):Addr).add j=(ad q j):=by unfold Addr.add;split<;>simp_all
  rw[hadd,hb.cell]
  simpa using hj
 ·
  intro u hu
  obtain⟨j,_,rfl⟩:=List.mem_map.1 hu
  exact h1 _ _
 ·
  intro v' w' ho' hg' _
  rw[<-vcells_succ] at ho'
  exact h v' w' (VOwn.of_row ho') hg'
theorem infoMarks:(Tryz.prog.info? 192).map (fun i=>(i.zero,i.size,i.bytes))=some (some (.agg #[.int .u64 0,.int .u64 0]),2,16):=by kernel_rfl
def wmF (p:Pl) (i j:Nat):Value:=if j=0 then .int .u64 ((secA (p.Y i).S (p.Y i).ns p.sec:Nat):Int) else .int .u64 ((secB (p.Y i).S (p.Y i).ns p.sec:Nat):Int)
theorem one_wm (p:Pl) (i j:Nat):(wmF p i j).oneCell'=true:=by
 unfold wmF
 split<;>rfl
def apF (p:Pl) (i k:Nat):Bool:=(((secA (p.Y i).S (p.Y i).ns p.sec&&& secA (p.Y k).S (p.Y k).ns p.sec:Nat):Int)==0)&&(((secB (p.Y i).S (p.Y i).ns p.sec&&& secB (p.Y k).S (p.Y k).ns p.sec:Nat):Int)==0)
def barI (p:Pl) (i k:Nat):Bool:=decide (p.T i k≠p.T k i)||(!p.T i k&&decide (i≠k)&&!apF p i k)
def barsI (p:Pl):Int×Int:=match firstB (fun i=>anyB (barI p i) (p.K i)) p.nb with
 |some i=>(5,(i:Int))
 |none=>(0,0)
theorem barsI_hit {p:Pl}{k:Nat}(ha:∀q,q<k->anyB (barI p q) (p.K q)=false) (hk:k<p.nb) (hb:anyB (barI p k) (p.K k)=true):barsI p=(5,(k:Int)):=by
 rw[barsI,firstB_hit (k:=k) ha hk hb]
theorem barsI_no {p:Pl}(ha:∀q,q<p.nb->anyB (barI p q) (p.K q)=false):barsI p=(0,0):=by
 rw[barsI,firstB_none ha]
set_option maxRecDepth 100000 in
set_option maxHeartbeats 8000000 in
theorem bars32 (p:Pl) (wa ya ba:Option Addr) (wc yc bc:Nat) (w:World) (h1:1<=p.sec) (h2:p.sec<=60) (hs:p.small) (hnb:p.nb=p.ny) (hK:∀i,i<p.nb->p.K i=p.ny) (h:PlIn 0 w p wa ya ba):
  Calls Tryz.prog 105 #[.agg #[.int .i64 p.sec,.slice wa p.nw wc,.slice ya p.ny yc,.slice ba p.nb bc,.int .i64 p.hold]] w fun e w'=>e=.returned (.agg #[.int .i64 (barsI p).1,.int .i64 (barsI p).2])/\Below w.heap.size w w':=by
 obtain⟨s1,s2,s3,s4,s5⟩:=hs
 have HS:Hid ((∀i,i<p.ny->(p.Y i).small 1048576)/\∀i,i<p.nb->p.K i<=1048576):=⟨s3,s5⟩
 have H:Hid (PlIn 0 w p wa ya ba):=h
 have HK:Hid (∀i,i<p.nb->p.K i=p.ny):=hK
 have HNB:Hid (p.nb=p.ny):=hnb
 clear h s3 s5 hK hnb
 obtain⟨i0,hi0,hz0,hs0,hb0⟩:=info_parts infoMarks
 go_enter Tryz.func105,Tryz.ntmps105
 go_wp2_with fail
 have HX:Hid (Below w.heap.size w ((w.alloc (.cells (vPl p wa wc ya yc ba bc) 37)).alloc (.cells #[.int .i64 0,.int .i64 0] 124))/\Box ((w.alloc (.cells (vPl p wa wc ya yc ba bc) 37)).alloc (.cells #[.int .i64 0,.int .i64 0] 124)) w.heap.size 37 (vPl p wa wc ya yc ba bc)/\Box ((w.alloc (.cells (vPl p wa wc ya yc ba bc) 37)).alloc (.cells #[.int .i64 0,.int .i64 0] 124)) (w.heap.size+1) 124 #[.int .i64 0,.int .i64 0]):=⟨bel2 _ _ _,(Box.new w 37 _).alloc _,by have :=Box.new (w.alloc (.cells (vPl p wa wc ya yc ba bc) 37)) 124 #[.int .i64 0,.int .i64 0];simpa using this⟩
 generalize ((w.alloc (.cells (vPl p wa wc ya yc ba bc) 37)).alloc (.cells #[.int .i64 0,.int .i64 0] 124))=W0 at HX⊢
 go_loopw [3,15] (fun v i wr=>∃(q:Nat) (va:Option Addr) (vc:Nat),q<=p.ny/\i=.int .i64 q/\v=.slice va q vc/\Hid ((Below w.heap.size w wr/\Box wr w.heap.size 37 (vPl p wa wc ya yc ba bc)/\Box wr (w.heap.size+1) 124 #[.int .i64 0,.int .i64 0])/\VOwn (w.heap.size+1+1) 192 2 wr (.slice va q vc) q (wmF p))) (fun _ i _=>p.ny-(intOf i).toNat)
 case atStart=>exact⟨0,none,0,Nat.zero_le _,rfl,rfl,HX,VOwn.nil _ _ _ _ _⟩
 case round=>
  obtain⟨q,va,vc,hq,rfl,rfl,HB⟩:=hrel
  by_cases hlt:q<p.ny
  ·
   obtain⟨b,off,hya,_,hb,hc⟩:=(H.out.wy.mono nr HB.out.1.1 nr) (by omega)
   obtain⟨sa,sc,la,lc,fa,fc,oa,oc,ma,mc,c0,c1,c2,c3,c4,hin⟩:=hc q hlt
   have HIN:Hid (WyIn 0 wr (p.Y q) sa la fa oa ma):=hin
   have hn:=(HS.out.1 q hlt).1
   obtain⟨xp0,xp1,xp2,xp3,xp4⟩:=HB.out.1.2.1.c5
   have zp:w.heap.size<wr.heap.size:=HB.out.1.2.1.lt
   have zr:w.heap.size+1<wr.heap.size:=HB.out.1.2.2.lt
   clear hc hin hb
   subst hya
   have hq0:(0:Int)<=(q:Int):=by omega
   have hqn:(q:Int)<(p.ny:Int):=by omega
   go_wp2_with fail
   clear c0 c1 c2 c3 c4 xp0 xp1 xp2 xp3 xp4 zp
   have B1:=bel1 wr (.cells (vWy (p.Y q) sa sc la lc fa fc oa oc ma mc) 112)
   refine(sec58 p _ _ _ _ _ _ sa (p.Y q).ns sc (p.Y q).S _ (by omega) h1 h2 (HIN.out.s.mono nr B1 nr)).mono ?_
   rintro e w1 ⟨rfl,hb1⟩
   have B2:Below wr.heap.size wr w1:=B1.trans (hb1.mono B1.size)
   have HB1:Hid ((Below w.heap.size w w1/\Box w1 w.heap.size 37 (vPl p wa wc (some (ad b off)) yc ba bc)/\Box w1 (w.heap.size+1) 124 #[.int .i64 0,.int .i64 0])/\VOwn (w.heap.size+1+1) 192 2 w1 (.slice va q vc) q (wmF p)):=⟨⟨HB.out.1.1.trans (B2.mono HB.out.1.1.size),HB.out.1.2.1.mono B2 nr,HB.out.1.2.2.mono B2 nr⟩,HB.out.2.mono nr B2 nr⟩
   have zz:w.heap.size+1+1<=w1.heap.size:=HB1.out.1.2.2.lt
   clear B1 B2 hb1 HIN HB zr
   go_wp2_with(at_builtin;go_must (refine wpList_vapp _ rfl _ _ 196 rfl (w.heap.size+1+1) 192 i0 _ 2 16 Tryz.underlying196 hi0 hz0 hs0 hb0 rfl (by decide) (.slice va q vc) q (wmF p) rfl ((HB1.out.2.alloc _).alloc _) (one_wm p) (w1.heap.size+1) 1 #[.int .u64 ((secA (p.Y q).S (p.Y q).ns p.sec:Nat):Int),.int .u64 ((secB (p.Y q).S (p.Y q).ns p.sec:Nat):Int)] rfl (by have :=Box.new (w1.alloc (.cells #[.int .u64 ((secA (p.Y q).S (p.Y q).ns p.sec:Nat):Int),.int .u64 ((secB (p.Y q).S (p.Y q).ns p.sec:Nat):Int)] 192)) 192 #[.int .u64 ((secA (p.Y q).S (p.Y q).ns p.sec:Nat):Int),.int .u64 ((secB (p.Y q).S (p.Y q).ns p.sec:Nat):Int)];simpa using this) rfl (by simp only[maxLen];omega) (by omega) (by simp;omega) (Halt.mk ?_)))
   intro v2 w2 o2 g2
   obtain⟨va2,vc2,hv2⟩:=o2.val
   subst hv2
   have hrow:∀j,(Value.slice va q vc).ownBlock=some j->w.heap.size+1+1<=j:=fun j hj=>(HB1.out.2.lt hj).1
   have HB2:Hid ((Below w.heap.size w w2/\Box w2 w.heap.size 37 (vPl p wa wc (some (ad b off)) yc ba bc)/\Box w2 (w.heap.size+1) 124 #[.int .i64 0,.int .i64 0])/\VOwn (w.heap.size+1+1) 192 2 w2 (.slice va2 (q+1) vc2) (q+1) (wmF p)):=⟨⟨((HB1.out.1.1.alloc HB1.out.1.1.size _).alloc (by simp;omega) _).grown g2 (by simp;omega) (fun j hj=>by have :=hrow j hj;omega),((HB1.out.1.2.1.alloc _).alloc _).grown g2 (fun e=>by have :=hrow _ e;omega),((HB1.out.1.2.2.alloc _).alloc _).grown g2 (fun e=>by have :=hrow _ e;omega)⟩,o2⟩
   clear o2 g2 hrow HB1
   go_wp2_with fail
   go_roundw
   case rel=>exact⟨q+1,va2,vc2,by omega,by go_num,rfl,HB2⟩
   case measure=>simp[intOf];omega
  ·
   obtain rfl:q=p.ny:=by omega
   have HMK:Hid (VsAt 2 0 wr va p.ny (wmF p)):=HB.out.2.vs.le (Nat.zero_le _)
   have HBp:Hid (Below w.heap.size w wr/\Box wr w.heap.size 37 (vPl p wa wc ya yc ba bc)/\Box wr (w.heap.size+1) 124 #[.int .i64 0,.int .i64 0]):=HB.out.1
   have x3:=HB.out.1.2.1.cel 3
   clear HB
   go_wp2_with fail
   clear x3
   obtain⟨WB,hWB⟩:∃W,W=wr:=⟨wr,rfl⟩
   rw[<-hWB] at HBp HMK
   rw[<-hWB]
   clear hWB
   go_loopw [34] (fun i wr=>∃q:Nat,q<=p.nb/\i=.int .i64 q/\Hid (∀i,i<q->anyB (barI p i) (p.K i)=false)/\Hid (Below WB.heap.size WB wr)) (fun i _=>p.nb-(intOf i).toNat)
   case atStart=>exact⟨0,Nat.zero_le _,rfl,fun i hi=>absurd hi (Nat.not_lt_zero _),Below.refl _ _⟩
   case round=>
    obtain⟨q,hq,rfl,HQ,HBW⟩:=hrel
    have HBR:Hid (Below w.heap.size w wr/\Box wr w.heap.size 37 (vPl p wa wc ya yc ba bc)/\Box wr (w.heap.size+1) 124 #[.int .i64 0,.int .i64 0]):=⟨HBp.out.1.trans (HBW.out.mono HBp.out.1.size),HBp.out.2.1.mono HBW.out nr,HBp.out.2.2.mono HBW.out nr⟩
    by_cases hlt:q<p.nb
    ·
     obtain⟨b,off,hba,_,hb,hc⟩:=(H.out.br.mono nr HBR.out.1 nr) (by omega)
     obtain⟨ra,rc,c0,hrow⟩:=hc q hlt
     have HROW:Hid (VsAt 1 0 wr ra (p.K q) (boolF (p.T q))):=hrow
     clear hc hrow hb
     subst hba
     have hq0:(0:Int)<=(q:Int):=by omega
     have hqn:(q:Int)<(p.nb:Int):=by omega
     have hqy:(q:Int)<(p.ny:Int):=by have :=HNB.out;omega
     have hKs:p.K q<=1048576:=HS.out.2 q hlt
     go_wp2_with fail
     clear c0
     obtain⟨WR,hWR⟩:∃W,W=wr:=⟨wr,rfl⟩
     rw[<-hWR] at HBW HBR HROW
     rw[<-hWR]
     clear hWR
     go_loopw [41] (fun j wi=>∃r:Nat,r<=p.K q/\j=.int .i64 r/\Hid (∀k,k<r->barI p q k=false)/\Hid (Below WR.heap.size WR wi)) (fun j _=>p.K q-(intOf j).toNat)
     case atStart=>exact⟨0,Nat.zero_le _,rfl,fun i hi=>absurd hi (Nat.not_lt_zero _),Below.refl _ _⟩
     case round=>
      obtain⟨r,hr,rfl,HR,HBI⟩:=hrel
      by_cases hrk:r<p.K q
      ·
       have HBN:Hid (Below w.heap.size w wr/\Box wr w.heap.size 37 (vPl p wa wc ya yc (some (ad b off)) bc)/\Box wr (w.heap.size+1) 124 #[.int .i64 0,.int .i64 0]):=⟨HBR.out.1.trans (HBI.out.mono HBR.out.1.size),HBR.out.2.1.mono HBI.out nr,HBR.out.2.2.mono HBI.out nr⟩
       have hrn:r<p.nb:=by have h1:=HK.out q hlt;have h2:=HNB.out;omega
       have hqK:q<p.K r:=by have h1:=HK.out r hrn;have h2:=HNB.out;omega
       have hKr:p.K r<=1048576:=HS.out.2 r hrn
       obtain⟨rb,roff,hra,_,_,hcr⟩:=(HROW.out.mono nr HBI.out nr) (by omega)
       have e0:wr.cell? (ad rb (roff+r))=some (.bool (p.T q r)):=by have :=hcr r hrk 0 (by omega);rwa [Nat.mul_one] at this
       obtain⟨b2,off2,hbe,_,_,hcb⟩:=(H.out.br.mono nr HBN.out.1 nr) (by omega)
       simp only[Option.some.injEq,Addr.mk.injEq,and_true] at hbe
       obtain⟨rfl,rfl⟩:=hbe
       obtain⟨ra2,rc2,c1,hrow2⟩:=hcb r hrn
       obtain⟨rb2,roff2,hra2,_,_,hcr2⟩:=hrow2 (by omega)
       have e1:wr.cell? (ad rb2 (roff2+q))=some (.bool (p.T r q)):=by have :=hcr2 q hqK 0 (by omega);rwa [Nat.mul_one] at this
       obtain⟨mb,mo,hva,_,hmb,hcm⟩:=((HMK.out.mono nr HBW.out nr).mono nr HBI.out nr) (by have :=HNB.out;omega)
       have m0:wr.cell? (ad mb (mo+q*2))=some (.int .u64 ((secA (p.Y q).S (p.Y q).ns p.sec:Nat):Int)):=hcm q (by have :=HNB.out;omega) 0 (by omega)
       have m1:wr.cell? (ad mb (mo+q*2+1))=some (.int .u64 ((secB (p.Y q).S (p.Y q).ns p.sec:Nat):Int)):=hcm q (by have :=HNB.out;omega) 1 (by omega)
       have m2:wr.cell? (ad mb (mo+r*2))=some (.int .u64 ((secA (p.Y r).S (p.Y r).ns p.sec:Nat):Int)):=hcm r (by have :=HNB.out;omega) 0 (by omega)
       have m3:wr.cell? (ad mb (mo+r*2+1))=some (.int .u64 ((secB (p.Y r).S (p.Y r).ns p.sec:Nat):Int)):=hcm r (by have :=HNB.out;omega) 1 (by omega)
       clear hcr hcb hcr2 hrow2 hcm
       subst hra hra2 hva
       have x3:=HBN.out.2.1.cel 3
       obtain⟨r0,r1⟩:=HBN.out.2.2.c2
       obtain⟨g0,g1⟩:=HBN.out.2.2.f2
       have hr0:(0:Int)<=(r:Int):=by omega
       have hrk':(r:Int)<(p.K q:Int):=by omega
       have hrn':(r:Int)<(p.nb:Int):=by omega
       have hry:(r:Int)<(p.ny:Int):=by have :=HNB.out;omega
       have hqK':(q:Int)<(p.K r:Int):=by omega
       have HB5:Hid (∀v,Below w.heap.size w (((wr.drewN v).setCell (ad (w.heap.size+1) 0) (.int .i64 5)).setCell (ad (w.heap.size+1) 1) (.int .i64 (q:Int)))):=fun v=>((below_drewN HBN.out.1 v).setCell (by show w.heap.size<=w.heap.size+1;omega) _).setCell (by show w.heap.size<=w.heap.size+1;omega) _
       have HGO:Hid (barI p q r=false->∀k,k<r+1->barI p q k=false):=fun h k hk=>by
        by_cases e:k=r
        ·
         subst e
         exact h
        ·
         exact HR.out k (by omega)
       have HHIT:Hid (barI p q r=true->barsI p=(5,(q:Int))):=fun h=>barsI_hit HQ.out hlt (anyB_yes hrk h)
       cases hx:p.T q r with
       |true=>
        rw[hx] at e0
        cases hy:p.T r q with
        |true=>
         rw[hy] at e1
         go_wp2_with fail
         go_quiet (fail)
         go_wp2_with fail
         go_roundw
         case rel=>exact⟨r+1,by omega,by go_num,HGO.out (by simp[barI,hx,hy]),below_drewN HBI.out _⟩
         case measure=>simp[intOf];omega
        |false=>
         rw[hy] at e1
         go_wp2_with fail
         go_quiet (fail)
         go_wp2_with fail
         refine bodyPost_ret (v:=.agg #[.int .i64 5,.int .i64 q]) (by simp[results,Tryz.results105,go_sem,r0,r1]) rfl ⟨by rw[HHIT.out (by simp[barI,hx,hy])],?_⟩
         exact HB5.out _
       |false=>
        rw[hx] at e0
        cases hy:p.T r q with
        |true=>
         rw[hy] at e1
         go_wp2_with fail
         go_quiet (fail)
         go_wp2_with fail
         refine bodyPost_ret (v:=.agg #[.int .i64 5,.int .i64 q]) (by simp[results,Tryz.results105,go_sem,r0,r1]) rfl ⟨by rw[HHIT.out (by simp[barI,hx,hy])],?_⟩
         exact HB5.out _
        |false=>
         rw[hy] at e1
         by_cases hqr:q=r
         ·
          subst hqr
          go_wp2_with fail
          go_quiet (fail)
          go_wp2_with fail
          go_roundw
          case rel=>exact⟨q+1,by omega,by go_num,HGO.out (by simp[barI,hx]),below_drewN HBI.out _⟩
          case measure=>simp[intOf];omega
         ·
          have hqi:¬(q:Int)=(r:Int):=by omega
          have hqd:((q:Int)==(r:Int))=false:=by simpa using hqi
          have hqe:((q:Int) !=(r:Int))=true:=by simpa using hqi
          have heq:=eq97 ((secA (p.Y q).S (p.Y q).ns p.sec&&& secA (p.Y r).S (p.Y r).ns p.sec:Nat):Int) ((secB (p.Y q).S (p.Y q).ns p.sec&&& secB (p.Y r).S (p.Y r).ns p.sec:Nat):Int) 0 0
          cases f7:((((secA (p.Y q).S (p.Y q).ns p.sec&&& secA (p.Y r).S (p.Y r).ns p.sec:Nat):Int)==0)&&(((secB (p.Y q).S (p.Y q).ns p.sec&&& secB (p.Y r).S (p.Y r).ns p.sec:Nat):Int)==0)) with
          |false=>
           rw[f7] at heq
           have hap:apF p q r=false:=f7
           have zp:w.heap.size<wr.heap.size:=HBN.out.2.1.lt
           have zb:b<wr.heap.size:=World.block_lt_of_cell? wr _ c1
           have zr2:rb2<wr.heap.size:=World.block_lt_of_cell? wr _ e1
           go_wp2_with fail
           go_region_held3 (fun w'=>w'.cell? (ad w.heap.size 3)=some (.slice (some (ad b off)) p.nb bc)/\w'.cell? (ad b (off+r))=some (.slice (some (ad rb2 roff2)) (p.K r) rc2)/\w'.cell? (ad rb2 (roff2+q))=some (.bool false)/\w'.cell? (ad mb (mo+q*2))=some (.int .u64 ((secA (p.Y q).S (p.Y q).ns p.sec:Nat):Int))/\w'.cell? (ad mb (mo+q*2+1))=some (.int .u64 ((secB (p.Y q).S (p.Y q).ns p.sec:Nat):Int))/\w'.cell? (ad mb (mo+r*2))=some (.int .u64 ((secA (p.Y r).S (p.Y r).ns p.sec:Nat):Int))/\w'.cell? (ad mb (mo+r*2+1))=some (.int .u64 ((secB (p.Y r).S (p.Y r).ns p.sec:Nat):Int))) (go_keep) (first
            |(go_at_call 127;refine(and59 (secA (p.Y q).S (p.Y q).ns p.sec) (secB (p.Y q).S (p.Y q).ns p.sec) (secA (p.Y r).S (p.Y r).ns p.sec) (secB (p.Y r).S (p.Y r).ns p.sec) _ (secA_lt _ _ _) (secB_lt _ _ _) (secA_lt _ _ _) (secB_lt _ _ _)).mono ?_;rintro e w7 ⟨rfl,hb7⟩;have n0:w7.cell? (ad w.heap.size 3)=some (.slice (some (ad b off)) p.nb bc):=cell_keep hb7 zp x3;have n1:w7.cell? (ad b (off+r))=some (.slice (some (ad rb2 roff2)) (p.K r) rc2):=cell_keep hb7 zb c1;have n2:w7.cell? (ad rb2 (roff2+q))=some (.bool false):=cell_keep hb7 zr2 e1;have n3:w7.cell? (ad mb (mo+q*2))=some (.int .u64 ((secA (p.Y q).S (p.Y q).ns p.sec:Nat):Int)):=cell_keep hb7 hmb m0;have n4:w7.cell? (ad mb (mo+q*2+1))=some (.int .u64 ((secB (p.Y q).S (p.Y q).ns p.sec:Nat):Int)):=cell_keep hb7 hmb m1;have n5:w7.cell? (ad mb (mo+r*2))=some (.int .u64 ((secA (p.Y r).S (p.Y r).ns p.sec:Nat):Int)):=cell_keep hb7 hmb m2;have n6:w7.cell? (ad mb (mo+r*2+1))=some (.int .u64 ((secB (p.Y r).S (p.Y r).ns p.sec:Nat):Int)):=cell_keep hb7 hmb m3))
           all_goals
            have hb7':Below wr.heap.size wr w7:=(Below.refl wr.heap.size wr).drew.trans hb7
            have HN7:Hid (Below w.heap.size w w7/\Box w7 w.heap.size 37 (vPl p wa wc ya yc (some (ad b off)) bc)/\Box w7 (w.heap.size+1) 124 #[.int .i64 0,.int .i64 0]):=⟨HBN.out.1.trans (hb7'.mono HBN.out.1.size),HBN.out.2.1.mono hb7' nr,HBN.out.2.2.mono hb7' nr⟩
            have HI7:Hid (Below WR.heap.size WR w7):=HBI.out.trans (hb7'.mono HBI.out.size)
            clear n0 n1 n2 n3 n4 n5 n6 r0 r1 g0 g1 x3 c1 e0 e1 m0 m1 m2 m3 hb7 hb7'
            obtain⟨r0,r1⟩:=HN7.out.2.2.c2
            obtain⟨g0,g1⟩:=HN7.out.2.2.f2
            go_wp2_with fail
            refine bodyPost_ret (v:=.agg #[.int .i64 5,.int .i64 q]) (by simp[results,Tryz.results105,go_sem,r0,r1]) rfl ⟨by rw[HHIT.out (by simp[barI,hx,hy,hqr,hap])],?_⟩
            exact(HN7.out.1.setCell (by show w.heap.size<=w.heap.size+1;omega) _).setCell (by show w.heap.size<=w.heap.size+1;omega) _
          |true=>
           rw[f7] at heq
           have hap:apF p q r=true:=f7
           have zp:w.heap.size<wr.heap.size:=HBN.out.2.1.lt
           have zb:b<wr.heap.size:=World.block_lt_of_cell? wr _ c1
           have zr2:rb2<wr.heap.size:=World.block_lt_of_cell? wr _ e1
           go_wp2_with fail
           go_region_held3 (fun w'=>w'.cell? (ad w.heap.size 3)=some (.slice (some (ad b off)) p.nb bc)/\w'.cell? (ad b (off+r))=some (.slice (some (ad rb2 roff2)) (p.K r) rc2)/\w'.cell? (ad rb2 (roff2+q))=some (.bool false)/\w'.cell? (ad mb (mo+q*2))=some (.int .u64 ((secA (p.Y q).S (p.Y q).ns p.sec:Nat):Int))/\w'.cell? (ad mb (mo+q*2+1))=some (.int .u64 ((secB (p.Y q).S (p.Y q).ns p.sec:Nat):Int))/\w'.cell? (ad mb (mo+r*2))=some (.int .u64 ((secA (p.Y r).S (p.Y r).ns p.sec:Nat):Int))/\w'.cell? (ad mb (mo+r*2+1))=some (.int .u64 ((secB (p.Y r).S (p.Y r).ns p.sec:Nat):Int))) (go_keep) (first
            |(go_at_call 127;refine(and59 (secA (p.Y q).S (p.Y q).ns p.sec) (secB (p.Y q).S (p.Y q).ns p.sec) (secA (p.Y r).S (p.Y r).ns p.sec) (secB (p.Y r).S (p.Y r).ns p.sec) _ (secA_lt _ _ _) (secB_lt _ _ _) (secA_lt _ _ _) (secB_lt _ _ _)).mono ?_;rintro e w7 ⟨rfl,hb7⟩;have n0:w7.cell? (ad w.heap.size 3)=some (.slice (some (ad b off)) p.nb bc):=cell_keep hb7 zp x3;have n1:w7.cell? (ad b (off+r))=some (.slice (some (ad rb2 roff2)) (p.K r) rc2):=cell_keep hb7 zb c1;have n2:w7.cell? (ad rb2 (roff2+q))=some (.bool false):=cell_keep hb7 zr2 e1;have n3:w7.cell? (ad mb (mo+q*2))=some (.int .u64 ((secA (p.Y q).S (p.Y q).ns p.sec:Nat):Int)):=cell_keep hb7 hmb m0;have n4:w7.cell? (ad mb (mo+q*2+1))=some (.int .u64 ((secB (p.Y q).S (p.Y q).ns p.sec:Nat):Int)):=cell_keep hb7 hmb m1;have n5:w7.cell? (ad mb (mo+r*2))=some (.int .u64 ((secA (p.Y r).S (p.Y r).ns p.sec:Nat):Int)):=cell_keep hb7 hmb m2;have n6:w7.cell? (ad mb (mo+r*2+1))=some (.int .u64 ((secB (p.Y r).S (p.Y r).ns p.sec:Nat):Int)):=cell_keep hb7 hmb m3))
           all_goals
            have hb7':Below wr.heap.size wr w7:=(Below.refl wr.heap.size wr).drew.trans hb7
            have HN7:Hid (Below w.heap.size w w7/\Box w7 w.heap.size 37 (vPl p wa wc ya yc (some (ad b off)) bc)/\Box w7 (w.heap.size+1) 124 #[.int .i64 0,.int .i64 0]):=⟨HBN.out.1.trans (hb7'.mono HBN.out.1.size),HBN.out.2.1.mono hb7' nr,HBN.out.2.2.mono hb7' nr⟩
            have HI7:Hid (Below WR.heap.size WR w7):=HBI.out.trans (hb7'.mono HBI.out.size)
            clear n0 n1 n2 n3 n4 n5 n6 r0 r1 g0 g1 x3 c1 e0 e1 m0 m1 m2 m3 hb7 hb7'
            obtain⟨r0,r1⟩:=HN7.out.2.2.c2
            obtain⟨g0,g1⟩:=HN7.out.2.2.f2
            go_wp2_with fail
            go_roundw
            case rel=>exact⟨r+1,by omega,by go_num,HGO.out (by simp[barI,hx,hy,hap]),HI7⟩
            case measure=>simp[intOf];omega
      ·
       obtain rfl:r=p.K q:=by omega
       have HQ2:Hid (∀i,i<q+1->anyB (barI p i) (p.K i)=false):=fun i hi=>by
        by_cases e:i=q
        ·
         subst e
         exact anyB_no HR.out
        ·
         exact HQ.out i (by omega)
       go_wp2_with fail
       go_roundw
       case rel=>exact⟨q+1,by omega,by go_num,HQ2,HBW.out.trans (HBI.out.mono HBW.out.size)⟩
       case measure=>simp[intOf];omega
    ·
     obtain rfl:q=p.nb:=by omega
     obtain⟨r0,r1⟩:=HBR.out.2.2.c2
     obtain⟨g0,g1⟩:=HBR.out.2.2.f2
     go_wp2_with fail
     refine bodyPost_ret (v:=.agg #[.int .i64 0,.int .i64 0]) (by simp[results,Tryz.results105,go_sem,r0,r1]) rfl ⟨by rw[barsI_no HQ.out],?_⟩
     exact(HBR.out.1.setCell (by show w.heap.size<=w.heap.size+1;omega) _).setCell (by show w.heap.size<=w.heap.size+1;omega) _
theorem infoPoint:(Tryz.prog.info? 69).map (fun i=>(i.zero,i.size,i.bytes))=some (some (.agg #[.int .i64 0,.int .i64 0]),2,16):=by kernel_rfl
theorem infoHeld:(Tryz.prog.info? 72).map (fun i=>(i.zero,i.size,i.bytes))=some (some (.agg #[.int .i64 0,.int .i64 0,.slice none 0 0,.bool false,.int .i64 0]),5,56):=by kernel_rfl
def hlF (Y:Nat->Hl) (r:Nat->Nat) (i j:Nat):Value:=
 if j=0 then .int .i64 (Y i).st else if j=1 then .int .i64 (Y i).gone else if j=2 then .slice (some (ad (r i) 0)) (Y i).nb (Y i).nb else if j=3 then .bool (Y i).shown else .int .i64 (Y i).timer
structure HsOwn (B:Nat) (w:World) (v:Value) (n:Nat) (Y:Nat->Hl) (r:Nat->Nat):Prop where
 own:VOwn B 72 5 w v n (hlF Y r)
 row:∀i,i<n->VOwn (r i) 4 1 w (.slice (some (ad (r i) 0)) (Y i).nb (Y i).nb) (Y i).nb (boolF (Y i).B)/\B<=r i
 inj:∀i,i<n->∀j,j<n->r i=r j->i=j
theorem own_block {g b n k:Nat}(h:(Value.slice (some (ad b 0)) n k).ownBlock=some g):g=b:=by
 simp only[Value.ownBlock,Option.some.injEq] at h
 exact h.symm
theorem HsOwn.mono {B B':Nat}{w w':World}{v:Value}{n:Nat}{Y:Nat->Hl}{r:Nat->Nat}{M:Nat}(h:HsOwn B w v n Y r) (hB:B'<=B) (hb:Below M w w') (hM:w.heap.size<=M):HsOwn B' w' v n Y r:=
 ⟨h.own.mono hB hb hM,fun i hi=>⟨(h.row i hi).1.mono nr hb hM,by have :=(h.row i hi).2;omega⟩,h.inj⟩
theorem HsOwn.at {B C:Nat}{w:World}{a:Option Addr}{n cap:Nat}{Y:Nat->Hl}{r:Nat->Nat}(h:HsOwn B w (.slice a n cap) n Y r) (hC:C<=B):HsAt C w a n Y:=by
 intro h0
 obtain⟨b,off,e,hge,hlt,hc⟩:=h.own.vs h0
 refine⟨b,off,e,by omega,hlt,fun i hi=>⟨_,_,hc i hi 0 (by omega),hc i hi 1 (by omega),hc i hi 2 (by omega),hc i hi 3 (by omega),hc i hi 4 (by omega),(h.row i hi).1.vs.le (by have :=(h.row i hi).2;omega)⟩⟩
structure FmOwn (B:Nat) (w:World) (f:Fm) (ov pv hv:Value) (r:Nat->Nat):Prop where
 o:VOwn B 4 1 w ov f.no (boolF f.O)
 p:VOwn B 69 2 w pv f.np (intF f.P)
 h:HsOwn B w hv f.nh f.Y r
 ne:∀g,ov.ownBlock=some g->∀i,i<f.nh->r i≠g
theorem FmOwn.mono {B B':Nat}{w w':World}{f:Fm}{ov pv hv:Value}{r:Nat->Nat}{M:Nat}(h:FmOwn B w f ov pv hv r) (hB:B'<=B) (hb:Below M w w') (hM:w.heap.size<=M):FmOwn B' w' f ov pv hv r:=
 ⟨h.o.mono hB hb hM,h.p.mono hB hb hM,h.h.mono hB hb hM,h.ne⟩
theorem FmOwn.in {B C:Nat}{w:World}{f:Fm}{oa pa ha:Option Addr}{oc pc hc:Nat}{r:Nat->Nat}(h:FmOwn B w f (.slice oa f.no oc) (.slice pa f.np pc) (.slice ha f.nh hc) r) (hC:C<=B):FmIn C w f oa pa ha:=
 ⟨h.o.vs.le hC,h.p.vs.le hC,h.h.at hC⟩
theorem VOwn.apart {B B':Nat}{e e':TypeId}{c c':Nat}{w:World}{v v':Value}{n n':Nat}{F F':Nat->Nat->Value}(h:VOwn B e c w v n F) (h':VOwn B' e' c' w v' n' F') (hT:e≠e') {g:Nat}(hg:v.ownBlock=some g):v'.ownBlock≠some g:=by
 intro hg'
 rcases h' with⟨rfl,_⟩|⟨g',cap,cur,rfl,_,hb,_⟩
 ·
  simp[Value.ownBlock] at hg'
 ·
  have :=own_block hg'
  subst this
  exact h.off hb (Ne.symm hT) hg rfl
theorem mk0_boolB (n:Nat):∀i,i<n->(mk0 (.bool false) n)[i]?=some (.bool false):=fun i hi=>by
 simp[mk0,madeCells,Value.cells,hi,Nat.mod_one]
theorem VOwn.made {w:World}{b n:Nat}(h:Box w b 4 (mk0 (.bool false) n)) (hn:n<=1048576):VOwn b 4 1 w (.slice (some (ad b 0)) n n) n (boolF fun _=>false):=by
 refine .inr ⟨b,n,_,rfl,Nat.le_refl _,h,Nat.le_refl _,by simp[maxLen];omega,by rw[Nat.mul_one];exact size_madeCells _ _,fun i hi j hj=>?_⟩
 obtain rfl:j=0:=by omega
 rw[Nat.mul_one,Nat.add_zero]
 exact mk0_boolB n i hi
theorem Below.of_grown {w w':World}{row:Option Nat}{B:Nat}(h:w.grownBy w' row) (hB:B<=w.heap.size) (hr:∀g,row=some g->B<=g):Below B w w':=
 ⟨h.os,h.tape,h.output,h.size,fun k hk=>h.block k (by omega) (fun e=>by have :=hr k e.symm;omega)⟩
theorem Box.ne {w:World}{b q:Nat}{T T':TypeId}{vs vs':Array Value}(h:Box w b T vs) (h':Box w q T' vs') (hT:T≠T'):b≠q:=by
 intro e
 subst e
 have h1:w.heap[b]?=some (.cells vs T (0,0)):=h
 have h2:w.heap[b]?=some (.cells vs' T' (0,0)):=h'
 rw[h1] at h2
 simp only[Option.some.injEq,Obj.cells.injEq] at h2
 exact hT h2.2.1
theorem VOwn.box {B:Nat}{e:TypeId}{c:Nat}{w:World}{v:Value}{n:Nat}{F:Nat->Nat->Value}(h:VOwn B e c w v n F) {g:Nat}(hg:v.ownBlock=some g):∃cur,Box w g e cur:=by
 rcases h with⟨rfl,rfl⟩|⟨g',cap,cur,rfl,h2,h3,h4⟩
 ·
  simp[Value.ownBlock] at hg
 ·
  have :=own_block hg
  subst this
  exact⟨cur,h3⟩
theorem VOwn.by_ {B:Nat}{e:TypeId}{c:Nat}{w w':World}{v:Value}{n:Nat}{F:Nat->Nat->Value}(h:VOwn B e c w v n F) (hk:∀b cur,Box w b e cur->w'.heap[b]?=w.heap[b]?):VOwn B e c w' v n F:=
 h.keep nr fun g hg=>by
  obtain⟨cur,hb⟩:=h.box hg
  exact hk g cur hb
theorem HsOwn.by_ {B:Nat}{w w':World}{v:Value}{n:Nat}{Y:Nat->Hl}{r:Nat->Nat}(h:HsOwn B w v n Y r) (hk:∀b T cur,Box w b T cur->(T=72\/T=4)->w'.heap[b]?=w.heap[b]?):HsOwn B w' v n Y r:=
 ⟨h.own.by_ fun b cur hb=>hk b 72 cur hb (.inl rfl),fun i hi=>⟨(h.row i hi).1.by_ fun b cur hb=>hk b 4 cur hb (.inr rfl),(h.row i hi).2⟩,h.inj⟩
theorem step_vapp {P:Program}(w:World) {ops:Array Oper}{o:Oper}{a:Act}{K:Act->World->Prop}{Q:Exit->Act->World->Prop}{E:Prop}(hgd:o.guard=none) (s x:Operand) (t:TypeId)
  (ho:o.op=.call {callee:=.builtin .append,args:=#[s,x],argTypes:=#[t,t]})
  (B:Nat) (e:TypeId) (i:TypeInfo) (z:Value) (c bytes:Nat) (ht:P.underlying t=some (.slice e)) (hi:P.info? e=some i) (hz:i.zero=some z)
  (hsize:i.size=c) (hby:i.bytes=bytes) (hzs:z.cells.size=c) (hsz:0<c)
  (v:Value) (n:Nat) (F:Nat->Nat->Value) (hs:a.eval s=v) (hown:VOwn B e c w v n F) (h1:∀i j,(F i j).oneCell'=true)
  (q cap:Nat) (vs:Array Value) (hx:a.eval x=.slice (some (ad q 0)) 1 cap) (hb:Box w q e vs) (hvs:vs.toList=(List.range c).map (F n))
  (h63:n+1<=maxLen) (hbytes:(n+1)*bytes<=140737488355328) (hbase:B<=w.heap.size)
  (h:∀g gc w',VOwn B e c w' (.slice (some (ad g 0)) (n+1) gc) (n+1) F->w.grownBy w' v.ownBlock->K (a.put o.dst (.slice (some (ad g 0)) (n+1) gc)) w'):
  if Region.wanted o (yielded ops a.tmps)=true then Oper.wp P o a w K Q else E:=by
 refine step_append_lies w hgd s x t ho B e i z c bytes ht hi hz hsize hby hzs hsz v n (vcells c n F) hs hown.row (ad q 0) 1 cap ((List.range c).map (F n)) hx (by simp) ?_ ?_ (by omega) h63 hbytes hbase w.heap.size rfl ?_
 ·
  intro j u hj
  rw[<-hvs] at hj
  have hadd:((ad q 0):Addr).add j=(ad q j):=by unfold Addr.add;split<;>simp_all
  rw[hadd,hb.cell]
  simpa using hj
 ·
  intro u hu
  obtain⟨j,_,rfl⟩:=List.mem_map.1 hu
  exact h1 _ _
 ·
  intro g gc w' ho' hg' _ _
  rw[<-vcells_succ] at ho'
  exact h g gc w' (VOwn.of_row ho') hg'
end Go.Proofs.YtkeilejbelblcaaGreatDoor
