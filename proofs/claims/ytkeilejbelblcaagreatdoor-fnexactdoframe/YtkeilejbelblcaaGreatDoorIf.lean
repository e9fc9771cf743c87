import Derived.Test.YtkeilejbelblcaaGreatDoorJai
import Derived.Test.YtkeilejbelblcaaGreatDoorJbc
import Derived.Test.YtkeilejbelblcaaGreatDoorJar
import Derived.Test.YtkeilejbelblcaaGreatDoorSd
namespace Go.Proofs.YtkeilejbelblcaaGreatDoor
open Go.RowKit
theorem WsOwn.row {w:World}{b n:Nat}{Y:Nat->Wy}{lo:Nat->Nat}(h:WsOwn w b n n Y lo) {i:Nat}(hi:i<n):
  ∃b1 b2 b3 b4 b5,w.cell? (ad b (i*5))=some (.slice (some (ad b1 0)) (Y i).ns (Y i).ns)/\w.cell? (ad b (i*5+1))=some (.slice (some (ad b2 0)) (Y i).nl (Y i).nl)/\w.cell? (ad b (i*5+2))=some (.slice (some (ad b3 0)) (Y i).nf (Y i).nf)/\w.cell? (ad b (i*5+3))=some (.slice (some (ad b4 0)) (Y i).no (Y i).no)/\w.cell? (ad b (i*5+4))=some (.slice (some (ad b5 0)) (Y i).nm (Y i).nm)/\WyIn 0 w (Y i) (some (ad b1 0)) (some (ad b2 0)) (some (ad b3 0)) (some (ad b4 0)) (some (ad b5 0)):=by
 obtain⟨vs,h1,h2,h3,h4,h5,h6⟩:=h
 obtain⟨b1,b2,b3,b4,b5,hr⟩:=h6 i hi
 have e:=fun o=>h1.cell o
 refine⟨b1,b2,b3,b4,b5,?_,?_,?_,?_,?_,hr.own.in (Nat.zero_le _)⟩
 ·
  rw[e,hr.c0]
 ·
  rw[e,hr.c1]
 ·
  rw[e,hr.c2]
 ·
  rw[e,hr.c3]
 ·
  rw[e,hr.c4]
theorem meet_comm (A B:Nat->Int) (n m:Nat):meetF A n B m=meetF B m A n:=by
 rw[Bool.eq_iff_iff]
 simp only[meetF,anyB_iff,decide_eq_true_eq]
 exact⟨fun⟨i,hi,j,hj,h⟩=>⟨j,hj,i,hi,h.symm⟩,fun⟨i,hi,j,hj,h⟩=>⟨j,hj,i,hi,h.symm⟩⟩
theorem way_list {p:Pl}{y:Wy}(h:wayF p y=true):listF y.S y.ns p.sec=true:=by
 simp only[wayF,Bool.and_eq_true] at h
 exact h.1.1.1.1.1.1.2
theorem firstB_congr {f g:Nat->Bool}:∀ {n:Nat},(∀i,i<n->f i=g i)->firstB f n=firstB g n
 |0,_=>rfl
 |n+1,h=>by rw[firstB,firstB,firstB_congr fun i hi=>h i (by omega),h n (by omega)]
theorem barsI_eq {p:Pl}(h2:p.sec<=60) (hnb:p.nb=p.ny) (hK:∀i,i<p.nb->p.K i=p.ny) (hw:∀q,q<p.ny->wayF p (p.Y q)=true):barsI p=plan5 p:=by
 have :firstB (fun i=>anyB (barI p i) (p.K i)) p.nb=firstB (fun i=>anyB (barF p i) (p.K i)) p.nb:=firstB_congr fun i hi=>by
  rw[anyB,anyB]
  congr 1
  refine allB_congr fun k hk=>?_
  have hk':k<p.ny:=by have :=hK i hi;omega
  have f1:=way_list (hw i (by omega))
  have f2:=way_list (hw k hk')
  congr 1
  rw[barI,barF,apF,secA_eq f1,secA_eq f2,secB_eq f1,secB_eq f2,off_iff (list_low f1 h2) (list_low f2 h2),Bool.not_not,meet_comm]
  cases p.T i k<;>cases decide (i≠k)<;>simp
 unfold barsI plan5
 rw[this]
 cases firstB (fun i=>anyB (barF p i) (p.K i)) p.nb<;>rfl
set_option maxRecDepth 100000 in
set_option maxHeartbeats 8000000 in
theorem planI9 (p:Pl) (wb yb bb:Nat) (lo rr:Nat->Nat) (w:World) (hs:p.small) (h:PlOwn 0 w p wb yb bb lo rr):
  Calls Tryz.prog 77 #[.agg #[.int .i64 p.sec,.slice (some (ad wb 0)) p.nw p.nw,.slice (some (ad yb 0)) p.ny p.ny,.slice (some (ad bb 0)) p.nb p.nb,.int .i64 p.hold]] w fun e w'=>e=.returned (.agg #[.int .i64 (planF p).1,.int .i64 (planF p).2])/\Below w.heap.size w w':=by
 have HSM:Hid p.small:=hs
 obtain⟨s1,s2,s3,s4,s5⟩:=hs
 have HS:Hid ((∀i,i<p.ny->(p.Y i).small 1048576)/\∀i,i<p.nb->p.K i<=1048576):=⟨s3,s5⟩
 have HO:Hid (PlOwn 0 w p wb yb bb lo rr):=h
 have H:Hid (PlIn 0 w p (some (ad wb 0)) (some (ad yb 0)) (some (ad bb 0))):=h.in (Nat.le_refl _)
 clear h s3 s5
 go_enter Tryz.func77,Tryz.ntmps77
 go_wp2_with fail
 refine(within30 p.sec 1 60 _).mono ?_
 rintro e wx ⟨he,hwx⟩
 have hwx:=hwx.symm
 subst hwx
 cases f1:inB p.sec 1 60 with
 |false=>
  rw[f1] at he
  subst he
  go_wp2_with fail
  refine bodyPost_ret (v:=.agg #[.int .i64 1,.int .i64 0]) (by simp[results,Tryz.results77,go_sem]) rfl ⟨by rw[planF_head (by simp[headF,f1])],?_⟩
  exact bel2 _ _ _
 |true=>
 rw[f1] at he
 subst he
 go_wp2_with fail
 refine(within30 p.hold 1 300 _).mono ?_
 rintro e wx ⟨he,hwx⟩
 have hwx:=hwx.symm
 subst hwx
 cases f2:inB p.hold 1 300 with
 |false=>
  rw[f2] at he
  subst he
  go_wp2_with fail
  refine bodyPost_ret (v:=.agg #[.int .i64 1,.int .i64 0]) (by simp[results,Tryz.results77,go_sem]) rfl ⟨by rw[planF_head (by simp[headF,f2])],?_⟩
  exact bel2 _ _ _
 |true=>
 rw[f2] at he
 subst he
 by_cases h40:(40:Int)<(p.nw:Int)
 ·
  have d40:decide ((40:Int)<(p.nw:Int))=true:=by simpa using h40
  go_wp2_with fail
  refine bodyPost_ret (v:=.agg #[.int .i64 1,.int .i64 0]) (by simp[results,Tryz.results77,go_sem]) rfl ⟨by rw[planF_head (by simp[headF];omega)],?_⟩
  exact bel2 _ _ _
 have d40:decide ((40:Int)<(p.nw:Int))=false:=by simpa using h40
 by_cases h100:(100:Int)<(p.ny:Int)
 ·
  have d100:decide ((100:Int)<(p.ny:Int))=true:=by simpa using h100
  go_wp2_with fail
  refine bodyPost_ret (v:=.agg #[.int .i64 1,.int .i64 0]) (by simp[results,Tryz.results77,go_sem]) rfl ⟨by rw[planF_head (by simp[headF];omega)],?_⟩
  exact bel2 _ _ _
 have d100:decide ((100:Int)<(p.ny:Int))=false:=by simpa using h100
 have hF:headF p=true:=by
  simp only[headF,f1,f2,Bool.true_and,Bool.and_eq_true,decide_eq_true_eq]
  omega
 have hsec:1<=p.sec/\p.sec<=60:=by simpa [inB] using f1
 obtain⟨hc1,hc2⟩:=hsec
 go_wp2_with fail
 have HX:Hid (Below w.heap.size w ((w.alloc (.cells (vPo p wb yb bb) 37)).alloc (.cells #[.int .i64 0,.int .i64 0] 124))/\Box ((w.alloc (.cells (vPo p wb yb bb) 37)).alloc (.cells #[.int .i64 0,.int .i64 0] 124)) w.heap.size 37 (vPo p wb yb bb)/\Box ((w.alloc (.cells (vPo p wb yb bb) 37)).alloc (.cells #[.int .i64 0,.int .i64 0] 124)) (w.heap.size+1) 124 #[.int .i64 0,.int .i64 0]):=⟨bel2 _ _ _,(Box.new w 37 _).alloc _,by have :=Box.new (w.alloc (.cells (vPo p wb yb bb) 37)) 124 #[.int .i64 0,.int .i64 0];simpa using this⟩
 generalize ((w.alloc (.cells (vPo p wb yb bb) 37)).alloc (.cells #[.int .i64 0,.int .i64 0] 124))=W0 at HX⊢
 clear d40 d100
 have x0:W0.cell? (ad w.heap.size 0)=some (.int .i64 p.sec):=HX.out.2.1.cell 0
 have r0:W0.cell? (ad (w.heap.size+1) 0)=some (.int .i64 0):=HX.out.2.2.cell 0
 have r1:W0.cell? (ad (w.heap.size+1) 1)=some (.int .i64 0):=HX.out.2.2.cell 1
 obtain⟨g0,g1⟩:=HX.out.2.2.f2
 have zr:w.heap.size+1<W0.heap.size:=HX.out.2.2.lt
 go_loop [35] (fun i=>∃q:Nat,q<=p.nw/\i=.int .i64 q/\Hid (∀i,i<q->inB (p.W i) 0 (p.sec-1)=true)) (fun i=>p.nw-(intOf i).toNat)
 case atStart=>exact⟨0,Nat.zero_le _,rfl,fun i hi=>absurd hi (Nat.not_lt_zero _)⟩
 case round=>
  obtain⟨q,hq,rfl,HQ⟩:=hrel
  by_cases hlt:q<p.nw
  ·
   obtain⟨b,off,hbe,_,hb,hc⟩:=(H.out.sw.mono (Nat.le_refl _) HX.out.1 (Nat.le_refl _)) (by omega)
   simp only[Option.some.injEq,Addr.mk.injEq,and_true] at hbe
   obtain⟨rfl,rfl⟩:=hbe
   have c0:W0.cell? (ad wb q)=some (.int .i64 (p.W q)):=by have :=hc q hlt 0 (by omega);rwa [Nat.mul_one,Nat.zero_add] at this
   clear hc
   have hq0:(0:Int)<=(q:Int):=by omega
   have hqn:(q:Int)<(p.nw:Int):=by omega
   go_wp2_with fail
   refine(within30 (p.W q) 0 (p.sec-1) _).mono ?_
   rintro e wx ⟨he,hwx⟩
   have hwx:=hwx.symm
   subst hwx
   cases f3:inB (p.W q) 0 (p.sec-1) with
   |false=>
    rw[f3] at he
    subst he
    go_wp2_with fail
    refine bodyPost_ret (v:=.agg #[.int .i64 2,.int .i64 q]) (by simp[results,Tryz.results77,go_sem,r0,r1]) rfl ⟨by rw[planF_2 hF HQ.out hlt f3],?_⟩
    exact(HX.out.1.setCell (by show w.heap.size<=w.heap.size+1;omega) _).setCell (by show w.heap.size<=w.heap.size+1;omega) _
   |true=>
    rw[f3] at he
    subst he
    have HQ2:Hid (∀i,i<q+1->inB (p.W i) 0 (p.sec-1)=true):=fun i hi=>by
     by_cases e:i=q
     ·
      subst e
      exact f3
     ·
      exact HQ.out i (by omega)
    go_wp2_with fail
    go_round
    case rel=>exact⟨q+1,by omega,by go_num,HQ2⟩
    case measure=>simp[intOf];omega
  ·
   obtain rfl:q=p.nw:=by omega
   have HSW:Hid (∀q,q<p.nw->inB (p.W q) 0 (p.sec-1)=true):=HQ
   have x2:W0.cell? (ad w.heap.size 2)=some (.slice (some (ad yb 0)) p.ny p.ny):=HX.out.2.1.cell 2
   go_wp2_with fail
   clear x0 x2 r0 r1 g0 g1 zr
   go_loopw [52] (fun i wr=>∃q:Nat,q<=p.ny/\i=.int .i64 q/\Hid (∀i,i<q->wayF p (p.Y i)=true)/\Hid (Below w.heap.size w wr/\Box wr w.heap.size 37 (vPo p wb yb bb)/\Box wr (w.heap.size+1) 124 #[.int .i64 0,.int .i64 0])) (fun i _=>p.ny-(intOf i).toNat)
   case atStart=>exact⟨0,Nat.zero_le _,rfl,fun i hi=>absurd hi (Nat.not_lt_zero _),HX⟩
   case round=>
    obtain⟨q,hq,rfl,HQ,HB⟩:=hrel
    have r0:wr.cell? (ad (w.heap.size+1) 0)=some (.int .i64 0):=HB.out.2.2.cell 0
    have r1:wr.cell? (ad (w.heap.size+1) 1)=some (.int .i64 0):=HB.out.2.2.cell 1
    have zr:w.heap.size+1<wr.heap.size:=HB.out.2.2.lt
    have zp:w.heap.size<wr.heap.size:=HB.out.2.1.lt
    by_cases hlt:q<p.ny
    ·
     obtain⟨b1,b2,b3,b4,b5,c0,c1,c2,c3,c4,hin⟩:=(HO.out.wy.mono HB.out.1 (Nat.le_refl _)).row hlt
     have HIN:Hid (WyIn 0 wr (p.Y q) (some (ad b1 0)) (some (ad b2 0)) (some (ad b3 0)) (some (ad b4 0)) (some (ad b5 0))):=hin
     clear hin
     have xp0:wr.cell? (ad w.heap.size 0)=some (.int .i64 p.sec):=HB.out.2.1.cell 0
     have xp1:wr.cell? (ad w.heap.size 1)=some (.slice (some (ad wb 0)) p.nw p.nw):=HB.out.2.1.cell 1
     have xp2:wr.cell? (ad w.heap.size 2)=some (.slice (some (ad yb 0)) p.ny p.ny):=HB.out.2.1.cell 2
     have xp3:wr.cell? (ad w.heap.size 3)=some (.slice (some (ad bb 0)) p.nb p.nb):=HB.out.2.1.cell 3
     have xp4:wr.cell? (ad w.heap.size 4)=some (.int .i64 p.hold):=HB.out.2.1.cell 4
     have hq0:(0:Int)<=(q:Int):=by omega
     have hqn:(q:Int)<(p.ny:Int):=by omega
     go_wp2_with fail
     clear c0 c1 c2 c3 c4 xp0 xp1 xp2 xp3 xp4 r0 r1
     have B1:=bel1 wr (.cells (vWo (p.Y q) b1 b2 b3 b4 b5) 112)
     refine(wayOk31 p _ _ _ _ _ _ (p.Y q) _ _ _ b2 0 b3 0 _ _ _ _ _ _ hc1 hc2 (by omega) (HS.out.1 q hlt) ((H.out.sw.mono (Nat.le_refl _) HB.out.1 (Nat.le_refl _)).mono (Nat.le_refl _) B1 (Nat.le_refl _)) (HIN.out.mono (Nat.le_refl _) B1 (Nat.le_refl _))).mono ?_
     rintro e w1 ⟨he,hb1⟩
     rw[wayI_eq hc2 HSW.out] at he
     have B2:Below wr.heap.size wr w1:=B1.trans (hb1.mono B1.size)
     have HB1:Hid (Below w.heap.size w w1/\Box w1 w.heap.size 37 (vPo p wb yb bb)/\Box w1 (w.heap.size+1) 124 #[.int .i64 0,.int .i64 0]):=⟨HB.out.1.trans (B2.mono HB.out.1.size),HB.out.2.1.mono B2 (Nat.le_refl _),HB.out.2.2.mono B2 (Nat.le_refl _)⟩
     have r0:w1.cell? (ad (w.heap.size+1) 0)=some (.int .i64 0):=HB1.out.2.2.cell 0
     have r1:w1.cell? (ad (w.heap.size+1) 1)=some (.int .i64 0):=HB1.out.2.2.cell 1
     obtain⟨g0,g1⟩:=HB1.out.2.2.f2
     clear B1 B2 hb1 HIN
     cases f4:wayF p (p.Y q) with
     |false=>
      rw[f4] at he
      subst he
      go_wp2_with fail
      refine bodyPost_ret (v:=.agg #[.int .i64 3,.int .i64 q]) (by simp[results,Tryz.results77,go_sem,r0,r1]) rfl ⟨by rw[planF_3 hF HSW.out HQ.out hlt f4],?_⟩
      exact(HB1.out.1.setCell (by show w.heap.size<=w.heap.size+1;omega) _).setCell (by show w.heap.size<=w.heap.size+1;omega) _
     |true=>
      rw[f4] at he
      subst he
      have HQ2:Hid (∀i,i<q+1->wayF p (p.Y i)=true):=fun i hi=>by
       by_cases e:i=q
       ·
        subst e
        exact f4
       ·
        exact HQ.out i (by omega)
      clear r0 r1 g0 g1
      go_wp2_with fail
      go_roundw
      case rel=>exact⟨q+1,by omega,by go_num,HQ2,HB1⟩
      case measure=>simp[intOf];omega
    ·
     obtain rfl:q=p.ny:=by omega
     have HUP:Hid (planF p=plan4 p):=planF_up hF HSW.out HQ.out
     have x2:wr.cell? (ad w.heap.size 2)=some (.slice (some (ad yb 0)) p.ny p.ny):=HB.out.2.1.cell 2
     have x3:wr.cell? (ad w.heap.size 3)=some (.slice (some (ad bb 0)) p.nb p.nb):=HB.out.2.1.cell 3
     obtain⟨g0,g1⟩:=HB.out.2.2.f2
     have HWY:Hid (∀q,q<p.ny->wayF p (p.Y q)=true):=HQ
     clear HQ
     by_cases hnb:p.nb=p.ny
     ·
      have hbi:(p.nb:Int)=(p.ny:Int):=by omega
      have hbb:((p.nb:Int)==(p.ny:Int))=true:=by simpa using hbi
      go_wp2_with fail
      have HNB:Hid (p.nb=p.ny):=hnb
      clear x2 x3 zr zp hbi hbb hnb
      go_loop [75] (fun i=>∃q:Nat,q<=p.nb/\i=.int .i64 q/\Hid (∀i,i<q->p.K i=p.ny)) (fun i=>p.nb-(intOf i).toNat)
      case atStart=>exact⟨0,Nat.zero_le _,rfl,fun i hi=>absurd hi (Nat.not_lt_zero _)⟩
      case round=>
       obtain⟨q,hq,rfl,HQ⟩:=hrel
       by_cases hlt:q<p.nb
       ·
        obtain⟨b,off,hba,_,hb,hc⟩:=(H.out.br.mono (Nat.le_refl _) HB.out.1 (Nat.le_refl _)) (by omega)
        simp only[Option.some.injEq,Addr.mk.injEq,and_true] at hba
        obtain⟨rfl,rfl⟩:=hba
        obtain⟨ra,rc,c0,_⟩:=hc q hlt
        rw[Nat.zero_add] at c0
        have x2:wr.cell? (ad w.heap.size 2)=some (.slice (some (ad yb 0)) p.ny p.ny):=HB.out.2.1.cell 2
        clear hc
        have hq0:(0:Int)<=(q:Int):=by omega
        have hqn:(q:Int)<(p.nb:Int):=by omega
        have hqy:(q:Int)<(p.ny:Int):=by have :=HNB.out;omega
        by_cases hk:p.K q=p.ny
        ·
         have hki:(p.K q:Int)=(p.ny:Int):=by omega
         have hkb:((p.K q:Int)==(p.ny:Int))=true:=by simpa using hki
         have hkn:((p.K q:Int) !=(p.ny:Int))=false:=by simp[hki]
         have HQ2:Hid (∀i,i<q+1->p.K i=p.ny):=fun i hi=>by
          by_cases e:i=q
          ·
           subst e
           exact hk
          ·
           exact HQ.out i (by omega)
         go_wp2_with fail
         go_round
         case rel=>exact⟨q+1,by omega,by go_num,HQ2⟩
         case measure=>simp[intOf];omega
        ·
         have hki:¬(p.K q:Int)=(p.ny:Int):=by omega
         have hkb:((p.K q:Int)==(p.ny:Int))=false:=by simpa using hki
         have hkn:((p.K q:Int) !=(p.ny:Int))=true:=by simp[hki]
         go_wp2_with fail
         refine bodyPost_ret (v:=.agg #[.int .i64 4,.int .i64 q]) (by simp[results,Tryz.results77,go_sem,r0,r1]) rfl ⟨by rw[HUP.out,plan4_hit HNB.out HQ.out hlt hk],?_⟩
         exact(HB.out.1.setCell (by show w.heap.size<=w.heap.size+1;omega) _).setCell (by show w.heap.size<=w.heap.size+1;omega) _
       ·
        obtain rfl:q=p.nb:=by omega
        have HUP5:Hid (planF p=plan5 p):=HUP.out.trans (plan4_up HNB.out HQ.out)
        have HK:Hid (∀i,i<p.nb->p.K i=p.ny):=HQ
        clear HQ
        have hqe:¬(p.nb:Int)<(p.ny:Int):=by have :=HNB.out;omega
        have xp0:wr.cell? (ad w.heap.size 0)=some (.int .i64 p.sec):=HB.out.2.1.cell 0
        have xp1:wr.cell? (ad w.heap.size 1)=some (.slice (some (ad wb 0)) p.nw p.nw):=HB.out.2.1.cell 1
        have xp2:wr.cell? (ad w.heap.size 2)=some (.slice (some (ad yb 0)) p.ny p.ny):=HB.out.2.1.cell 2
        have xp3:wr.cell? (ad w.heap.size 3)=some (.slice (some (ad bb 0)) p.nb p.nb):=HB.out.2.1.cell 3
        have xp4:wr.cell? (ad w.heap.size 4)=some (.int .i64 p.hold):=HB.out.2.1.cell 4
        go_wp2_with fail
        clear xp0 xp1 xp2 xp3 xp4 r0 r1 g0 g1 hqe
        refine(bars32 p _ _ _ _ _ _ _ hc1 hc2 HSM.out HNB.out HK.out ⟨H.out.sw.mono (Nat.le_refl _) HB.out.1 (Nat.le_refl _),H.out.wy.mono (Nat.le_refl _) HB.out.1 (Nat.le_refl _),H.out.br.mono (Nat.le_refl _) HB.out.1 (Nat.le_refl _)⟩).mono ?_
        rintro e w1 ⟨rfl,hb1⟩
        have HBE:Hid (barsI p=planF p):=HUP5.out.symm▸barsI_eq hc2 HNB.out HK.out HWY.out
        rw[HBE.out]
        have HB1:Hid (Below w.heap.size w w1/\Box w1 (w.heap.size+1) 124 #[.int .i64 0,.int .i64 0]):=⟨HB.out.1.trans (hb1.mono HB.out.1.size),HB.out.2.2.mono hb1 (Nat.le_refl _)⟩
        have r0:w1.cell? (ad (w.heap.size+1) 0)=some (.int .i64 0):=HB1.out.2.cell 0
        have r1:w1.cell? (ad (w.heap.size+1) 1)=some (.int .i64 0):=HB1.out.2.cell 1
        obtain⟨g0,g1⟩:=HB1.out.2.f2
        go_wp2_with fail
        refine bodyPost_ret (v:=.agg #[.int .i64 (planF p).1,.int .i64 (planF p).2]) (by simp[results,Tryz.results77,go_sem,r0,r1]) rfl ⟨rfl,?_⟩
        exact(HB1.out.1.setCell (by show w.heap.size<=w.heap.size+1;omega) _).setCell (by show w.heap.size<=w.heap.size+1;omega) _
     ·
      have hbi:¬(p.nb:Int)=(p.ny:Int):=by omega
      have hbb:((p.nb:Int)==(p.ny:Int))=false:=by simpa using hbi
      go_wp2_with fail
      refine bodyPost_ret (v:=.agg #[.int .i64 4,.int .i64 0]) (by simp[results,Tryz.results77,go_sem,r0,r1]) rfl ⟨by rw[HUP.out,plan4_no hnb],?_⟩
      exact(HB.out.1.setCell (by show w.heap.size<=w.heap.size+1;omega) _).setCell (by show w.heap.size<=w.heap.size+1;omega) _
end Go.Proofs.YtkeilejbelblcaaGreatDoor
