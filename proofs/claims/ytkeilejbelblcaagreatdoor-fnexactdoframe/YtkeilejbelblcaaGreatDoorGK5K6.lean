import Derived.Test.YtkeilejbelblcaaGreatDoorJar
import Derived.Test.YtkeilejbelblcaaGreatDoorJal
namespace Go.Proofs.YtkeilejbelblcaaGreatDoor
open Go.RowKit Go.Lib
def turnC (y:Wy) (P:Nat->Nat->Int) (j:Nat):Bool:=decide (P (cat y.nl y.L y.F j 0).toNat 0=cat y.nl y.L y.F j 1)&&decide (P (cat y.nl y.L y.F j 0).toNat 1=cat y.nl y.L y.F j 1)
theorem turnC_all (y:Wy) (P:Nat->Nat->Int):allB (turnC y P) (y.nl+y.nf)=(turnsB y.L y.nl P&&turnsB y.F y.nf P):=by
 rw[allB_add]
 congr 1
 ·
  unfold turnsB
  exact allB_congr fun j hj=>by simp[turnC,cat,hj]
 ·
  unfold turnsB
  exact allB_congr fun j _=>by
   have h:∀k,cat y.nl y.L y.F (y.nl+j) k=y.F j k:=fun k=>by rw[cat,if_neg (by omega),Nat.add_sub_cancel_left]
   simp only[turnC,h]
set_option maxRecDepth 100000 in
set_option maxHeartbeats 8000000 in
theorem proved70 (y:Wy) (b1 b2 b3 b4 b5:Nat) (oa:Option Addr) (no oc:Nat) (O:Nat->Bool) (pa:Option Addr) (np pc:Nat) (P:Nat->Nat->Int) (w:World) (h:VwIn w y b1 b2 b3 b4 b5 oa no O pa np P):
  Calls Tryz.prog 69 #[.agg #[.slice (some (ad b1 0)) y.ns y.ns,.slice (some (ad b2 0)) y.nl y.nl,.slice (some (ad b3 0)) y.nf y.nf,.slice (some (ad b4 0)) y.no y.no,.slice (some (ad b5 0)) y.nm y.nm,.slice oa no oc,.slice pa np pc]] w fun e w'=>e=.returned (.bool (prvB y O P))/\Below w.heap.size w w':=by
 have H:Hid (VwIn w y b1 b2 b3 b4 b5 oa no O pa np P):=h
 have hnl:y.nl<=1048576:=by have :=h.sm.2.1;omega
 have hnf:y.nf<=1048576:=by have :=h.sm.2.2.1;omega
 have hnp:=h.lnp
 clear h
 obtain⟨R,HR⟩:∃R,Hid (prvB y O P=R):=⟨_,rfl⟩
 rw[HR.out]
 have HR2:Hid ((allB (turnC y P) (y.nl+y.nf)&&(freeB y.S y.ns O&&freeB y.O y.no O))=R):=by rw[Hid,turnC_all,Bool.and_assoc,<-HR.out,prvB]
 have S0:Hid (Below w.heap.size w (w.alloc (.cells (vVw y b1 b2 b3 b4 b5 oa no oc pa np pc) 114))/\Box (w.alloc (.cells (vVw y b1 b2 b3 b4 b5 oa no oc pa np pc) 114)) w.heap.size 114 (vVw y b1 b2 b3 b4 b5 oa no oc pa np pc)):=⟨bel1 _ _,Box.new _ _ _⟩
 clear HR
 go_enter Tryz.func69,Tryz.ntmps69
 go_wp2_with fail
 generalize w.alloc (.cells (vVw y b1 b2 b3 b4 b5 oa no oc pa np pc) 114)=W at S0⊢
 refine(needs72 y (some (ad b1 0)) (some (ad b4 0)) (some (ad b5 0)) b2 0 b3 0 y.ns y.nl y.nf y.no y.nm W hnl hnf (H.out.wy.l.mono nr S0.out.1 nr) (H.out.wy.f.mono nr S0.out.1 nr)).mono ?_
 rintro e w1 ⟨v,rfl,hv,hb1⟩
 obtain⟨ca,cc,rfl⟩:=hv.val
 have S1:Hid (Below w.heap.size w w1/\Box w1 w.heap.size 114 (vVw y b1 b2 b3 b4 b5 oa no oc pa np pc)/\VsAt 2 0 w1 ca (y.nl+y.nf) (intF (cat y.nl y.L y.F))):=⟨S0.out.1.trans (hb1.mono S0.out.1.size),S0.out.2.mono hb1 nr,hv.vs.le (Nat.zero_le _)⟩
 clear S0 hv hb1
 go_wp2_with fail
 go_loopw [9] (fun i wr=>∃q:Nat,q<=y.nl+y.nf/\i=.int .i64 (q:Int)/\Hid (∀j,j<q->turnC y P j=true)/\Hid (Below w1.heap.size w1 wr)) (fun i _=>(y.nl+y.nf)-(intOf i).toNat)
 case atStart=>exact⟨0,Nat.zero_le _,rfl,fun i hi=>absurd hi (Nat.not_lt_zero _),Below.refl _ _⟩
 case round=>
  obtain⟨q,hq,rfl,HQ,M⟩:=hrel
  by_cases hlt:q<y.nl+y.nf
  ·
   obtain⟨o,ho,hon⟩:∃o:Nat,cat y.nl y.L y.F q 0=(o:Int)/\o<np:=by
    by_cases c:q<y.nl
    ·
     obtain⟨o,h1,h2⟩:=H.out.inn.l q c
     exact⟨o,by simp[cat,c,h1],h2⟩
    ·
     obtain⟨o,h1,h2⟩:=H.out.inn.f (q-y.nl) (by omega)
     exact⟨o,by simp[cat,c,h1],h2⟩
   obtain⟨x,hx⟩:∃x,cat y.nl y.L y.F q 1=x:=⟨_,rfl⟩
   obtain⟨cb,co,rfl,_,hcb,hcc⟩:=S1.out.2.2.mono nr M.out nr (by omega)
   have hQ:=(H.out.pt.mono nr S1.out.1 nr).mono nr M.out nr
   obtain⟨pb,po,rfl,_,hpb,hpc⟩:=hQ (by omega)
   have c0:wr.cell? (ad cb (co+q*2))=some (.int .i64 (o:Int)):=by have :=hcc q hlt 0 (by omega);rw[Nat.add_zero,intF,ho] at this;exact this
   have c1:wr.cell? (ad cb (co+q*2+1))=some (.int .i64 x):=by have :=hcc q hlt 1 (by omega);rw[intF,hx] at this;exact this
   have d0':wr.cell? (ad pb (po+o*2))=some (.int .i64 (P o 0)):=hpc o hon 0 (by omega)
   have d1':wr.cell? (ad pb (po+o*2+1))=some (.int .i64 (P o 1)):=hpc o hon 1 (by omega)
   have B1:=bel1 wr (.cells #[.int .i64 (o:Int),.int .i64 x] 146)
   have d0:=cell_keep B1 hpb d0'
   have d1:=cell_keep B1 hpb d1'
   have x2:(wr.alloc (.cells #[.int .i64 (o:Int),.int .i64 x] 146)).cell? (ad w.heap.size (2+4))=some (.slice (some (ad pb po)) np pc):=((S1.out.2.1.mono M.out nr).alloc _).cell 6
   have tb:Box (wr.alloc (.cells #[.int .i64 (o:Int),.int .i64 x] 146)) wr.heap.size 146 #[.int .i64 (o:Int),.int .i64 x]:=Box.new _ _ _
   have M2:Hid (Below w1.heap.size w1 (wr.alloc (.cells #[.int .i64 (o:Int),.int .i64 x] 146))):=M.out.alloc M.out.size _
   have HT:Hid (turnC y P q=(decide (P o 0=x)&&decide (P o 1=x))):=by
    show turnC y P q=_
    simp only[turnC,ho,hx,Int.toNat_natCast]
   have HNO:Hid (turnC y P q=false->R=false):=fun e=>by rw[<-HR2.out,allB_no hlt e];rfl
   have HGO:Hid (turnC y P q=true->∀k,k<q+1->turnC y P k=true):=fun e k hk=>by
    by_cases c:k=q
    ·
     subst c
     exact e
    ·
     exact HQ.out k (by omega)
   have HBT:Hid (∀n,Below w.heap.size w ((wr.alloc (.cells #[.int .i64 (o:Int),.int .i64 x] 146)).drewN n)):=fun n=>below_drewN (S1.out.1.trans (M2.out.mono S1.out.1.size)) _
   clear hcc hpc hQ d0' d1' B1 ho hx
   have hq0:(0:Int)<=(q:Int):=by omega
   have hql:(q:Int)<((y.nl+y.nf:Nat):Int):=by omega
   have ho0:(0:Int)<=(o:Int):=by omega
   have hon':(o:Int)<(np:Int):=by omega
   go_wp2_with fail
   generalize wr.alloc (.cells #[.int .i64 (o:Int),.int .i64 x] 146)=W2 at *
   obtain⟨t0,t1⟩:=tb.c2
   clear c0 c1 tb
   by_cases e0:P o 0=x
   ·
    by_cases e1:P o 1=x
    ·
     have HX:=HGO.out (by rw[HT.out];simp[e0,e1])
     rw[e0] at d0
     rw[e1] at d1
     have z0:(x==x)=true:=by simp
     go_quiet (fail)
     go_wp2_with fail
     go_roundw
     case rel=>exact⟨q+1,by omega,by go_num,HX,below_drewN M2.out _⟩
     case measure=>simp[intOf];omega
    ·
     have z1:(P o 1==x)=false:=by simpa using e1
     have HX:Hid (R=false):=HNO.out (by rw[HT.out];simp[e1])
     rw[e0] at d0
     have z0:(x==x)=true:=by simp
     go_quiet (fail)
     go_wp2_with fail
     go_ret
     exact⟨by rw[HX.out];rfl,HBT.out _⟩
   ·
    have z0:(P o 0==x)=false:=by simpa using e0
    have HX:Hid (R=false):=HNO.out (by rw[HT.out];simp[e0])
    go_quiet (fail)
    go_wp2_with fail
    go_ret
    exact⟨by rw[HX.out];rfl,HBT.out _⟩
  ·
   obtain rfl:q=y.nl+y.nf:=by omega
   have HR3:Hid ((freeB y.S y.ns O&&freeB y.O y.no O)=R):=by rw[Hid,<-HR2.out,allB_iff.2 HQ.out,Bool.true_and]
   have X:Box wr w.heap.size 114 (vVw y b1 b2 b3 b4 b5 oa no oc pa np pc):=S1.out.2.1.mono M.out nr
   have HB:Hid (Below w.heap.size w wr):=S1.out.1.trans (M.out.mono S1.out.1.size)
   obtain⟨x0,x1,x2,x3,x4,x5,x6⟩:=X.c7
   clear X
   go_wp2_with fail
   refine(crowd106 y b1 b2 b3 b4 b5 oa no oc O pa np pc P wr (H.out.mono HB.out nr)).mono ?_
   rintro e w2 ⟨va,n,vc,rfl,hn,hd,hb2⟩
   have HF:Hid (decide ((n:Int)=0)=R):=by
    rw[Hid,<-HR3.out,<-hd]
    simp
   clear hd x0 x1 x2 x3 x4 x5 x6
   go_wp2_with fail
   go_ret
   exact⟨by rw[<-HF.out];rfl,HB.out.trans (hb2.mono HB.out.size)⟩
set_option maxRecDepth 100000 in
set_option maxHeartbeats 2000000 in
theorem clone123 (b off n cap:Nat) (B:Nat->Bool) (w:World) (hn:n<=1048576) (h:VsAt 1 0 w (some (ad b off)) n (boolF B)):
  Calls Tryz.prog 135 #[.slice (some (ad b off)) n cap] w fun e w'=>∃v,e=.returned v/\VOwn w.heap.size 4 1 w' v n (boolF B)/\Below w.heap.size w w':=by
 obtain⟨i1,hi1,hz1,hs1,hb1⟩:=info_parts infoBool
 have hnil:∀W:World,(binOp .eql 27 (.slice (some (ad b off)) n cap) (.slice none 0 0)).run Tryz.prog W=.ok (.bool false) W:=fun W=>Lib.run_eql_slice_nil W 27 4 _ n cap 0 0 Tryz.underlying27
 have B0:=bel1 w (.cells #[] 4)
 have hrow:VOwn w.heap.size 4 1 (w.alloc (.cells #[] 4)) (.slice (some (ad w.heap.size 0)) 0 0) 0 (boolF B):=.inr ⟨_,0,#[],rfl,Nat.le_refl _,Box.new _ _ _,Nat.le_refl _,by simp[maxLen],rfl,fun i hi=>absurd hi (Nat.not_lt_zero _)⟩
 have hv:=h.mono nr B0 nr
 go_enter Tryz.func135,Tryz.ntmps135
 go_wp2_with(at_builtin;go_must (refine wpList_vcp _ rfl _ _ 27 rfl w.heap.size 4 i1 _ 1 1 Tryz.underlying27 hi1 hz1 hs1 hb1 rfl (by decide) (.slice (some (ad w.heap.size 0)) 0 0) (boolF B) rfl hrow b off n cap (boolF B) rfl hv (fun _ _=>rfl) (by simp only[maxLen];omega) (by omega) (by simp) (Halt.mk ?_)))
 intro v2 w2 o2 g2
 have HB:Hid (VOwn w.heap.size 4 1 w2 v2 n (boolF B)/\Below w.heap.size w w2):=⟨o2,B0.grown g2 (by simp) (fun j hj=>(hrow.lt hj).1)⟩
 clear o2 g2 hrow hv B0
 go_wp2_with fail
 go_ret
 exact⟨_,rfl,HB.out.1,HB.out.2⟩
set_option maxRecDepth 100000 in
set_option maxHeartbeats 4000000 in
theorem behind200 (y:Wy) (b1 b2 b3 b4 b5:Nat) (oa:Option Addr) (no oc:Nat) (O:Nat->Bool) (pa:Option Addr) (np pc:Nat) (P:Nat->Nat->Int) (g:Nat) (rb cap:Nat) (B:Nat->Bool) (sh:Bool) (w:World) (hg:g<y.ns) (h:VwIn w y b1 b2 b3 b4 b5 oa no O pa np P) (hB:VsAt 1 0 w (some (ad rb 0)) y.ns (boolF B)):
  Calls Tryz.prog 201 #[.agg #[.int .i64 (g:Int),.slice (some (ad rb 0)) y.ns cap,.bool sh],.agg #[.slice (some (ad b1 0)) y.ns y.ns,.slice (some (ad b2 0)) y.nl y.nl,.slice (some (ad b3 0)) y.nf y.nf,.slice (some (ad b4 0)) y.no y.no,.slice (some (ad b5 0)) y.nm y.nm,.slice oa no oc,.slice pa np pc]] w fun e w'=>e=.returned (.bool (!stopB y.ns B (fun k=>O (y.S k).toNat) g))/\Below w.heap.size w w':=by
 have hns:y.ns<=1048576:=by have :=h.sm.1;omega
 obtain⟨b',o',e,_,hrb,hc⟩:=hB (by omega)
 simp only[Option.some.injEq,Addr.mk.injEq,and_true] at e
 obtain⟨rfl,rfl⟩:=e
 have c0:w.cell? (ad rb g)=some (.bool (B g)):=by have :=hc g hg 0 (by omega);simpa using this
 have c1:g+1<y.ns->w.cell? (ad rb (g+1))=some (.bool (B (g+1))):=fun hx=>by have :=hc (g+1) hx 0 (by omega);simpa using this
 obtain⟨R,HR⟩:∃R,Hid ((!stopB y.ns B (fun k=>O (y.S k).toNat) g)=R):=⟨_,rfl⟩
 rw[HR.out]
 have HR2:Hid ((B g&&(!O (y.S g).toNat&&(decide (g+1=y.ns)||B (g+1))))=R):=by
  rw[Hid,<-HR.out,stopB,Bool.not_not]
  simp[hg]
 have H:Hid (VwIn w y b1 b2 b3 b4 b5 oa no O pa np P):=h
 have S0:Hid (Below w.heap.size w ((w.alloc (.cells #[.int .i64 (g:Int),.slice (some (ad rb 0)) y.ns cap,.bool sh] 169)).alloc (.cells (vVw y b1 b2 b3 b4 b5 oa no oc pa np pc) 114))/\Box ((w.alloc (.cells #[.int .i64 (g:Int),.slice (some (ad rb 0)) y.ns cap,.bool sh] 169)).alloc (.cells (vVw y b1 b2 b3 b4 b5 oa no oc pa np pc) 114)) w.heap.size 169 #[.int .i64 (g:Int),.slice (some (ad rb 0)) y.ns cap,.bool sh]/\Box ((w.alloc (.cells #[.int .i64 (g:Int),.slice (some (ad rb 0)) y.ns cap,.bool sh] 169)).alloc (.cells (vVw y b1 b2 b3 b4 b5 oa no oc pa np pc) 114)) (w.heap.size+1) 114 (vVw y b1 b2 b3 b4 b5 oa no oc pa np pc)):=⟨bel2 _ _ _,(Box.new _ _ _).alloc _,by have :=Box.new (w.alloc (.cells #[.int .i64 (g:Int),.slice (some (ad rb 0)) y.ns cap,.bool sh] 169)) 114 (vVw y b1 b2 b3 b4 b5 oa no oc pa np pc);simpa using this⟩
 have c0:=cell_keep S0.out.1 hrb c0
 have c1:=fun hx=>cell_keep S0.out.1 hrb (c1 hx)
 have hg0:(0:Int)<=(g:Int):=by omega
 have hgn:(g:Int)<(y.ns:Int):=by omega
 clear hc hB h HR
 cases hBg:B g with
 |false=>
  rw[hBg] at c0
  have HX:Hid (R=false):=by rw[Hid,<-HR2.out,hBg];rfl
  go_enter Tryz.func201,Tryz.ntmps201
  go_wp2_with fail
  go_ret
  exact⟨by rw[HX.out];rfl,S0.out.1⟩
 |true=>
  rw[hBg] at c0
  go_enter Tryz.func201,Tryz.ntmps201
  go_wp2_with fail
  generalize (w.alloc (.cells #[.int .i64 (g:Int),.slice (some (ad rb 0)) y.ns cap,.bool sh] 169)).alloc (.cells (vVw y b1 b2 b3 b4 b5 oa no oc pa np pc) 114)=W at *
  refine(filled197 y b1 b2 b3 b4 b5 oa no oc O pa np pc P g W (by omega) (H.out.mono S0.out.1 nr)).mono ?_
  rintro e w1 ⟨he,hb1⟩
  have S1:Hid (Below w.heap.size w w1/\Box w1 w.heap.size 169 #[.int .i64 (g:Int),.slice (some (ad rb 0)) y.ns cap,.bool sh]):=⟨S0.out.1.trans (hb1.mono S0.out.1.size),S0.out.2.1.mono hb1 nr⟩
  have hrw:rb<W.heap.size:=Nat.lt_of_lt_of_le hrb S0.out.1.size
  have c1:=fun hx=>cell_keep hb1 hrw (c1 hx)
  have x1:=S1.out.2.cel 1
  clear hb1 S0 c0 hrw
  cases hO:O (y.S g).toNat with
  |true=>
   rw[hO] at he
   subst he
   have HX:Hid (R=false):=by rw[Hid,<-HR2.out,hBg,hO];rfl
   go_wp2_with fail
   go_ret
   exact⟨by rw[HX.out];rfl,S1.out.1⟩
  |false=>
   rw[hO] at he
   subst he
   by_cases hl:g+1=y.ns
   ·
    have HX:Hid (R=true):=by rw[Hid,<-HR2.out,hBg,hO];simp[hl]
    have z:((g:Int)+1==(y.ns:Int))=true:=by simp;omega
    clear c1
    go_wp2_with fail
    go_ret
    exact⟨by rw[HX.out];rfl,S1.out.1⟩
   ·
    have HX:Hid (R=B (g+1)):=by rw[Hid,<-HR2.out,hBg,hO];simp[hl]
    have z:((g:Int)+1==(y.ns:Int))=false:=by simp;omega
    have c2:=c1 (by omega)
    have hg1:(g:Int)+1<(y.ns:Int):=by omega
    have hg2:(0:Int)<=(g:Int)+1:=by omega
    have hg3:((g:Int)+1).toNat=g+1:=by omega
    clear c1
    go_wp2_with fail
    go_ret
    exact⟨by rw[HX.out];rfl,S1.out.1⟩
end Go.Proofs.YtkeilejbelblcaaGreatDoor
