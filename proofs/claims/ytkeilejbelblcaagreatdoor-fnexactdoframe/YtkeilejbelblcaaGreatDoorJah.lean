import Derived.Test.YtkeilejbelblcaaGreatDoorJag
namespace Go.Proofs.YtkeilejbelblcaaGreatDoor
open Go.RowKit
def nd (y:Wy) (i:Nat):Int:=cat y.nl y.L y.F i 0
def turnsF (p:Pl) (y:Wy):Bool:=decide (y.nl<=30)&&decide (y.nf<=30)&&allB (tuF (cat y.nl y.L y.F) p.nw) (y.nl+y.nf)
theorem tu_low {L:Nat->Nat->Int}{m i:Nat}(h:tuF L m i=true) (hm:m<=40):0<=L i 0/\L i 0<64:=by
 simp only[tuF,inB,Bool.and_eq_true,decide_eq_true_eq] at h
 omega
theorem tuF_of {y:Wy}{m q:Nat}(hm:m<=40) (hq:∀i,i<q->tuF (cat y.nl y.L y.F) m i=true) (h1:inB (cat y.nl y.L y.F q 0) 0 ((m:Int)-1)=true) (h2:inB (cat y.nl y.L y.F q 1) 1 2=true):
  tuF (cat y.nl y.L y.F) m q=!mt (mkA (nd y) q) (mkB (nd y) q) (cat y.nl y.L y.F q 0):=by
 have hr:0<=cat y.nl y.L y.F q 0/\cat y.nl y.L y.F q 0<=(m:Int)-1:=by simpa [inB] using h1
 rw[mk_has (S:=nd y) hr.1 (by omega) fun i hi=>tu_low (hq i hi) hm,anyB,tuF,h1,h2,Bool.true_and,Bool.true_and,Bool.not_not]
 refine allB_congr fun i _=>?_
 rw[Bool.eq_iff_iff]
 simp only[nd,ne_eq,decide_not,Bool.not_eq_eq_eq_not,Bool.not_true]
 first |exact Iff.rfl|exact decide_eq_false_iff_not.symm|(rw[decide_eq_false_iff_not,decide_eq_false_iff_not])
set_option maxRecDepth 100000 in
set_option maxHeartbeats 8000000 in
theorem turns60 (p:Pl) (wa ya ba:Option Addr) (wc yc bc:Nat) (y:Wy) (sa oa ma:Option Addr) (lb lo fb fo:Nat) (sc lc fc oc mc:Nat) (w:World) (hw:p.nw<=40) (hs:y.small 1048576) (hL:VsAt 2 0 w (some (ad lb lo)) y.nl (intF y.L)) (hF:VsAt 2 0 w (some (ad fb fo)) y.nf (intF y.F)):
  Calls Tryz.prog 128 #[.agg #[.int .i64 p.sec,.slice wa p.nw wc,.slice ya p.ny yc,.slice ba p.nb bc,.int .i64 p.hold],.agg #[.slice sa y.ns sc,.slice (some (ad lb lo)) y.nl lc,.slice (some (ad fb fo)) y.nf fc,.slice oa y.no oc,.slice ma y.nm mc]] w fun e w'=>e=.returned (.bool (turnsF p y))/\Below w.heap.size w w':=by
 obtain⟨s1,s2,s3,s4,s5⟩:=hs
 have H:Hid (VsAt 2 0 w (some (ad lb lo)) y.nl (intF y.L)/\VsAt 2 0 w (some (ad fb fo)) y.nf (intF y.F)):=⟨hL,hF⟩
 clear hL hF
 go_enter Tryz.func128,Tryz.ntmps128
 by_cases h30:(30:Int)<(y.nl:Int)
 ·
  have d30:decide ((30:Int)<(y.nl:Int))=true:=by simpa using h30
  go_wp2_with fail
  go_ret
  exact⟨by simp[turnsF];omega,bel2 _ _ _⟩
 have d30:decide ((30:Int)<(y.nl:Int))=false:=by simpa using h30
 by_cases g30:(30:Int)<(y.nf:Int)
 ·
  have e30:decide ((30:Int)<(y.nf:Int))=true:=by simpa using g30
  go_wp2_with fail
  go_ret
  exact⟨by simp[turnsF];omega,bel2 _ _ _⟩
 have e30:decide ((30:Int)<(y.nf:Int))=false:=by simpa using g30
 go_wp2_with fail
 have B0:=bel3 w (.cells (vPl p wa wc ya yc ba bc) 37) (.cells (vWy y sa sc (some (ad lb lo)) lc (some (ad fb fo)) fc oa oc ma mc) 112) (.cells #[.int .u64 0,.int .u64 0] 192)
 have X0:Box (((w.alloc (.cells (vPl p wa wc ya yc ba bc) 37)).alloc (.cells (vWy y sa sc (some (ad lb lo)) lc (some (ad fb fo)) fc oa oc ma mc) 112)).alloc (.cells #[.int .u64 0,.int .u64 0] 192)) w.heap.size 37 (vPl p wa wc ya yc ba bc):=((Box.new w 37 _).alloc _).alloc _
 have M0:Box (((w.alloc (.cells (vPl p wa wc ya yc ba bc) 37)).alloc (.cells (vWy y sa sc (some (ad lb lo)) lc (some (ad fb fo)) fc oa oc ma mc) 112)).alloc (.cells #[.int .u64 0,.int .u64 0] 192)) (w.heap.size+1+1) 192 #[.int .u64 0,.int .u64 0]:=by have :=Box.new ((w.alloc (.cells (vPl p wa wc ya yc ba bc) 37)).alloc (.cells (vWy y sa sc (some (ad lb lo)) lc (some (ad fb fo)) fc oa oc ma mc) 112)) 192 #[.int .u64 0,.int .u64 0];simpa using this
 refine(needs72 y sa oa ma lb lo fb fo sc lc fc oc mc _ (by omega) (by omega) (H.out.1.mono nr B0 nr) (H.out.2.mono nr B0 nr)).mono ?_
 rintro e w1 ⟨v,rfl,ho,hb1⟩
 obtain⟨va,vc,hv⟩:=ho.val
 rw[hv] at ho⊢
 have HS1:Hid (Below w.heap.size w w1/\Box w1 w.heap.size 37 (vPl p wa wc ya yc ba bc)/\Box w1 (w.heap.size+1+1) 192 #[.int .u64 ((mkA (nd y) 0:Nat):Int),.int .u64 ((mkB (nd y) 0:Nat):Int)]/\VsAt 2 (w.heap.size+1+1+1) w1 va (y.nl+y.nf) (intF (cat y.nl y.L y.F))):=⟨B0.trans (hb1.mono B0.size),X0.mono hb1 nr,by have :=M0.mono hb1 nr;simpa [mkA,mkB] using this,ho.vs.le (by simp)⟩
 clear ho hb1 hv B0 X0 M0 d30 e30
 go_wp2_with fail
 go_loopw [21] (fun i wr=>∃q:Nat,q<=y.nl+y.nf/\i=.int .i64 q/\Hid (∀i,i<q->tuF (cat y.nl y.L y.F) p.nw i=true)/\Hid (Below w.heap.size w wr/\Box wr w.heap.size 37 (vPl p wa wc ya yc ba bc)/\Box wr (w.heap.size+1+1) 192 #[.int .u64 ((mkA (nd y) q:Nat):Int),.int .u64 ((mkB (nd y) q:Nat):Int)]/\VsAt 2 (w.heap.size+1+1+1) wr va (y.nl+y.nf) (intF (cat y.nl y.L y.F)))) (fun i _=>y.nl+y.nf-(intOf i).toNat)
 case atStart=>exact⟨0,Nat.zero_le _,rfl,fun i hi=>absurd hi (Nat.not_lt_zero _),HS1⟩
 case round=>
  obtain⟨q,hq,rfl,HQ,HB⟩:=hrel
  by_cases hlt:q<y.nl+y.nf
  ·
   obtain⟨b,off,hva,_,hb,hc⟩:=HB.out.2.2.2 (by omega)
   have c0:wr.cell? (ad b (off+q*2))=some (.int .i64 (cat y.nl y.L y.F q 0)):=hc q hlt 0 (by omega)
   have c1:wr.cell? (ad b (off+q*2+1))=some (.int .i64 (cat y.nl y.L y.F q 1)):=hc q hlt 1 (by omega)
   have x1:=HB.out.2.1.cel 1
   have z1:w.heap.size<wr.heap.size:=HB.out.2.1.lt
   have z3:w.heap.size+1+1<wr.heap.size:=HB.out.2.2.1.lt
   clear hc hb
   subst hva
   obtain⟨u0,hu0⟩:∃u,u=cat y.nl y.L y.F q 0:=⟨_,rfl⟩
   obtain⟨u1,hu1⟩:∃u,u=cat y.nl y.L y.F q 1:=⟨_,rfl⟩
   have HU:Hid (u0=cat y.nl y.L y.F q 0/\u1=cat y.nl y.L y.F q 1):=⟨hu0,hu1⟩
   rw[<-hu0] at c0
   rw[<-hu1] at c1
   clear hu0 hu1
   have hq0:(0:Int)<=(q:Int):=by omega
   have hqn:(q:Int)<(y.nl:Int)+(y.nf:Int):=by omega
   go_wp2_with fail
   have B1:=bel1 wr (.cells #[.int .i64 u0,.int .i64 u1] 146)
   have HB1:Hid (Below w.heap.size w (wr.alloc (.cells #[.int .i64 u0,.int .i64 u1] 146))/\Box (wr.alloc (.cells #[.int .i64 u0,.int .i64 u1] 146)) w.heap.size 37 (vPl p wa wc ya yc ba bc)/\Box (wr.alloc (.cells #[.int .i64 u0,.int .i64 u1] 146)) (w.heap.size+1+1) 192 #[.int .u64 ((mkA (nd y) q:Nat):Int),.int .u64 ((mkB (nd y) q:Nat):Int)]/\VsAt 2 (w.heap.size+1+1+1) (wr.alloc (.cells #[.int .i64 u0,.int .i64 u1] 146)) (some (ad b off)) (y.nl+y.nf) (intF (cat y.nl y.L y.F))):=⟨HB.out.1.trans (B1.mono HB.out.1.size),HB.out.2.1.mono B1 nr,HB.out.2.2.1.mono B1 nr,HB.out.2.2.2.mono nr B1 nr⟩
   have HX1:Hid (Box (wr.alloc (.cells #[.int .i64 u0,.int .i64 u1] 146)) wr.heap.size 146 #[.int .i64 u0,.int .i64 u1]):=Box.new wr 146 _
   clear c0 c1 x1 B1 HB
   refine(place68 wa p.nw wc u0 _ (by omega)).mono ?_
   rintro e wx ⟨he,hwx⟩
   have hwx:=hwx.symm
   subst hwx
   cases f1:inB u0 0 ((p.nw:Int)-1) with
   |false=>
    rw[f1] at he
    subst he
    go_wp2_with fail
    go_ret
    refine⟨?_,HB1.out.1⟩
    have :tuF (cat y.nl y.L y.F) p.nw q=false:=by simp[tuF,<-HU.out.1,f1]
    simp[turnsF,allB_no hlt this]
   |true=>
   rw[f1] at he
   subst he
   go_wp2_with fail
   refine(within30 u1 1 2 _).mono ?_
   rintro e wx ⟨he,hwx⟩
   have hwx:=hwx.symm
   subst hwx
   cases f2:inB u1 1 2 with
   |false=>
    rw[f2] at he
    subst he
    go_wp2_with fail
    go_ret
    refine⟨?_,HB1.out.1⟩
    have :tuF (cat y.nl y.L y.F) p.nw q=false:=by simp[tuF,<-HU.out.2,f2]
    simp[turnsF,allB_no hlt this]
   |true=>
   rw[f2] at he
   subst he
   have hel:=tuF_of hw HQ.out (by rw[<-HU.out.1];exact f1) (by rw[<-HU.out.2];exact f2)
   rw[<-HU.out.1] at hel
   obtain⟨m0,m1⟩:=HB1.out.2.2.1.c2
   generalize wr.alloc (.cells #[.int .i64 u0,.int .i64 u1] 146)=W1 at HB1 HX1 m0 m1⊢
   have xx:=HX1.out.cel 0
   go_wp2_with fail
   clear m0 m1 xx
   refine(has61 (mkA (nd y) q) (mkB (nd y) q) u0 _ (mkA_lt _ _) (mkB_lt _ _)).mono ?_
   rintro e w2 ⟨he,hb2⟩
   have HB2:Hid (Below w.heap.size w w2/\Box w2 w.heap.size 37 (vPl p wa wc ya yc ba bc)/\Box w2 (w.heap.size+1+1) 192 #[.int .u64 ((mkA (nd y) q:Nat):Int),.int .u64 ((mkB (nd y) q:Nat):Int)]/\VsAt 2 (w.heap.size+1+1+1) w2 (some (ad b off)) (y.nl+y.nf) (intF (cat y.nl y.L y.F))):=⟨HB1.out.1.trans (hb2.mono HB1.out.1.size),HB1.out.2.1.mono hb2 nr,HB1.out.2.2.1.mono hb2 nr,HB1.out.2.2.2.mono nr hb2 nr⟩
   have HX2:Hid (Box w2 wr.heap.size 146 #[.int .i64 u0,.int .i64 u1]):=HX1.out.mono hb2 nr
   clear hb2 HB1 HX1
   cases f3:mt (mkA (nd y) q) (mkB (nd y) q) u0 with
   |true=>
    rw[f3] at he hel
    subst he
    go_wp2_with fail
    go_ret
    exact⟨by simp[turnsF,allB_no hlt hel],HB2.out.1⟩
   |false=>
   rw[f3] at he hel
   subst he
   have HQ2:Hid (∀i,i<q+1->tuF (cat y.nl y.L y.F) p.nw i=true):=fun i hi=>by
    by_cases e:i=q
    ·
     subst e
     exact hel
    ·
     exact HQ.out i (by omega)
   clear hel
   obtain⟨m0,m1⟩:=HB2.out.2.2.1.c2
   have xx:=HX2.out.cel 0
   go_wp2_with fail
   clear m0 m1 xx
   refine(with71 (mkA (nd y) q) (mkB (nd y) q) u0 _ (mkA_lt _ _) (mkB_lt _ _)).mono ?_
   rintro e w3 ⟨rfl,hb3⟩
   have HB3:Hid (Below w.heap.size w w3/\Box w3 w.heap.size 37 (vPl p wa wc ya yc ba bc)/\Box w3 (w.heap.size+1+1) 192 #[.int .u64 ((mkA (nd y) q:Nat):Int),.int .u64 ((mkB (nd y) q:Nat):Int)]/\VsAt 2 (w.heap.size+1+1+1) w3 (some (ad b off)) (y.nl+y.nf) (intF (cat y.nl y.L y.F))):=⟨HB2.out.1.trans (hb3.mono HB2.out.1.size),HB2.out.2.1.mono hb3 nr,HB2.out.2.2.1.mono hb3 nr,HB2.out.2.2.2.mono nr hb3 nr⟩
   clear hb3 HB2 HX2
   obtain⟨m0,m1⟩:=HB3.out.2.2.1.c2
   obtain⟨g0,g1⟩:=HB3.out.2.2.1.f2
   go_wp2_with fail
   go_roundw
   case rel=>
    have hle:w.heap.size<=w.heap.size+1+1:=by omega
    refine⟨q+1,by omega,by go_num,HQ2,(HB3.out.1.setCell (p:=(ad (w.heap.size+1+1) 0)) hle _).setCell (p:=(ad (w.heap.size+1+1) 1)) hle _,(HB3.out.2.1.other (p:=(ad (w.heap.size+1+1) 0)) (by show w.heap.size≠w.heap.size+1+1;omega) _).other (p:=(ad (w.heap.size+1+1) 1)) (by show w.heap.size≠w.heap.size+1+1;omega) _,?_,HB3.out.2.2.2.keep nr (by simp[World.setCell]) fun g hg _=>?_⟩
    ·
     have :=(HB3.out.2.2.1.set 0 (.int .u64 ((mA (mkA (nd y) q) u0:Nat):Int))).set 1 (.int .u64 ((mB (mkB (nd y) q) u0:Nat):Int))
     have e1:mkA (nd y) (q+1)=mA (mkA (nd y) q) u0:=by rw[mkA,HU.out.1];rfl
     have e2:mkB (nd y) (q+1)=mB (mkB (nd y) q) u0:=by rw[mkB,HU.out.1];rfl
     rw[e1,e2]
     simpa using this
    ·
     have hne:g≠w.heap.size+1+1:=by omega
     rw[Below.heap_setCell _ _ _ _ hne,Below.heap_setCell _ _ _ _ hne]
   case measure=>simp[intOf];omega
  ·
   obtain rfl:q=y.nl+y.nf:=by omega
   go_wp2_with fail
   go_ret
   exact⟨by simp only[turnsF,allB_iff.2 HQ.out];simp;omega,HB.out.1⟩
theorem secA_lt (S:Nat->Int) (n:Nat) (m:Int):secA S n m<18446744073709551616:=by
 unfold secA
 split
 ·
  exact mkA_lt _ _
 ·
  omega
theorem secB_lt (S:Nat->Int) (n:Nat) (m:Int):secB S n m<18446744073709551616:=by
 unfold secB
 split
 ·
  exact mkB_lt _ _
 ·
  omega
def offF (p:Pl) (y:Wy):Bool:=(((secA y.S y.ns p.sec&&& secA y.O y.no p.sec:Nat):Int)==0)&&(((secB y.S y.ns p.sec&&& secB y.O y.no p.sec:Nat):Int)==0)
def inF (p:Pl) (y:Wy) (i:Nat):Bool:=mt (secA y.S y.ns p.sec) (secB y.S y.ns p.sec) (p.W (y.L i 0).toNat)
def wayI (p:Pl) (y:Wy):Bool:=decide (0<y.ns)&&listF y.S y.ns p.sec&&listF y.O y.no p.sec&&listF y.M y.nm p.sec&&offF p y&&turnsF p y&&allB (inF p y) y.nl
set_option maxRecDepth 100000 in
set_option maxHeartbeats 8000000 in
theorem wayOk31 (p:Pl) (wa ya ba:Option Addr) (wc yc bc:Nat) (y:Wy) (sa oa ma:Option Addr) (lb lo fb fo:Nat) (sc lc fc oc mc:Nat) (w:World) (h1:1<=p.sec) (h2:p.sec<=60) (hw:p.nw<=40) (hs:y.small 1048576) (hW:VsAt 1 0 w wa p.nw (oneF p.W)) (hY:WyIn 0 w y sa (some (ad lb lo)) (some (ad fb fo)) oa ma):
  Calls Tryz.prog 104 #[.agg #[.int .i64 p.sec,.slice wa p.nw wc,.slice ya p.ny yc,.slice ba p.nb bc,.int .i64 p.hold],.agg #[.slice sa y.ns sc,.slice (some (ad lb lo)) y.nl lc,.slice (some (ad fb fo)) y.nf fc,.slice oa y.no oc,.slice ma y.nm mc]] w fun e w'=>e=.returned (.bool (wayI p y))/\Below w.heap.size w w':=by
 have HSM:Hid (y.small 1048576):=hs
 obtain⟨s1,s2,s3,s4,s5⟩:=hs
 have H:Hid (VsAt 1 0 w wa p.nw (oneF p.W)/\WyIn 0 w y sa (some (ad lb lo)) (some (ad fb fo)) oa ma):=⟨hW,hY⟩
 clear hW hY
 go_enter Tryz.func104,Tryz.ntmps104
 go_wp2_with fail
 have B0:Hid (Below w.heap.size w ((w.alloc (.cells (vPl p wa wc ya yc ba bc) 37)).alloc (.cells (vWy y sa sc (some (ad lb lo)) lc (some (ad fb fo)) fc oa oc ma mc) 112))/\Box ((w.alloc (.cells (vPl p wa wc ya yc ba bc) 37)).alloc (.cells (vWy y sa sc (some (ad lb lo)) lc (some (ad fb fo)) fc oa oc ma mc) 112)) w.heap.size 37 (vPl p wa wc ya yc ba bc)/\Box ((w.alloc (.cells (vPl p wa wc ya yc ba bc) 37)).alloc (.cells (vWy y sa sc (some (ad lb lo)) lc (some (ad fb fo)) fc oa oc ma mc) 112)) (w.heap.size+1) 112 (vWy y sa sc (some (ad lb lo)) lc (some (ad fb fo)) fc oa oc ma mc)):=⟨bel2 _ _ _,(Box.new w 37 _).alloc _,by have :=Box.new (w.alloc (.cells (vPl p wa wc ya yc ba bc) 37)) 112 (vWy y sa sc (some (ad lb lo)) lc (some (ad fb fo)) fc oa oc ma mc);simpa using this⟩
 refine(sec58 p wa ya ba wc yc bc sa y.ns sc y.S _ (by omega) h1 h2 (H.out.2.s.mono nr B0.out.1 nr)).mono ?_
 rintro e w1 ⟨rfl,hb1⟩
 have B1:Hid (Below w.heap.size w w1/\Box w1 w.heap.size 37 (vPl p wa wc ya yc ba bc)/\Box w1 (w.heap.size+1) 112 (vWy y sa sc (some (ad lb lo)) lc (some (ad fb fo)) fc oa oc ma mc)):=⟨B0.out.1.trans (hb1.mono B0.out.1.size),B0.out.2.1.mono hb1 nr,B0.out.2.2.mono hb1 nr⟩
 clear hb1 B0
 obtain⟨xp0,xp1,xp2,xp3,xp4⟩:=B1.out.2.1.c5
 obtain⟨xy0,xy1,xy2,xy3,xy4⟩:=B1.out.2.2.c5
 have zp:w.heap.size<w1.heap.size:=B1.out.2.1.lt
 have zy:w.heap.size+1<w1.heap.size:=B1.out.2.2.lt
 go_wp2_with fail
 clear xp0 xy0 xp1 xy1 xp2 xy2 xp3 xy3 xp4 xy4 zp zy
 have B1a:Hid (Below w.heap.size w (w1.alloc (.cells #[.int .u64 ((secA y.S y.ns p.sec:Nat):Int),.int .u64 ((secB y.S y.ns p.sec:Nat):Int)] 192))/\Box (w1.alloc (.cells #[.int .u64 ((secA y.S y.ns p.sec:Nat):Int),.int .u64 ((secB y.S y.ns p.sec:Nat):Int)] 192)) w.heap.size 37 (vPl p wa wc ya yc ba bc)/\Box (w1.alloc (.cells #[.int .u64 ((secA y.S y.ns p.sec:Nat):Int),.int .u64 ((secB y.S y.ns p.sec:Nat):Int)] 192)) (w.heap.size+1) 112 (vWy y sa sc (some (ad lb lo)) lc (some (ad fb fo)) fc oa oc ma mc)):=⟨B1.out.1.alloc B1.out.1.size _,B1.out.2.1.alloc _,B1.out.2.2.alloc _⟩
 have M1:Hid (Box (w1.alloc (.cells #[.int .u64 ((secA y.S y.ns p.sec:Nat):Int),.int .u64 ((secB y.S y.ns p.sec:Nat):Int)] 192)) w1.heap.size 192 #[.int .u64 ((secA y.S y.ns p.sec:Nat):Int),.int .u64 ((secB y.S y.ns p.sec:Nat):Int)]):=Box.new w1 192 _
 refine(sec58 p wa ya ba wc yc bc oa y.no oc y.O _ (by omega) h1 h2 (H.out.2.o.mono nr B1a.out.1 nr)).mono ?_
 rintro e w2 ⟨rfl,hb2⟩
 generalize w1.heap.size=t5 at M1⊢
 have B2:Hid ((Below w.heap.size w w2/\Box w2 w.heap.size 37 (vPl p wa wc ya yc ba bc)/\Box w2 (w.heap.size+1) 112 (vWy y sa sc (some (ad lb lo)) lc (some (ad fb fo)) fc oa oc ma mc))/\Box w2 t5 192 #[.int .u64 ((secA y.S y.ns p.sec:Nat):Int),.int .u64 ((secB y.S y.ns p.sec:Nat):Int)]):=⟨⟨B1a.out.1.trans (hb2.mono B1a.out.1.size),B1a.out.2.1.mono hb2 nr,B1a.out.2.2.mono hb2 nr⟩,M1.out.mono hb2 nr⟩
 clear hb2 B1 B1a M1
 obtain⟨xp0,xp1,xp2,xp3,xp4⟩:=B2.out.1.2.1.c5
 obtain⟨xy0,xy1,xy2,xy3,xy4⟩:=B2.out.1.2.2.c5
 have zp:w.heap.size<w2.heap.size:=B2.out.1.2.1.lt
 have zy:w.heap.size+1<w2.heap.size:=B2.out.1.2.2.lt
 go_wp2_with fail
 clear xp0 xy0 xp1 xy1 xp2 xy2 xp3 xy3 xp4 xy4 zp zy
 have B2a:Hid ((Below w.heap.size w (w2.alloc (.cells #[.int .u64 ((secA y.O y.no p.sec:Nat):Int),.int .u64 ((secB y.O y.no p.sec:Nat):Int)] 192))/\Box (w2.alloc (.cells #[.int .u64 ((secA y.O y.no p.sec:Nat):Int),.int .u64 ((secB y.O y.no p.sec:Nat):Int)] 192)) w.heap.size 37 (vPl p wa wc ya yc ba bc)/\Box (w2.alloc (.cells #[.int .u64 ((secA y.O y.no p.sec:Nat):Int),.int .u64 ((secB y.O y.no p.sec:Nat):Int)] 192)) (w.heap.size+1) 112 (vWy y sa sc (some (ad lb lo)) lc (some (ad fb fo)) fc oa oc ma mc))/\Box (w2.alloc (.cells #[.int .u64 ((secA y.O y.no p.sec:Nat):Int),.int .u64 ((secB y.O y.no p.sec:Nat):Int)] 192)) t5 192 #[.int .u64 ((secA y.S y.ns p.sec:Nat):Int),.int .u64 ((secB y.S y.ns p.sec:Nat):Int)]):=⟨⟨B2.out.1.1.alloc B2.out.1.1.size _,B2.out.1.2.1.alloc _,B2.out.1.2.2.alloc _⟩,B2.out.2.alloc _⟩
 have M2:Hid (Box (w2.alloc (.cells #[.int .u64 ((secA y.O y.no p.sec:Nat):Int),.int .u64 ((secB y.O y.no p.sec:Nat):Int)] 192)) w2.heap.size 192 #[.int .u64 ((secA y.O y.no p.sec:Nat):Int),.int .u64 ((secB y.O y.no p.sec:Nat):Int)]):=Box.new w2 192 _
 refine(sec58 p wa ya ba wc yc bc ma y.nm mc y.M _ (by omega) h1 h2 (H.out.2.m.mono nr B2a.out.1.1 nr)).mono ?_
 rintro e w3 ⟨rfl,hb3⟩
 generalize w2.heap.size=t7 at M2⊢
 have B3:Hid ((Below w.heap.size w w3/\Box w3 w.heap.size 37 (vPl p wa wc ya yc ba bc)/\Box w3 (w.heap.size+1) 112 (vWy y sa sc (some (ad lb lo)) lc (some (ad fb fo)) fc oa oc ma mc))/\Box w3 t5 192 #[.int .u64 ((secA y.S y.ns p.sec:Nat):Int),.int .u64 ((secB y.S y.ns p.sec:Nat):Int)]/\Box w3 t7 192 #[.int .u64 ((secA y.O y.no p.sec:Nat):Int),.int .u64 ((secB y.O y.no p.sec:Nat):Int)]):=⟨⟨B2a.out.1.1.trans (hb3.mono B2a.out.1.1.size),B2a.out.1.2.1.mono hb3 nr,B2a.out.1.2.2.mono hb3 nr⟩,B2a.out.2.mono hb3 nr,M2.out.mono hb3 nr⟩
 clear hb3 B2 B2a M2
 have BA:Hid (Below w.heap.size w (w3.alloc (.cells #[.int .u64 ((secA y.M y.nm p.sec:Nat):Int),.int .u64 ((secB y.M y.nm p.sec:Nat):Int)] 192))):=B3.out.1.1.alloc B3.out.1.1.size _
 obtain⟨xp0,xp1,xp2,xp3,xp4⟩:=B3.out.1.2.1.c5
 obtain⟨xy0,xy1,xy2,xy3,xy4⟩:=B3.out.1.2.2.c5
 have zp:w.heap.size<w3.heap.size:=B3.out.1.2.1.lt
 have zy:w.heap.size+1<w3.heap.size:=B3.out.1.2.2.lt
 obtain⟨a0,a1⟩:=B3.out.2.1.c2
 obtain⟨b0,b1⟩:=B3.out.2.2.c2
 have z5:t5<w3.heap.size:=B3.out.2.1.lt
 have z7:t7<w3.heap.size:=B3.out.2.2.lt
 by_cases hz:y.ns=0
 ·
  have hzb:((y.ns:Int)==0)=true:=by simpa using hz
  go_wp2_with fail
  go_ret
  exact⟨by simp[wayI,hz],BA.out⟩
 have hzb:((y.ns:Int)==0)=false:=by simpa using hz
 cases f1:listF y.S y.ns p.sec with
 |false=>
  go_wp2_with fail
  go_ret
  exact⟨by simp[wayI,f1],BA.out⟩
 |true=>
 cases f2:listF y.O y.no p.sec with
 |false=>
  go_wp2_with fail
  go_ret
  exact⟨by simp[wayI,f2],BA.out⟩
 |true=>
 cases f3:listF y.M y.nm p.sec with
 |false=>
  go_wp2_with fail
  go_ret
  exact⟨by simp[wayI,f3],BA.out⟩
 |true=>
 have heq:=eq97 ((secA y.S y.ns p.sec&&& secA y.O y.no p.sec:Nat):Int) ((secB y.S y.ns p.sec&&& secB y.O y.no p.sec:Nat):Int) 0 0
 go_wp2_with fail
 refine(and59 (secA y.S y.ns p.sec) (secB y.S y.ns p.sec) (secA y.O y.no p.sec) (secB y.O y.no p.sec) _ (secA_lt _ _ _) (secB_lt _ _ _) (secA_lt _ _ _) (secB_lt _ _ _)).mono ?_
 rintro e w4 ⟨rfl,hb4⟩
 have BB:=bel1 w3 (.cells #[.int .u64 ((secA y.M y.nm p.sec:Nat):Int),.int .u64 ((secB y.M y.nm p.sec:Nat):Int)] 192)
 have hb4':Below w3.heap.size w3 w4:=BB.trans (hb4.mono BB.size)
 have B4:Hid ((Below w.heap.size w w4/\Box w4 w.heap.size 37 (vPl p wa wc ya yc ba bc)/\Box w4 (w.heap.size+1) 112 (vWy y sa sc (some (ad lb lo)) lc (some (ad fb fo)) fc oa oc ma mc))/\Box w4 t5 192 #[.int .u64 ((secA y.S y.ns p.sec:Nat):Int),.int .u64 ((secB y.S y.ns p.sec:Nat):Int)]):=⟨⟨B3.out.1.1.trans (hb4'.mono B3.out.1.1.size),B3.out.1.2.1.mono hb4' nr,B3.out.1.2.2.mono hb4' nr⟩,B3.out.2.1.mono hb4' nr⟩
 clear xp0 xy0 xp1 xy1 xp2 xy2 xp3 xy3 xp4 xy4 zp zy
 clear a0 a1 b0 b1 z5 z7 hb4 hb4' BB B3 BA
 cases f4:((((secA y.S y.ns p.sec&&& secA y.O y.no p.sec:Nat):Int)==0)&&(((secB y.S y.ns p.sec&&& secB y.O y.no p.sec:Nat):Int)==0)) with
 |false=>
  rw[f4] at heq
  have hoff:offF p y=false:=f4
  go_wp2_with fail
  go_ret
  exact⟨by simp[wayI,hoff],B4.out.1.1⟩
 |true=>
 rw[f4] at heq
 have hoff:offF p y=true:=f4
 obtain⟨xp0,xp1,xp2,xp3,xp4⟩:=B4.out.1.2.1.c5
 obtain⟨xy0,xy1,xy2,xy3,xy4⟩:=B4.out.1.2.2.c5
 have zp:w.heap.size<w4.heap.size:=B4.out.1.2.1.lt
 have zy:w.heap.size+1<w4.heap.size:=B4.out.1.2.2.lt
 go_wp2_with fail
 clear xp0 xy0 xp1 xy1 xp2 xy2 xp3 xy3 xp4 xy4 zp zy
 clear heq
 refine(turns60 p wa ya ba wc yc bc y sa oa ma lb lo fb fo sc lc fc oc mc _ hw HSM.out (H.out.2.l.mono nr B4.out.1.1 nr) (H.out.2.f.mono nr B4.out.1.1 nr)).mono ?_
 rintro e w5 ⟨he,hb5⟩
 have B5:Hid ((Below w.heap.size w w5/\Box w5 w.heap.size 37 (vPl p wa wc ya yc ba bc)/\Box w5 (w.heap.size+1) 112 (vWy y sa sc (some (ad lb lo)) lc (some (ad fb fo)) fc oa oc ma mc))/\Box w5 t5 192 #[.int .u64 ((secA y.S y.ns p.sec:Nat):Int),.int .u64 ((secB y.S y.ns p.sec:Nat):Int)]):=⟨⟨B4.out.1.1.trans (hb5.mono B4.out.1.1.size),B4.out.1.2.1.mono hb5 nr,B4.out.1.2.2.mono hb5 nr⟩,B4.out.2.mono hb5 nr⟩
 clear hb5 B4
 cases f5:turnsF p y with
 |false=>
  rw[f5] at he
  subst he
  go_wp2_with fail
  go_ret
  exact⟨by simp[wayI,f5],B5.out.1.1⟩
 |true=>
 rw[f5] at he
 subst he
 have HT:Hid (∀q,q<y.nl->∃o:Nat,y.L q 0=(o:Int)/\o<p.nw):=fun q hq=>by
  have g:=f5
  simp only[turnsF,Bool.and_eq_true] at g
  have g:=allB_iff.1 g.2 q (by omega)
  simp only[tuF,inB,Bool.and_eq_true,decide_eq_true_eq,cat,if_pos hq] at g
  exact⟨(y.L q 0).toNat,by omega,by omega⟩
 have xy1:=B5.out.1.2.2.cel 1
 have HF1:Hid (listF y.S y.ns p.sec=true/\listF y.O y.no p.sec=true/\listF y.M y.nm p.sec=true/\offF p y=true/\turnsF p y=true):=⟨f1,f2,f3,hoff,f5⟩
 go_wp2_with fail
 clear xy1 f1 f2 f3 hoff f5 f4
 go_loopw [66] (fun i wr=>∃q:Nat,q<=y.nl/\i=.int .i64 q/\Hid (∀i,i<q->inF p y i=true)/\Hid ((Below w.heap.size w wr/\Box wr w.heap.size 37 (vPl p wa wc ya yc ba bc)/\Box wr (w.heap.size+1) 112 (vWy y sa sc (some (ad lb lo)) lc (some (ad fb fo)) fc oa oc ma mc))/\Box wr t5 192 #[.int .u64 ((secA y.S y.ns p.sec:Nat):Int),.int .u64 ((secB y.S y.ns p.sec:Nat):Int)])) (fun i _=>y.nl-(intOf i).toNat)
 case atStart=>exact⟨0,Nat.zero_le _,rfl,fun i hi=>absurd hi (Nat.not_lt_zero _),B5⟩
 case round=>
  obtain⟨q,hq,rfl,HQ,HB⟩:=hrel
  by_cases hlt:q<y.nl
  ·
   obtain⟨o,ho,hon⟩:=HT.out q hlt
   obtain⟨b2,off2,hbe,_,_,hc⟩:=(H.out.2.l.mono nr HB.out.1.1 nr) (by omega)
   simp only[Option.some.injEq,Addr.mk.injEq,and_true] at hbe
   obtain⟨rfl,rfl⟩:=hbe
   have c0:wr.cell? (ad lb (lo+q*2))=some (.int .i64 (o:Int)):=by rw[<-ho];exact hc q hlt 0 (by omega)
   have c1:wr.cell? (ad lb (lo+q*2+1))=some (.int .i64 (y.L q 1)):=hc q hlt 1 (by omega)
   obtain⟨bw,offw,hwa,_,_,hcw⟩:=(H.out.1.mono nr HB.out.1.1 nr) (by omega)
   have c4:wr.cell? (ad bw (offw+o))=some (.int .i64 (p.W o)):=by have :=hcw o hon 0 (by omega);rwa [Nat.mul_one] at this
   have zb:bw<wr.heap.size:=World.block_lt_of_cell? wr _ c4
   clear hc hcw
   subst hwa
   have x1:=HB.out.1.2.1.cel 1
   obtain⟨a0,a1⟩:=HB.out.2.c2
   have zp:w.heap.size<wr.heap.size:=HB.out.1.2.1.lt
   have z5:t5<wr.heap.size:=HB.out.2.lt
   have hq0:(0:Int)<=(q:Int):=by omega
   have hqn:(q:Int)<(y.nl:Int):=by omega
   have ho0:(0:Int)<=(o:Int):=by omega
   have hon':(o:Int)<(p.nw:Int):=by omega
   have hto:(y.L q 0).toNat=o:=by omega
   go_wp2_with fail
   go_region_with(go_at_call 129;refine(has61 (secA y.S y.ns p.sec) (secB y.S y.ns p.sec) (p.W o) _ (secA_lt _ _ _) (secB_lt _ _ _)).mono ?_;rintro e w6 ⟨he,hb6⟩;subst he)
   all_goals
    have BB:Below wr.heap.size wr (wr.alloc (.cells #[.int .i64 (o:Int),.int .i64 (y.L q 1)] 146)).drew:=(bel1 _ _).drew
    have hb6':Below wr.heap.size wr w6:=BB.trans (hb6.mono BB.size)
    have B6:Hid ((Below w.heap.size w w6/\Box w6 w.heap.size 37 (vPl p (some (ad bw offw)) wc ya yc ba bc)/\Box w6 (w.heap.size+1) 112 (vWy y sa sc (some (ad lb lo)) lc (some (ad fb fo)) fc oa oc ma mc))/\Box w6 t5 192 #[.int .u64 ((secA y.S y.ns p.sec:Nat):Int),.int .u64 ((secB y.S y.ns p.sec:Nat):Int)]):=⟨⟨HB.out.1.1.trans (hb6'.mono HB.out.1.1.size),HB.out.1.2.1.mono hb6' nr,HB.out.1.2.2.mono hb6' nr⟩,HB.out.2.mono hb6' nr⟩
    clear c0 c1 c4 x1 a0 a1 zp z5 hb6 hb6' BB HB
    cases f6:mt (secA y.S y.ns p.sec) (secB y.S y.ns p.sec) (p.W o) with
    |false=>
     go_wp2_with fail
     go_ret
     refine⟨?_,B6.out.1.1⟩
     have :inF p y q=false:=by rw[inF,hto,f6]
     simp[wayI,allB_no hlt this]
    |true=>
     have HQ2:Hid (∀i,i<q+1->inF p y i=true):=fun i hi=>by
      by_cases e:i=q
      ·
       subst e
       rw[inF,hto,f6]
      ·
       exact HQ.out i (by omega)
     go_wp2_with fail
     go_roundw
     case rel=>exact⟨q+1,by omega,by go_num,HQ2,B6⟩
     case measure=>simp[intOf];omega
  ·
   obtain rfl:q=y.nl:=by omega
   go_wp2_with fail
   go_ret
   obtain⟨g1,g2,g3,g4,g5⟩:=HF1.out
   have hz1:0<y.ns:=by omega
   exact⟨by simp[wayI,g1,g2,g3,g4,g5,allB_iff.2 HQ.out,hz1],HB.out.1.1⟩
end Go.Proofs.YtkeilejbelblcaaGreatDoor
