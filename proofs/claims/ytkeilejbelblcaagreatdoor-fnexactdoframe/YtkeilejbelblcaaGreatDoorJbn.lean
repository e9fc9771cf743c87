import Derived.Test.YtkeilejbelblcaaGreatDoorR4
import Derived.Test.YtkeilejbelblcaaGreatDoorK17
import Derived.Test.YtkeilejbelblcaaGreatDoorJap
import Derived.Test.YtkeilejbelblcaaGreatDoorJbd
import Derived.Test.YtkeilejbelblcaaGreatDoorU0
import Derived.Test.YtkeilejbelblcaaGreatDoorU1
import Derived.Test.YtkeilejbelblcaaGreatDoorS7
import Derived.Test.YtkeilejbelblcaaGreatDoorJbg
import Derived.Test.YtkeilejbelblcaaGreatDoorJar
import Derived.Test.YtkeilejbelblcaaGreatDoorJaz
namespace Go.Proofs.YtkeilejbelblcaaGreatDoor
open Go.RowKit Go.Lib
theorem inB_nat {k:Int}{n:Nat}(h:inB k 0 ((n:Int)-1)=true):∃i:Nat,k=(i:Int)/\i<n:=by
 simp only[inB,Bool.and_eq_true,decide_eq_true_eq] at h
 exact⟨k.toNat,by omega,by omega⟩
theorem sel_congr {q r:Nat->Bool}:∀ {n:Nat},(∀i,i<n->q i=r i)->selN q n=selN r n/\selD q n=selD r n
 |0,_=>⟨rfl,rfl⟩
 |n+1,h=>by
  obtain⟨h1,h2⟩:=sel_congr (n:=n) fun i hi=>h i (by omega)
  have h3:=h n (by omega)
  simp only[selN,selD,h3,h1,h2]
  exact⟨trivial,trivial⟩
theorem lieN_none {C:Nat->Nat->Int}{k:Nat}:∀ {n:Nat},(∀j,j<n->C j 0≠(k:Int))->lieN C k n=0
 |0,_=>rfl
 |n+1,h=>by
  rw[lieN,if_neg (h n (by omega))]
  exact lieN_none fun j hj=>h j (by omega)
theorem lieN_one {C:Nat->Nat->Int}{k:Nat}:∀ {n j:Nat},j<n->C j 0=(k:Int)->(∀i,i<n->C i 0=(k:Int)->i=j)->lieN C k n=C j 1
 |0,_,hj,_,_=>absurd hj (Nat.not_lt_zero _)
 |n+1,j,hj,hc,hu=>by
  by_cases e:C n 0=(k:Int)
  ·
   obtain rfl:=hu n (by omega) e
   rw[lieN,if_pos e]
  ·
   have hjn:j≠n:=fun q=>e (by rw[<-q];exact hc)
   rw[lieN,if_neg e]
   exact lieN_one (by omega) hc fun i hi=>hu i (by omega)
theorem cat_one {p:Pl}{y:Wy}(h:wayF p y=true) {i j:Nat}(hi:i<y.nl+y.nf) (hj:j<y.nl+y.nf) (e:cat y.nl y.L y.F i 0=cat y.nl y.L y.F j 0):i=j:=by
 obtain⟨_,_,hL,hF,hLF,_⟩:=way_parts h
 have hlo:∀j,j<y.nl->cat y.nl y.L y.F j 0=y.L j 0:=fun j hj=>by simp[cat,hj]
 have hhi:∀j,¬j<y.nl->cat y.nl y.L y.F j 0=y.F (j-y.nl) 0:=fun j hj=>by simp[cat,hj]
 by_cases ci:i<y.nl
 ·
  by_cases cj:j<y.nl
  ·
   rw[hlo i ci,hlo j cj] at e
   exact lies_one hL ci cj e
  ·
   rw[hlo i ci,hhi j cj] at e
   exact absurd e (hLF _ _ ci (by omega))
 ·
  by_cases cj:j<y.nl
  ·
   rw[hhi i ci,hlo j cj] at e
   exact absurd e.symm (hLF _ _ cj (by omega))
  ·
   rw[hhi i ci,hhi j cj] at e
   have :=lies_one hF (by omega) (by omega) e
   omega
theorem cat_pos {p:Pl}{y:Wy}(h:wayF p y=true) {j:Nat}(hj:j<y.nl+y.nf):0<cat y.nl y.L y.F j 1:=by
 obtain⟨h1,h2⟩:=way_lie h
 by_cases c:j<y.nl
 ·
  simpa [cat,c] using h1 j c
 ·
  simpa [cat,c] using h2 (j-y.nl) (by omega)
theorem wn_same {p:Pl}{f:Fm}(h:frameB p f=true) (k:Nat):decide (0<selN (fun i=>wantsS p (stS p f) i k) p.ny)=wnF p f k:=by
 rw[wnF,(sel_congr fun i hi=>wants_same h hi k).1]
theorem ag_same {p:Pl}{f:Fm}(h:frameB p f=true) (x:Nat) {k:Nat}(hk:k<p.ny):agS p (stS p f) x k=agB p f x k:=by
 rw[agS,agB,held_st (frame_st h hk).2]
theorem sw_same {p:Pl}{f:Fm}(h:frameB p f=true) {x:Nat}(hx:x<p.ny) (k:Nat):swQ p f.O f.P (stS p f) x k=swB p f x k:=by
 have hw:=(frame_in h).1.way x hx
 have hfx:fxB p f.O (stS p f) k=(wnF p f k||f.O (p.W k).toNat):=by rw[fxB,wn_same h]
 rw[swQ,swB,hfx]
 by_cases c:∃j,j<(p.Y x).nl+(p.Y x).nf/\cat (p.Y x).nl (p.Y x).L (p.Y x).F j 0=(k:Int)
 ·
  obtain⟨j,hj,hc⟩:=c
  have hl:=lieN_one hj hc fun i hi e=>cat_one hw hi hj (e.trans hc.symm)
  have hp:=cat_pos hw hj
  rw[hl]
  have h0:decide (cat (p.Y x).nl (p.Y x).L (p.Y x).F j 1≠0)=true:=by simp;omega
  rw[h0,Bool.true_and]
  congr 1
  by_cases e:f.P k 0=cat (p.Y x).nl (p.Y x).L (p.Y x).F j 1
  ·
   rw[anyB_no fun i hi=>?_]
   ·
    simp[e]
   ·
    by_cases ci:cat (p.Y x).nl (p.Y x).L (p.Y x).F i 0=(k:Int)
    ·
     obtain rfl:=cat_one hw hi hj (ci.trans hc.symm)
     simp[e]
    ·
     simp[ci]
  ·
   rw[anyB_yes hj (by simp[hc,e])]
   simp[Ne.symm e]
 ·
  have hl:lieN (cat (p.Y x).nl (p.Y x).L (p.Y x).F) k ((p.Y x).nl+(p.Y x).nf)=0:=lieN_none fun j hj e=>c ⟨j,hj,e⟩
  rw[hl,anyB_no fun i hi=>by
   have :cat (p.Y x).nl (p.Y x).L (p.Y x).F i 0≠(k:Int):=fun e=>c ⟨i,hi,e⟩
   simp[this]]
  simp
theorem frame_sw {p:Pl}{f:Fm}(h:frameB p f=true):∀k,k<p.nw->∃o:Nat,p.W k=(o:Int)/\o<f.no:=fun k hk=>by
 have hz:sizesB p f=true:=by
  simp only[frameB,Bool.and_eq_true] at h
  exact h.1
 obtain⟨_,h0,_,h1,_⟩:=sizes_ok hz
 have h2:=plan_sw h0 k hk
 simp only[inB,Bool.and_eq_true,decide_eq_true_eq] at h2
 exact⟨(p.W k).toNat,by omega,by omega⟩
set_option maxHeartbeats 400000 in
theorem place63 (a:Option Addr) (n cap:Nat) (x:Int) (w:World) (hn:n<=1048576):
  Calls Tryz.prog 67 #[.slice a n cap,.int .i64 x] w fun e w'=>e=.returned (.bool (inB x 0 ((n:Int)-1)))/\w'=w:=by
 go_enter Tryz.func67,Tryz.ntmps67
 go_wp2_with fail
 refine(within30 x 0 ((n:Int)-1) _).mono ?_
 rintro e w1 ⟨rfl,hw⟩
 have hw:=hw.symm
 subst hw
 go_wp2_with fail
 go_ret
 exact⟨rfl,rfl⟩
set_option maxRecDepth 100000 in
set_option maxHeartbeats 8000000 in
theorem whyNot60 (p:Pl) (wb yb bb:Nat) (lo rr:Nat->Nat) (ob oo no oc pb po np pc:Nat) (ia:Option Addr) (ic:Nat) (O:Nat->Bool) (P:Nat->Nat->Int) (S:Nat->WS) (N:Nat->Nat) (x:Int) (A:Nat->Addr) (w:World) (hs:p.small) (hok:p.Ok) (hP:PlOwn 0 w p wb yb bb lo rr) (h:WlAt w ia p.ny N S) (hO:VsAt 1 0 w (some (ad ob oo)) no (boolF O)) (hPt:VsAt 2 0 w (some (ad pb po)) np (intF P)) (hin:∀i,i<p.ny->(p.Y i).In no np) (hno:no<=1048576) (hnp:np<=1048576) (hnpw:np=p.nw) (hsecn:(no:Int)=p.sec) (hsw:∀k,k<p.nw->∃o:Nat,p.W k=(o:Int)/\o<no) (hS:Sn w 6 A):
  Calls Tryz.prog 132 #[.agg #[.int .i64 p.sec,.slice (some (ad wb 0)) p.nw p.nw,.slice (some (ad yb 0)) p.ny p.ny,.slice (some (ad bb 0)) p.nb p.nb,.int .i64 p.hold,.slice (some (ad ob oo)) no oc,.slice (some (ad pb po)) np pc,.slice ia p.ny ic],.int .i64 x] w fun e w'=>e=.returned (erV A (if inB x 0 ((p.ny:Int)-1)=true then whyO p O P S x.toNat else some 0))/\Below w.heap.size w w':=by
 have H:Hid (p.small/\p.Ok/\PlOwn 0 w p wb yb bb lo rr/\WlAt w ia p.ny N S/\VsAt 1 0 w (some (ad ob oo)) no (boolF O)/\VsAt 2 0 w (some (ad pb po)) np (intF P)/\(∀i,i<p.ny->(p.Y i).In no np)/\Sn w 6 A):=⟨hs,hok,hP,h,hO,hPt,hin,hS⟩
 have HQ:Hid (np=p.nw/\(no:Int)=p.sec/\∀k,k<p.nw->∃o:Nat,p.W k=(o:Int)/\o<no):=⟨hnpw,hsecn,hsw⟩
 have hny:=hs.2.1
 clear hs hok hP h hO hPt hin hnpw hsecn hsw hS
 have S0:Hid (Below w.heap.size w (w.alloc (.cells (vDk p wb yb bb (some (ad ob oo)) no oc (some (ad pb po)) np pc ia ic) 84))/\Box (w.alloc (.cells (vDk p wb yb bb (some (ad ob oo)) no oc (some (ad pb po)) np pc ia ic) 84)) w.heap.size 84 (vDk p wb yb bb (some (ad ob oo)) no oc (some (ad pb po)) np pc ia ic)):=⟨bel1 _ _,Box.new _ _ _⟩
 have a2:=S0.out.2.cel 2
 obtain⟨R,HR0⟩:∃R,Hid (erV A (if inB x 0 ((p.ny:Int)-1)=true then whyO p O P S x.toNat else some 0)=R):=⟨_,rfl⟩
 rw[HR0.out]
 go_enter Tryz.func132,Tryz.ntmps132
 go_wp2_with fail
 clear a2
 generalize (w.alloc (.cells (vDk p wb yb bb (some (ad ob oo)) no oc (some (ad pb po)) np pc ia ic) 84))=V0 at S0⊢
 refine(place63 _ p.ny p.ny x V0 hny).mono ?_
 rintro e w1 ⟨he,hw⟩
 have hw:=hw.symm
 subst hw
 obtain⟨q,HI⟩:∃q,Hid (inB x 0 ((p.ny:Int)-1)=q):=⟨_,rfl⟩
 rw[HI.out] at he
 subst he
 cases q with
 |false=>
  have z0:V0.cell? (ad 0 0)=some (.iface 251 (.pointer (some (A 0)))):=(H.out.2.2.2.2.2.2.2.mono S0.out.1 nr).1 0 (by omega)
  have HT:Hid (R=.iface 251 (.pointer (some (A 0)))):=HR0.out.symm.trans (by rw[HI.out];rfl)
  go_wp2_with fail
  go_ret
  exact⟨by rw[HT.out];rfl,S0.out.1⟩
 |true=>
  obtain⟨i,rfl,hlt⟩:=inB_nat HI.out
  have HR:Hid (erV A (whyO p O P S i)=R):=Eq.trans (by rw[HI.out,if_pos rfl,Int.toNat_natCast]) HR0.out
  clear HR0
  obtain⟨d0,d1,d2,d3,d4,d5,d6,d7⟩:=S0.out.2.c8
  go_wp2_with fail
  clear d0 d1 d2 d3 d4 d5 d6 d7
  have HSr:=H.out.2.2.2.2.2.2.2.mono S0.out.1 nr
  refine(stays64 p wb yb bb lo rr ob oo no oc pb po np pc ia ic O P S N i 251 251 (.pointer (some (A 4))) (.pointer (some (A 5))) V0 hlt H.out.1 H.out.2.1 (H.out.2.2.1.mono nr S0.out.1 nr) (H.out.2.2.2.1.mono S0.out.1 nr) (H.out.2.2.2.2.1.mono nr S0.out.1 nr) (H.out.2.2.2.2.2.1.mono nr S0.out.1 nr) (H.out.2.2.2.2.2.2.1 i hlt) hno hnp HQ.out.1 HQ.out.2.1 HQ.out.2.2 (HSr.1 4 (by omega)) (HSr.1 5 (by omega)) (by have :=HSr.2.2.2;omega) (by have :=HSr.2.2.2;omega)).mono ?_
  clear HSr
  rintro e w2 ⟨a1,c1,a2,c2,a3,c3,he,ho1,ho2,ho3,_,_,hb⟩
  obtain⟨n1,HN1⟩:∃n,Hid (selN (fun k=>agS p S i k) p.ny=n):=⟨_,rfl⟩
  obtain⟨n2,HN2⟩:∃n,Hid (selN (scQ p O i) p.sec.toNat=n):=⟨_,rfl⟩
  obtain⟨n3,HN3⟩:∃n,Hid (selN (swQ p O P S i) p.nw=n):=⟨_,rfl⟩
  rw[HN1.out,HN2.out,HN3.out] at he
  rw[HN3.out] at ho3
  subst he
  have HL3:Hid (VOwn V0.heap.size 3 1 (w2.alloc (.cells #[.slice a1 n1 c1,.slice a2 n2 c2,.slice a3 n3 c3] 141)) (.slice a3 n3 c3) n3 (oneF (selD (swQ p O P S i) p.nw))):=ho3.alloc _
  have T:Hid (Below w.heap.size w (w2.alloc (.cells #[.slice a1 n1 c1,.slice a2 n2 c2,.slice a3 n3 c3] 141))/\Box (w2.alloc (.cells #[.slice a1 n1 c1,.slice a2 n2 c2,.slice a3 n3 c3] 141)) w.heap.size 84 (vDk p wb yb bb (some (ad ob oo)) no oc (some (ad pb po)) np pc ia ic)/\Box (w2.alloc (.cells #[.slice a1 n1 c1,.slice a2 n2 c2,.slice a3 n3 c3] 141)) w2.heap.size 141 #[.slice a1 n1 c1,.slice a2 n2 c2,.slice a3 n3 c3]):=⟨(S0.out.1.trans (hb.mono S0.out.1.size)).alloc (Nat.le_trans S0.out.1.size hb.size) _,(S0.out.2.mono hb nr).alloc _,Box.new _ _ _⟩
  clear ho1 ho2 ho3 hb S0
  obtain⟨d0,d1,d2,d3,d4,d5,d6,d7⟩:=T.out.2.1.c8
  go_wp2_with fail
  clear d0 d1 d2 d3 d4 d5 d6 d7
  generalize (w2.alloc (.cells #[.slice a1 n1 c1,.slice a2 n2 c2,.slice a3 n3 c3] 141))=V3 at T HL3⊢
  generalize w2.heap.size=sq at T⊢
  refine(isHeld114 p wb yb bb (some (ad ob oo)) no oc (some (ad pb po)) np pc ia ic S N i V3 hlt hny (H.out.2.2.2.1.mono T.out.1 nr)).mono ?_
  rintro e w4 ⟨he,hb4⟩
  have U:Hid ((Below w.heap.size w w4/\Box w4 w.heap.size 84 (vDk p wb yb bb (some (ad ob oo)) no oc (some (ad pb po)) np pc ia ic)/\Box w4 sq 141 #[.slice a1 n1 c1,.slice a2 n2 c2,.slice a3 n3 c3])/\VOwn V0.heap.size 3 1 w4 (.slice a3 n3 c3) n3 (oneF (selD (swQ p O P S i) p.nw))):=⟨⟨T.out.1.trans (hb4.mono T.out.1.size),T.out.2.1.mono hb4 nr,T.out.2.2.mono hb4 nr⟩,HL3.out.mono nr hb4 nr⟩
  clear hb4 T HL3
  have HSr:Hid (Sn w4 6 A):=H.out.2.2.2.2.2.2.2.mono U.out.1.1 nr
  obtain⟨u,HU⟩:∃u,Hid (heldS (S i)=u):=⟨_,rfl⟩
  rw[HU.out] at he
  subst he
  cases u with
  |true=>
   have HT:Hid (R=.iface 251 (.pointer (some (A 1)))):=HR.out.symm.trans (by rw[whyO,if_pos HU.out];rfl)
   have z1:w4.cell? (ad 1 0)=some (.iface 251 (.pointer (some (A 1)))):=HSr.out.1 1 (by omega)
   go_wp2_with fail
   go_ret
   exact⟨by rw[HT.out];rfl,U.out.1.1⟩
  |false=>
   obtain⟨y0,y1,y2⟩:=U.out.1.2.2.c3
   have HNH:Hid (¬(heldS (S i)=true)):=by rw[Hid,HU.out];decide
   by_cases k1:0<n1
   ·
    have HT:Hid (R=.iface 251 (.pointer (some (A 2)))):=HR.out.symm.trans (by rw[whyO,if_neg HNH.out,HN1.out,if_pos k1];rfl)
    have z1:w4.cell? (ad 2 0)=some (.iface 251 (.pointer (some (A 2)))):=HSr.out.1 2 (by omega)
    have hk1:(0:Int)<(n1:Int):=by omega
    go_wp2_with fail
    go_ret
    exact⟨by rw[HT.out];rfl,U.out.1.1⟩
   have hk1:¬((0:Int)<(n1:Int)):=by omega
   by_cases k2:0<n2
   ·
    have HT:Hid (R=.iface 251 (.pointer (some (A 3)))):=HR.out.symm.trans (by rw[whyO,if_neg HNH.out,HN1.out,if_neg k1,HN2.out,if_pos k2];rfl)
    have z1:w4.cell? (ad 3 0)=some (.iface 251 (.pointer (some (A 3)))):=HSr.out.1 3 (by omega)
    have hk2:(0:Int)<(n2:Int):=by omega
    go_wp2_with fail
    go_ret
    exact⟨by rw[HT.out];rfl,U.out.1.1⟩
   have hk2:¬((0:Int)<(n2:Int)):=by omega
   have HT:Hid (erV A (fxO (swQ p O P S i) (wnS p S) p.nw)=R):=Eq.trans (by rw[whyO,if_neg HNH.out,HN1.out,if_neg k1,HN2.out,if_neg k2]) HR.out
   obtain⟨d0,d1,d2,d3,d4,d5,d6,d7⟩:=U.out.1.2.1.c8
   go_wp2_with fail
   clear d0 d1 d2 d3 d4 d5 d6 d7 y0 y1 y2
   have HWF:=whyFixed92 p wb yb bb lo rr ob oo no oc pb po np pc ia ic O S N (swQ p O P S i) a3 c3 A w4 (fun k hk hq=>by rw[swQ,Bool.and_eq_true] at hq;exact hq.2) (by rw[HN3.out];exact U.out.2.vs.le (Nat.zero_le _)) H.out.1 (H.out.2.2.1.mono nr U.out.1.1 nr) (H.out.2.2.2.1.mono U.out.1.1 nr) (H.out.2.2.2.2.1.mono nr U.out.1.1 nr) hno HQ.out.2.2 HSr.out
   rw[HN3.out,HT.out] at HWF
   refine HWF.mono ?_
   clear HWF
   rintro e w5 ⟨rfl,hb5⟩
   have HE:Hid (Below w.heap.size w w5):=U.out.1.1.trans (hb5.mono U.out.1.1.size)
   clear hb5
   go_wp2_with fail
   go_ret
   exact⟨rfl,HE.out⟩
def tnP (L:Nat->Nat->Int) (P:Nat->Nat->Int):Nat->Nat->Nat->Int
 |0=>P
 |k+1=>ptU (tnP L P k) (L k 0).toNat (L k 1) (tnP L P k (L k 0).toNat 1)
def ndL (y:Wy):Nat->Nat->Int:=cat y.nl y.L y.F
def asP (p:Pl) (P:Nat->Nat->Int) (x:Nat):Option Nat->Nat->Nat->Int
 |none=>tnP (ndL (p.Y x)) P ((p.Y x).nl+(p.Y x).nf)
 |some _=>P
def asS (S:Nat->WS) (x:Nat):Option Nat->Nat->WS
 |none=>updN S x (.set false)
 |some _=>S
theorem nd_in {y:Wy}{no np:Nat}(h:y.In no np):∀k,k<y.nl+y.nf->∃o:Nat,ndL y k 0=(o:Int)/\o<np:=fun k hk=>by
 by_cases c:k<y.nl
 ·
  obtain⟨o,h1,h2⟩:=h.l k c
  exact⟨o,by simp[ndL,cat,c,h1],h2⟩
 ·
  obtain⟨o,h1,h2⟩:=h.f (k-y.nl) (by omega)
  exact⟨o,by simp[ndL,cat,c,h1],h2⟩
set_option maxRecDepth 100000 in
set_option maxHeartbeats 16000000 in
theorem ask114 (p:Pl) (wb yb bb no np:Nat) (O:Nat->Bool) (P:Nat->Nat->Int) (S:Nat->WS) (lo rr:Nat->Nat) (x:Nat) (A:Nat->Addr) (ob oc pb pc:Nat) (ia:Option Addr) (ic:Nat) (w:World) (hx:x<p.ny) (hps:p.small) (hok:p.Ok) (hP:PlOwn 0 w p wb yb bb lo rr) (hin:∀i,i<p.ny->(p.Y i).In no np) (hno:no<=1048576) (hnp:np<=1048576) (hnpw:np=p.nw) (hsecn:(no:Int)=p.sec) (hsw:∀k,k<p.nw->∃o:Nat,p.W k=(o:Int)/\o<no) (hS:Sn w 6 A) (hD:DeskQ w p no np O P S ob oc pb pc ia ic):
  Calls Tryz.prog 114 #[.agg #[.int .i64 p.sec,.slice (some (ad wb 0)) p.nw p.nw,.slice (some (ad yb 0)) p.ny p.ny,.slice (some (ad bb 0)) p.nb p.nb,.int .i64 p.hold,.slice (some (ad ob 0)) no oc,.slice (some (ad pb 0)) np pc,.slice ia p.ny ic],.int .i64 (x:Int)] w fun e w'=>DR2 p wb yb bb no np O (asP p P x (whyO p O P S x)) (asS S x (whyO p O P S x)) A (whyO p O P S x) w e w':=by
 obtain⟨⟨M1,hO⟩,⟨M2,hPt⟩,M,v,hW⟩:=hD
 obtain⟨oe,HWO⟩:∃o,Hid (whyO p O P S x=o):=⟨_,rfl⟩
 rw[HWO.out]
 have H:Hid (VOwn M1 4 1 w (.slice (some (ad ob 0)) no oc) no (boolF O)/\VOwn M2 69 2 w (.slice (some (ad pb 0)) np pc) np (intF P)/\WlOwn M w ia p.ny ic (fun i=>(p.Y i).ns) S v):=⟨hO,hPt,hW⟩
 have HSn:Hid (Sn w 6 A):=hS
 have HP:Hid (PlOwn 0 w p wb yb bb lo rr):=hP
 have HG:Hid (p.small/\p.Ok/\(∀i,i<p.ny->(p.Y i).In no np)/\np=p.nw/\(no:Int)=p.sec/\∀k,k<p.nw->∃o:Nat,p.W k=(o:Int)/\o<no):=⟨hps,hok,hin,hnpw,hsecn,hsw⟩
 have HNI:Hid (∀k,k<((p.Y x).nl+(p.Y x).nf)->∃o:Nat,ndL (p.Y x) k 0=(o:Int)/\o<np):=nd_in (hin x hx)
 have hny:=hps.2.1
 have hnl:(p.Y x).nl<=1048576:=by have :=(hps.2.2.1 x hx).2.1;omega
 have hnf:(p.Y x).nf<=1048576:=by have :=(hps.2.2.1 x hx).2.2.1;omega
 have HX:Hid (inB (x:Int) 0 ((p.ny:Int)-1)=true):=by show inB _ _ _=true;unfold inB;simp;omega
 obtain⟨V0,hV,S0⟩:=st2 w 84 (vDk p wb yb bb (some (ad ob 0)) no oc (some (ad pb 0)) np pc ia ic) 84 z8v
 clear hO hPt hW hS hps hok hin hnpw hsecn hsw hP
 go_enter Tryz.func114,Tryz.ntmps114
 go_upto_region 1 with fail
 clear hV
 obtain⟨m0,m1,m2,m3,m4,m5,m6,m7⟩:=(gB S0.out.2.1).c8
 go_wp2_with fail
 clear m0 m1 m2 m3 m4 m5 m6 m7
 refine(whyNot60 p wb yb bb lo rr ob 0 no oc pb 0 np pc ia ic O P S (fun i=>(p.Y i).ns) (x:Int) A V0 HG.out.1 HG.out.2.1 (HP.out.mono nr (gL S0.out.2.2.1) nr) (H.out.2.2.mono nr (gL S0.out.2.2.1) nr).at ((H.out.1.mono nr (gL S0.out.2.2.1) nr).vs.le (Nat.zero_le _)) ((H.out.2.1.mono nr (gL S0.out.2.2.1) nr).vs.le (Nat.zero_le _)) HG.out.2.2.1 hno hnp HG.out.2.2.2.1 HG.out.2.2.2.2.1 HG.out.2.2.2.2.2 (HSn.out.mono (gL S0.out.2.2.1) nr)).mono ?_
 rintro e w1 ⟨he,hb⟩
 rw[HX.out,if_pos rfl,Int.toNat_natCast,HWO.out] at he
 subst he
 have M1:=stm S0 hb
 clear hb S0
 cases oe with
 |some g=>
  dsimp only[erV]
  go_upto_region 3 with fail
  obtain⟨m0,m1,m2,m3,m4,m5,m6,m7⟩:=(gB M1.out.2.1).c8
  go_wp2_with(refine wpList_rowH rfl 84 _ _ rfl (w.heap.size+1) #[.int .i64 p.sec,.slice (some (ad wb 0)) p.nw p.nw,.slice (some (ad yb 0)) p.ny p.ny,.slice (some (ad bb 0)) p.nb p.nb,.int .i64 p.hold,.slice (some (ad ob 0)) no oc,.slice (some (ad pb 0)) np pc,.slice ia p.ny ic] rfl rfl 84 _ (gB M1.out.1) (by kernel_rfl) rfl (by kernel_rfl) (Halt.mk ?_))
  intro W9 hB9 hF9
  have MR42:Hid (Sts [kBn w.heap.size w] W9):=⟨⟨blf M1.out.2.2.1 (Nat.le_add_right _ 1) hF9,rfl⟩,trivial⟩
  obtain⟨z0,z1,z2,z3,z4,z5,z6,z7⟩:=hB9.c8
  clear hF9 hB9 M1
  go_wp2_with fail
  exact bodyPost_ret (v:=.tuple #[.agg #[.int .i64 p.sec,.slice (some (ad wb 0)) p.nw p.nw,.slice (some (ad yb 0)) p.ny p.ny,.slice (some (ad bb 0)) p.nb p.nb,.int .i64 p.hold,.slice (some (ad ob 0)) no oc,.slice (some (ad pb 0)) np pc,.slice ia p.ny ic],.iface 251 (.pointer (some (A g)))]) (by simp[results,Tryz.results114,go_sem,z0,z1,z2,z3,z4,z5,z6,z7]) rfl (⟨ob,oc,pb,pc,ia,ic,rfl,⟨⟨M1,(H.out.1.mono nr (gL MR42.out.1) nr)⟩,⟨M2,(H.out.2.1.mono nr (gL MR42.out.1) nr)⟩,M,v,(H.out.2.2.mono nr (gL MR42.out.1) nr)⟩,(gL MR42.out.1)⟩)
 |none=>
  dsimp only[erV]
  have m7:=(gB M1.out.2.1).cel 7
  go_wp2_with fail
  clear m7
  refine(with133 M ia p.ny ic (fun i=>(p.Y i).ns) S v x (.set false) 163 (.agg #[.bool false]) _ hx hny rfl (H.out.2.2.mono nr (gL M1.out.2.2.1) nr)).mono ?_
  rintro e wh2 ⟨ua,uc,vv,rfl,ho,hb⟩
  have MA2:Hid (Sts [kWl w1.heap.size ua p.ny uc (fun i=>(p.Y i).ns) (updN S x (.set false)) vv,kBx (w.heap.size+1) 84 z8v,kBx (w.heap.size) 84 (vDk p wb yb bb (some (ad ob 0)) no oc (some (ad pb 0)) np pc ia ic),kBn w.heap.size w] wh2):=⟨ho,(gB M1.out.1).mono hb nr,(gB M1.out.2.1).mono hb nr,⟨(gL M1.out.2.2.1).trans (hb.mono (gL M1.out.2.2.1).size),rfl⟩,trivial⟩
  clear hb ho M1
  have n7:=(gB MA2.out.2.2.1).cel 7
  obtain⟨nf0,nf1,nf2,nf3,nf4,nf5,nf6,nf7⟩:=(gB MA2.out.2.2.1).f8
  have hF44:=(Fr.refl (fun x=>x=w.heap.size) wh2).put 7 (.slice ua p.ny uc)
  have MA43:Hid (Sts [kWl w1.heap.size ua p.ny uc (fun i=>(p.Y i).ns) (updN S x (.set false)) vv,kBx (w.heap.size+1) 84 z8v,kBx (w.heap.size) 84 (vDk p wb yb bb (some (ad ob 0)) no oc (some (ad pb 0)) np pc ua uc),kBn w.heap.size w] _):=⟨wlf (gW MA2.out.1) (gB MA2.out.2.2.1) hF44,(gB MA2.out.2.1).fr hF44 (by omega),by have h9:=((gB MA2.out.2.2.1).set 7 (.slice ua p.ny uc));exact h9,⟨blf MA2.out.2.2.2.1 nr hF44,rfl⟩,trivial⟩
  clear hF44
  clear MA2
  go_upto_region 5 with fail
  clear n7 nf0 nf1 nf2 nf3 nf4 nf5 nf6 nf7
  generalize (wh2.setCell (ad w.heap.size 7) (.slice ua p.ny uc))=W8 at MA43⊢
  obtain⟨vs,hbx,_,_,_,_,hrow⟩:=(HP.out.mono nr (gL MA43.out.2.2.2.1) nr).wy
  obtain⟨b1,b2,b3,b4,b5,hr⟩:=hrow x hx
  have y0:W8.cell? (ad yb (x*5))=some (.slice (some (ad b1 0)) (p.Y x).ns (p.Y x).ns):=(hbx.cell _).trans hr.c0
  have y1:W8.cell? (ad yb (x*5+1))=some (.slice (some (ad b2 0)) (p.Y x).nl (p.Y x).nl):=(hbx.cell _).trans hr.c1
  have y2:W8.cell? (ad yb (x*5+2))=some (.slice (some (ad b3 0)) (p.Y x).nf (p.Y x).nf):=(hbx.cell _).trans hr.c2
  have y3:W8.cell? (ad yb (x*5+3))=some (.slice (some (ad b4 0)) (p.Y x).no (p.Y x).no):=(hbx.cell _).trans hr.c3
  have y4:W8.cell? (ad yb (x*5+4))=some (.slice (some (ad b5 0)) (p.Y x).nm (p.Y x).nm):=(hbx.cell _).trans hr.c4
  have HYI:Hid (VsAt 2 0 W8 (some (ad b2 0)) (p.Y x).nl (intF (p.Y x).L)/\VsAt 2 0 W8 (some (ad b3 0)) (p.Y x).nf (intF (p.Y x).F)):=⟨hr.own.in_.l,hr.own.in_.f⟩
  have d2:=(gB MA43.out.2.2.1).cel 2
  clear hrow hr hbx
  go_wp2_with fail
  clear y0 y1 y2 y3 y4 d2
  refine(needs72 (p.Y x) (some (ad b1 0)) (some (ad b4 0)) (some (ad b5 0)) b2 0 b3 0 (p.Y x).ns (p.Y x).nl (p.Y x).nf (p.Y x).no (p.Y x).nm W8 hnl hnf HYI.out.1 HYI.out.2).mono ?_
  rintro e W9 ⟨nv,rfl,ho,hb⟩
  obtain⟨na,nc,rfl⟩:=ho.val
  have M9:=stx (k:=kOw w.heap.size 146 2 (.slice na ((p.Y x).nl+(p.Y x).nf) nc) ((p.Y x).nl+(p.Y x).nf) (intF (ndL (p.Y x)))) (stm MA43 hb) (ho.keep (gL MA43.out.2.2.2.1).size (fun _ _=>rfl))
  clear hb ho HYI MA43
  go_wp2_with fail
  go_loopw [31] (fun i wr=>∃k:Nat,k<=((p.Y x).nl+(p.Y x).nf)/\i=.int .i64 (k:Int)/\∃(gb gc N2 N:Nat),Hid (Sts [kOw w.heap.size 146 2 (.slice na ((p.Y x).nl+(p.Y x).nf) nc) ((p.Y x).nl+(p.Y x).nf) (intF (ndL (p.Y x))),kOw N2 69 2 (.slice (some (ad gb 0)) np gc) np (intF (tnP (ndL (p.Y x)) P k)),kWl N ua p.ny uc (fun i=>(p.Y i).ns) (updN S x (.set false)) vv,kBx (w.heap.size+1) 84 z8v,kBx (w.heap.size) 84 (vDk p wb yb bb (some (ad ob 0)) no oc (some (ad gb 0)) np gc ua uc),kBn w.heap.size w] wr)) (fun i _=>((p.Y x).nl+(p.Y x).nf)-(intOf i).toNat)
  case atStart=>exact⟨0,Nat.zero_le _,rfl,pb,pc,M2,_,(gO M9.out.1),(H.out.2.1.mono nr (gL M9.out.2.2.2.2.1) nr),(gW M9.out.2.1),(gB M9.out.2.2.1),(gB M9.out.2.2.2.1),⟨(gL M9.out.2.2.2.2.1),rfl⟩,trivial⟩
  case round=>
   clear M9
   obtain⟨k,hk,rfl,gb,gc,N2,N,T⟩:=hrel
   by_cases hlt:k<((p.Y x).nl+(p.Y x).nf)
   ·
    obtain⟨o,HO,hon⟩:∃o:Nat,Hid (ndL (p.Y x) k 0=(o:Int))/\o<np:=HNI.out k hlt
    obtain⟨ly,HL⟩:∃ly,Hid (ndL (p.Y x) k 1=ly):=⟨_,rfl⟩
    have HTN:Hid (tnP (ndL (p.Y x)) P (k+1)=ptU (tnP (ndL (p.Y x)) P k) o ly (tnP (ndL (p.Y x)) P k o 1)):=by show ptU _ _ _ _=_;rw[HO.out,HL.out,Int.toNat_natCast]
    obtain⟨nb,rfl,_,_⟩:=(gO T.out.1).addr (by omega)
    have c0:wr.cell? (ad nb (k*2))=some (.int .i64 (o:Int)):=by have h9:=(gO T.out.1).cell hlt (j:=0) (by omega);rw[←HO.out];exact h9
    have c1:wr.cell? (ad nb (k*2+1))=some (.int .i64 ly):=by have h9:=(gO T.out.1).cell hlt (j:=1) (by omega);rw[←HL.out];exact h9
    have hk0:(0:Int)<=(k:Int):=by omega
    have hkn:(k:Int)<(((p.Y x).nl+(p.Y x).nf:Nat):Int):=by omega
    have M5:=stx (k:=kBx (wr.heap.size) 146 #[.int .i64 (o:Int),.int .i64 ly]) (sta T (.cells #[.int .i64 (o:Int),.int .i64 ly] 146)) (Box.new _ _ _)
    have HL45:Hid (w.heap.size<=wr.heap.size):=(gL T.out.2.2.2.2.2.1).size
    have HO46:Hid (∀g,(Value.slice (some (ad nb 0)) ((p.Y x).nl+(p.Y x).nf) nc).ownBlock=some g->g<wr.heap.size):=fun g hg=>((gO T.out.1).lt hg).2
    go_upto_region 8 with fail
    clear c0 c1 T
    generalize wr.alloc (.cells #[.int .i64 (o:Int),.int .i64 ly] 146)=V5 at M5⊢
    generalize wr.heap.size=tq at M5 HL45 HO46⊢
    obtain⟨m0,m1,m2,m3,m4,m5,m6,m7⟩:=(gB M5.out.2.2.2.2.2.1).c8
    obtain⟨n0,n1⟩:=(gB M5.out.1).c2
    go_wp2_with fail
    clear m0 m1 m2 m3 m4 m5 m6 m7 n0 n1
    refine(turn119 p wb yb bb ob 0 no oc gb 0 np gc ua uc (tnP (ndL (p.Y x)) P k) o ly _ hon hnp ((gO M5.out.2.2.1).vs.le (Nat.zero_le _))).mono ?_
    rintro e wh3 ⟨g,c,rfl,hv,hb⟩
    generalize V5.heap.size=N3 at hv
    rw[←HTN.out] at hv
    have HN:Hid (VOwn N3 69 2 wh3 (.slice (some (ad g 0)) np c) np (intF (tnP (ndL (p.Y x)) P (k+1)))):=hv
    clear hv
    have M7:=stm M5 hb
    clear hb M5
    go_wp2_with(refine wpList_rowH rfl 84 _ _ rfl (w.heap.size) #[.int .i64 p.sec,.slice (some (ad wb 0)) p.nw p.nw,.slice (some (ad yb 0)) p.ny p.ny,.slice (some (ad bb 0)) p.nb p.nb,.int .i64 p.hold,.slice (some (ad ob 0)) no oc,.slice (some (ad g 0)) np c,.slice ua p.ny uc] rfl rfl 84 _ (gB M7.out.2.2.2.2.2.1) (by kernel_rfl) rfl (by kernel_rfl) (Halt.mk ?_))
    intro W9b hB9 hF9
    have M8:Hid (Sts [kOw w.heap.size 146 2 (.slice (some (ad nb 0)) ((p.Y x).nl+(p.Y x).nf) nc) ((p.Y x).nl+(p.Y x).nf) (intF (ndL (p.Y x))),kOw N3 69 2 (.slice (some (ad g 0)) np c) np (intF (tnP (ndL (p.Y x)) P (k+1))),kWl N ua p.ny uc (fun i=>(p.Y i).ns) (updN S x (.set false)) vv,kBx (w.heap.size+1) 84 z8v,kBx (w.heap.size) 84 (vDk p wb yb bb (some (ad ob 0)) no oc (some (ad g 0)) np c ua uc),kBn w.heap.size w] W9b):=⟨owf (gO M7.out.2.1) (gB M7.out.2.2.2.2.2.1) hF9,owf HN.out (gB M7.out.2.2.2.2.2.1) hF9,wlf (gW M7.out.2.2.2.1) (gB M7.out.2.2.2.2.2.1) hF9,(gB M7.out.2.2.2.2.1).fr hF9 (by omega),hB9,⟨blf M7.out.2.2.2.2.2.2.1 nr hF9,rfl⟩,trivial⟩
    clear hF9 hB9 M7
    go_wp2_with fail
    go_roundw
    case rel=>exact⟨k+1,by omega,by go_num,g,c,N3,N,M8⟩
    case measure=>simp[intOf];omega
   ·
    have hge:¬((k:Int)<(((p.Y x).nl+(p.Y x).nf:Nat):Int)):=by omega
    have hkn:k=((p.Y x).nl+(p.Y x).nf):=by omega
    subst hkn
    obtain⟨m0,m1,m2,m3,m4,m5,m6,m7⟩:=(gB T.out.2.2.2.2.1).c8
    go_wp2_with(refine wpList_rowH rfl 84 _ _ rfl (w.heap.size+1) #[.int .i64 p.sec,.slice (some (ad wb 0)) p.nw p.nw,.slice (some (ad yb 0)) p.ny p.ny,.slice (some (ad bb 0)) p.nb p.nb,.int .i64 p.hold,.slice (some (ad ob 0)) no oc,.slice (some (ad gb 0)) np gc,.slice ua p.ny uc] rfl rfl 84 _ (gB T.out.2.2.2.1) (by kernel_rfl) rfl (by kernel_rfl) (Halt.mk ?_))
    intro W9 hB9 hF9
    have MR47:Hid (Sts [kOw w.heap.size 146 2 (.slice na ((p.Y x).nl+(p.Y x).nf) nc) ((p.Y x).nl+(p.Y x).nf) (intF (ndL (p.Y x))),kOw N2 69 2 (.slice (some (ad gb 0)) np gc) np (intF (tnP (ndL (p.Y x)) P ((p.Y x).nl+(p.Y x).nf))),kWl N ua p.ny uc (fun i=>(p.Y i).ns) (updN S x (.set false)) vv,kBn w.heap.size w] W9):=⟨owf (gO T.out.1) (gB T.out.2.2.2.1) hF9,owf (gO T.out.2.1) (gB T.out.2.2.2.1) hF9,wlf (gW T.out.2.2.1) (gB T.out.2.2.2.1) hF9,⟨blf T.out.2.2.2.2.2.1 (Nat.le_add_right _ 1) hF9,rfl⟩,trivial⟩
    obtain⟨z0,z1,z2,z3,z4,z5,z6,z7⟩:=hB9.c8
    clear hF9 hB9 T
    go_wp2_with fail
    exact bodyPost_ret (v:=.tuple #[.agg #[.int .i64 p.sec,.slice (some (ad wb 0)) p.nw p.nw,.slice (some (ad yb 0)) p.ny p.ny,.slice (some (ad bb 0)) p.nb p.nb,.int .i64 p.hold,.slice (some (ad ob 0)) no oc,.slice (some (ad gb 0)) np gc,.slice ua p.ny uc],.nilIface]) (by simp[results,Tryz.results114,go_sem,z0,z1,z2,z3,z4,z5,z6,z7]) rfl (⟨ob,oc,gb,gc,ua,uc,rfl,⟨⟨M1,(H.out.1.mono nr (gL MR47.out.2.2.2.1) nr)⟩,⟨N2,(gO MR47.out.2.1)⟩,N,vv,(gW MR47.out.2.2.1)⟩,(gL MR47.out.2.2.2.1)⟩)
end Go.Proofs.YtkeilejbelblcaaGreatDoor
