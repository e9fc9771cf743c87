import Derived.Test.YtkeilejbelblcaaGreatDoorJab
namespace Go.Proofs.YtkeilejbelblcaaGreatDoor
open Go.RowKit
structure Hl where
 st:Int
 gone:Int
 nb:Nat
 B:Nat->Bool
 shown:Bool
 timer:Int
def HsAt (C:Nat) (w:World) (a:Option Addr) (n:Nat) (Y:Nat->Hl):Prop:=
 0<n->∃b off,a=some (ad b off)/\C<=b/\b<w.heap.size/\∀i,i<n->∃ra rc,
  w.cell? (ad b (off+i*5))=some (.int .i64 (Y i).st)/\w.cell? (ad b (off+i*5+1))=some (.int .i64 (Y i).gone)∧
  w.cell? (ad b (off+i*5+2))=some (.slice ra (Y i).nb rc)/\w.cell? (ad b (off+i*5+3))=some (.bool (Y i).shown)∧
  w.cell? (ad b (off+i*5+4))=some (.int .i64 (Y i).timer)/\VsAt 1 C w ra (Y i).nb (boolF (Y i).B)
theorem HsAt.keep {C C':Nat}{w w':World}{a:Option Addr}{n:Nat}{Y:Nat->Hl}(h:HsAt C w a n Y) (hC:C'<=C) (hs:w.heap.size<=w'.heap.size) (hk:∀b,C<=b->b<w.heap.size->w'.heap[b]?=w.heap[b]?):HsAt C' w' a n Y:=by
 intro h0
 obtain⟨b,off,ha,hge,hlt,hc⟩:=h h0
 refine⟨b,off,ha,by omega,by omega,fun i hi=>?_⟩
 obtain⟨ra,rc,h1,h2,h3,h4,h5,h6⟩:=hc i hi
 have e:=fun o=>World.cell?_of_block (w:=w) (w':=w') (a:=(ad b o)) (hk b hge hlt)
 exact⟨ra,rc,(e _).trans h1,(e _).trans h2,(e _).trans h3,(e _).trans h4,(e _).trans h5,h6.keep hC hs hk⟩
theorem HsAt.mono {C C':Nat}{w w':World}{a:Option Addr}{n:Nat}{Y:Nat->Hl}{B:Nat}(h:HsAt C w a n Y) (hC:C'<=C) (hb:Below B w w') (hB:w.heap.size<=B):HsAt C' w' a n Y:=
 h.keep hC hb.size fun b _ hlt=>hb.block b (by omega)
structure Fm where
 ok:Bool
 no:Nat
 O:Nat->Bool
 np:Nat
 P:Nat->Nat->Int
 nh:Nat
 Y:Nat->Hl
abbrev vHl (h:Hl) (a:Option Addr) (m:Nat):Array Value:=#[.int .i64 h.st,.int .i64 h.gone,.slice a h.nb m,.bool h.shown,.int .i64 h.timer]
abbrev vFr (f:Fm) (a:Option Addr) (m:Nat) (b:Option Addr) (n:Nat) (c:Option Addr) (o:Nat):Array Value:=#[.bool f.ok,.slice a f.no m,.slice b f.np n,.slice c f.nh o]
abbrev vFo (f:Fm) (a b c:Nat):Array Value:=#[.bool f.ok,.slice (some (ad a 0)) f.no f.no,.slice (some (ad b 0)) f.np f.np,.slice (some (ad c 0)) f.nh f.nh]
abbrev vAn (x:Int) (f:Fm) (a:Option Addr) (m:Nat) (b:Option Addr) (n:Nat) (c:Option Addr) (o:Nat):Array Value:=#[.int .i64 x,.bool f.ok,.slice a f.no m,.slice b f.np n,.slice c f.nh o]
def Fm.small (f:Fm):Prop:=f.no<=1048576/\f.np<=1048576/\f.nh<=1048576/\∀i,i<f.nh->(f.Y i).nb<=1048576
structure FmIn (C:Nat) (w:World) (f:Fm) (oa pa ha:Option Addr):Prop where
 o:VsAt 1 C w oa f.no (boolF f.O)
 p:VsAt 2 C w pa f.np (intF f.P)
 h:HsAt C w ha f.nh f.Y
theorem FmIn.mono {C C':Nat}{w w':World}{f:Fm}{oa pa ha:Option Addr}{B:Nat}(h:FmIn C w f oa pa ha) (hC:C'<=C) (hb:Below B w w') (hB:w.heap.size<=B):FmIn C' w' f oa pa ha:=⟨h.o.mono hC hb hB,h.p.mono hC hb hB,h.h.mono hC hb hB⟩
set_option maxHeartbeats 1000000 in
theorem eqPoint (a0 a1:Int) (w:World):
  Calls Tryz.prog 86 #[.agg #[.int .i64 a0,.int .i64 a1],.agg #[.int .i64 a0,.int .i64 a1]] w fun e w'=>e=.returned (.bool true)/\Below w.heap.size w w':=by
 go_enter Tryz.func86,Tryz.ntmps86
 go_wp2
 go_ret
 exact⟨rfl,bel2 _ _ _⟩
set_option maxHeartbeats 1000000 in
theorem eqPointS (a a':Option Addr) (n cap cap':Nat) (F:Nat->Nat->Int) (w:World) (hn:n<=1048576) (hE:VsAt 2 0 w a n (intF F)) (hE':VsAt 2 0 w a' n (intF F)):
  Calls Tryz.prog 47 #[.slice a n cap,.slice a' n cap'] w fun e w'=>e=.returned (.bool true)/\Below w.heap.size w w':=by
 go_enter Tryz.func47,Tryz.ntmps47
 go_wp2_with fail
 go_loopw [5] (fun i wr=>∃(k:Nat),k<=n/\i=.int .i64 k/\Below w.heap.size w wr) (fun i _=>n-(intOf i).toNat)
 case atStart=>exact⟨0,Nat.zero_le _,rfl,Below.refl _ _⟩
 case round=>
  obtain⟨k,hk,rfl,hbel⟩:=hrel
  by_cases hlt:k<n
  ·
   obtain⟨b,off,rfl,_,hb,hc⟩:=(hE.mono nr hbel nr) (by omega)
   obtain⟨b',off',rfl,_,hb',hc'⟩:=(hE'.mono nr hbel nr) (by omega)
   have c0:wr.cell? (ad b (off+k*2))=some (.int .i64 (F k 0)):=hc k hlt 0 (by omega)
   have c1:wr.cell? (ad b (off+k*2+1))=some (.int .i64 (F k 1)):=hc k hlt 1 (by omega)
   have d0:wr.cell? (ad b' (off'+k*2))=some (.int .i64 (F k 0)):=hc' k hlt 0 (by omega)
   have d1:wr.cell? (ad b' (off'+k*2+1))=some (.int .i64 (F k 1)):=hc' k hlt 1 (by omega)
   have hlt':(k:Int)<(n:Int):=by omega
   have hk0:(0:Int)<=(k:Int):=by omega
   clear hc hc'
   go_wp2_with fail
   go_region_with(go_at_call 86;refine(eqPoint (F k 0) (F k 1) _).mono ?_;rintro e w1 ⟨rfl,hb1⟩)
   all_goals
    go_wp2_with fail
    go_roundw
    case rel=>exact⟨k+1,by omega,by go_num,hbel.drew.trans (hb1.mono hbel.drew.size)⟩
    case measure=>simp[intOf];omega
  ·
   go_wp2
   go_ret
   exact⟨rfl,hbel⟩
set_option maxRecDepth 100000 in
set_option maxHeartbeats 4000000 in
theorem eqHeld (y:Hl) (ra ra':Option Addr) (rc rc':Nat) (w:World) (hs:y.nb<=1048576) (h:VsAt 1 0 w ra y.nb (boolF y.B)) (h':VsAt 1 0 w ra' y.nb (boolF y.B)):
  Calls Tryz.prog 87 #[.agg #[.int .i64 y.st,.int .i64 y.gone,.slice ra y.nb rc,.bool y.shown,.int .i64 y.timer],.agg #[.int .i64 y.st,.int .i64 y.gone,.slice ra' y.nb rc',.bool y.shown,.int .i64 y.timer]] w fun e w'=>e=.returned (.bool true)/\Below w.heap.size w w':=by
 have H:Hid (VsAt 1 0 w ra y.nb (boolF y.B)/\VsAt 1 0 w ra' y.nb (boolF y.B)):=⟨h,h'⟩
 clear h h'
 go_enter Tryz.func87,Tryz.ntmps87
 go_wp2_with fail
 have B0:=bel2 w (.cells #[.int .i64 y.st,.int .i64 y.gone,.slice ra y.nb rc,.bool y.shown,.int .i64 y.timer] 72) (.cells #[.int .i64 y.st,.int .i64 y.gone,.slice ra' y.nb rc',.bool y.shown,.int .i64 y.timer] 72)
 have A1:=(Box.new w 72 #[.int .i64 y.st,.int .i64 y.gone,.slice ra y.nb rc,.bool y.shown,.int .i64 y.timer]).alloc (.cells #[.int .i64 y.st,.int .i64 y.gone,.slice ra' y.nb rc',.bool y.shown,.int .i64 y.timer] 72)
 have A2:Box ((w.alloc (.cells #[.int .i64 y.st,.int .i64 y.gone,.slice ra y.nb rc,.bool y.shown,.int .i64 y.timer] 72)).alloc (.cells #[.int .i64 y.st,.int .i64 y.gone,.slice ra' y.nb rc',.bool y.shown,.int .i64 y.timer] 72)) (w.heap.size+1) 72 #[.int .i64 y.st,.int .i64 y.gone,.slice ra' y.nb rc',.bool y.shown,.int .i64 y.timer]:=by have :=Box.new (w.alloc (.cells #[.int .i64 y.st,.int .i64 y.gone,.slice ra y.nb rc,.bool y.shown,.int .i64 y.timer] 72)) 72 #[.int .i64 y.st,.int .i64 y.gone,.slice ra' y.nb rc',.bool y.shown,.int .i64 y.timer];simpa using this
 refine(eqBoolS ra ra' y.nb rc rc' y.B _ hs (H.out.1.mono nr B0 nr) (H.out.2.mono nr B0 nr)).mono ?_
 rintro e w1 ⟨rfl,hb1⟩
 have S1:Hid (Below w.heap.size w w1/\Box w1 w.heap.size 72 #[.int .i64 y.st,.int .i64 y.gone,.slice ra y.nb rc,.bool y.shown,.int .i64 y.timer]/\Box w1 (w.heap.size+1) 72 #[.int .i64 y.st,.int .i64 y.gone,.slice ra' y.nb rc',.bool y.shown,.int .i64 y.timer]):=⟨B0.trans (hb1.mono B0.size),A1.mono hb1 nr,A2.mono hb1 nr⟩
 clear B0 A1 A2 hb1
 obtain⟨a0,a1,a2,a3,a4⟩:=S1.out.2.1.c5
 obtain⟨b0,b1,b2,b3,b4⟩:=S1.out.2.2.c5
 go_wp2_with fail
 go_ret
 exact⟨rfl,S1.out.1⟩
set_option maxRecDepth 100000 in
set_option maxHeartbeats 4000000 in
theorem eqHeldS (a a':Option Addr) (n cap cap':Nat) (Y:Nat->Hl) (w:World) (hn:n<=1048576) (hL:∀i,i<n->(Y i).nb<=1048576) (hR:HsAt 0 w a n Y) (hR':HsAt 0 w a' n Y):
  Calls Tryz.prog 48 #[.slice a n cap,.slice a' n cap'] w fun e w'=>e=.returned (.bool true)/\Below w.heap.size w w':=by
 have HL:Hid (∀i,i<n->(Y i).nb<=1048576):=hL
 clear hL
 go_enter Tryz.func48,Tryz.ntmps48
 go_wp2_with fail
 go_loopw [5] (fun i wr=>∃(k:Nat),k<=n/\i=.int .i64 k/\Below w.heap.size w wr) (fun i _=>n-(intOf i).toNat)
 case atStart=>exact⟨0,Nat.zero_le _,rfl,Below.refl _ _⟩
 case round=>
  obtain⟨k,hk,rfl,hbel⟩:=hrel
  by_cases hlt:k<n
  ·
   obtain⟨b,off,rfl,_,hb,hc⟩:=(hR.mono nr hbel.drew nr) (by omega)
   obtain⟨b',off',rfl,_,hb',hc'⟩:=(hR'.mono nr hbel.drew nr) (by omega)
   obtain⟨ra,rc,c0,c1,c2,c3,c4,g⟩:=hc k hlt
   obtain⟨ra',rc',d0,d1,d2,d3,d4,g'⟩:=hc' k hlt
   have hlt':(k:Int)<(n:Int):=by omega
   have hk0:(0:Int)<=(k:Int):=by omega
   have G:Hid (VsAt 1 0 wr.drew ra (Y k).nb (boolF (Y k).B)):=g
   have G':Hid (VsAt 1 0 wr.drew ra' (Y k).nb (boolF (Y k).B)):=g'
   have c00:wr.cell? _=_:=c0
   have d00:wr.cell? _=_:=d0
   have c10:wr.cell? _=_:=c1
   have d10:wr.cell? _=_:=d1
   have c20:wr.cell? _=_:=c2
   have d20:wr.cell? _=_:=d2
   have c30:wr.cell? _=_:=c3
   have d30:wr.cell? _=_:=d3
   have c40:wr.cell? _=_:=c4
   have d40:wr.cell? _=_:=d4
   clear hc hc' g g' c0 c1 c2 c3 c4 d0 d1 d2 d3 d4
   go_wp2_with fail
   go_region_with(go_at_call 87;refine(eqHeld (Y k) ra ra' rc rc' _ (HL.out k hlt) G.out G'.out).mono ?_;rintro e w1 ⟨rfl,hb1⟩)
   all_goals
    go_wp2_with fail
    go_roundw
    case rel=>exact⟨k+1,by omega,by go_num,hbel.drew.trans (hb1.mono hbel.drew.size)⟩
    case measure=>simp[intOf];omega
  ·
   go_wp2
   go_ret
   exact⟨rfl,hbel⟩
set_option maxRecDepth 100000 in
set_option maxHeartbeats 4000000 in
theorem eqFrame (f:Fm) (oa pa ha oa' pa' ha':Option Addr) (oc pc hc oc' pc' hc':Nat) (w:World) (hs:f.small) (h:FmIn 0 w f oa pa ha) (h':FmIn 0 w f oa' pa' ha'):
  Calls Tryz.prog 13 #[.agg #[.bool f.ok,.slice oa f.no oc,.slice pa f.np pc,.slice ha f.nh hc],.agg #[.bool f.ok,.slice oa' f.no oc',.slice pa' f.np pc',.slice ha' f.nh hc']] w fun e w'=>e=.returned (.bool true)/\Below w.heap.size w w':=by
 obtain⟨s1,s2,s3,s4⟩:=hs
 have HS:Hid (∀i,i<f.nh->(f.Y i).nb<=1048576):=s4
 have H:Hid (FmIn 0 w f oa pa ha/\FmIn 0 w f oa' pa' ha'):=⟨h,h'⟩
 clear h h' s4
 go_enter Tryz.func13,Tryz.ntmps13
 go_wp2_with fail
 have B0:=bel2 w (.cells #[.bool f.ok,.slice oa f.no oc,.slice pa f.np pc,.slice ha f.nh hc] 42) (.cells #[.bool f.ok,.slice oa' f.no oc',.slice pa' f.np pc',.slice ha' f.nh hc'] 42)
 have A1:=(Box.new w 42 #[.bool f.ok,.slice oa f.no oc,.slice pa f.np pc,.slice ha f.nh hc]).alloc (.cells #[.bool f.ok,.slice oa' f.no oc',.slice pa' f.np pc',.slice ha' f.nh hc'] 42)
 have A2:Box ((w.alloc (.cells #[.bool f.ok,.slice oa f.no oc,.slice pa f.np pc,.slice ha f.nh hc] 42)).alloc (.cells #[.bool f.ok,.slice oa' f.no oc',.slice pa' f.np pc',.slice ha' f.nh hc'] 42)) (w.heap.size+1) 42 #[.bool f.ok,.slice oa' f.no oc',.slice pa' f.np pc',.slice ha' f.nh hc']:=by have :=Box.new (w.alloc (.cells #[.bool f.ok,.slice oa f.no oc,.slice pa f.np pc,.slice ha f.nh hc] 42)) 42 #[.bool f.ok,.slice oa' f.no oc',.slice pa' f.np pc',.slice ha' f.nh hc'];simpa using this
 have S0:Hid (Below w.heap.size w ((w.alloc (.cells #[.bool f.ok,.slice oa f.no oc,.slice pa f.np pc,.slice ha f.nh hc] 42)).alloc (.cells #[.bool f.ok,.slice oa' f.no oc',.slice pa' f.np pc',.slice ha' f.nh hc'] 42))/\Box ((w.alloc (.cells #[.bool f.ok,.slice oa f.no oc,.slice pa f.np pc,.slice ha f.nh hc] 42)).alloc (.cells #[.bool f.ok,.slice oa' f.no oc',.slice pa' f.np pc',.slice ha' f.nh hc'] 42)) w.heap.size 42 #[.bool f.ok,.slice oa f.no oc,.slice pa f.np pc,.slice ha f.nh hc]/\Box ((w.alloc (.cells #[.bool f.ok,.slice oa f.no oc,.slice pa f.np pc,.slice ha f.nh hc] 42)).alloc (.cells #[.bool f.ok,.slice oa' f.no oc',.slice pa' f.np pc',.slice ha' f.nh hc'] 42)) (w.heap.size+1) 42 #[.bool f.ok,.slice oa' f.no oc',.slice pa' f.np pc',.slice ha' f.nh hc']):=⟨B0,A1,A2⟩
 clear B0 A1 A2
 refine(eqBoolS oa oa' f.no oc oc' f.O _ s1 (H.out.1.o.mono nr S0.out.1 nr) (H.out.2.o.mono nr S0.out.1 nr)).mono ?_
 rintro e w1 ⟨rfl,hb1⟩
 have S1:Hid (Below w.heap.size w w1/\Box w1 w.heap.size 42 #[.bool f.ok,.slice oa f.no oc,.slice pa f.np pc,.slice ha f.nh hc]/\Box w1 (w.heap.size+1) 42 #[.bool f.ok,.slice oa' f.no oc',.slice pa' f.np pc',.slice ha' f.nh hc']):=⟨S0.out.1.trans (hb1.mono S0.out.1.size),S0.out.2.1.mono hb1 nr,S0.out.2.2.mono hb1 nr⟩
 clear S0 hb1
 obtain⟨a0,a1,a2,a3⟩:=S1.out.2.1.c4
 obtain⟨b0,b1,b2,b3⟩:=S1.out.2.2.c4
 go_wp2_with fail
 clear a0 a1 a2 a3 b0 b1 b2 b3
 refine(eqPointS pa pa' f.np pc pc' f.P _ s2 (H.out.1.p.mono nr S1.out.1 nr) (H.out.2.p.mono nr S1.out.1 nr)).mono ?_
 rintro e w2 ⟨rfl,hb2⟩
 have S2:Hid (Below w.heap.size w w2/\Box w2 w.heap.size 42 #[.bool f.ok,.slice oa f.no oc,.slice pa f.np pc,.slice ha f.nh hc]/\Box w2 (w.heap.size+1) 42 #[.bool f.ok,.slice oa' f.no oc',.slice pa' f.np pc',.slice ha' f.nh hc']):=⟨S1.out.1.trans (hb2.mono S1.out.1.size),S1.out.2.1.mono hb2 nr,S1.out.2.2.mono hb2 nr⟩
 clear S1 hb2
 obtain⟨a0,a1,a2,a3⟩:=S2.out.2.1.c4
 obtain⟨b0,b1,b2,b3⟩:=S2.out.2.2.c4
 go_wp2_with fail
 clear a0 a1 a2 a3 b0 b1 b2 b3
 refine(eqHeldS ha ha' f.nh hc hc' f.Y _ s3 HS.out (H.out.1.h.mono nr S2.out.1 nr) (H.out.2.h.mono nr S2.out.1 nr)).mono ?_
 rintro e w3 ⟨rfl,hb3⟩
 have S3:Hid (Below w.heap.size w w3/\Box w3 w.heap.size 42 #[.bool f.ok,.slice oa f.no oc,.slice pa f.np pc,.slice ha f.nh hc]/\Box w3 (w.heap.size+1) 42 #[.bool f.ok,.slice oa' f.no oc',.slice pa' f.np pc',.slice ha' f.nh hc']):=⟨S2.out.1.trans (hb3.mono S2.out.1.size),S2.out.2.1.mono hb3 nr,S2.out.2.2.mono hb3 nr⟩
 clear S2 hb3
 obtain⟨a0,a1,a2,a3⟩:=S3.out.2.1.c4
 obtain⟨b0,b1,b2,b3⟩:=S3.out.2.2.c4
 go_wp2_with fail
 go_ret
 exact⟨rfl,S3.out.1⟩
def Fm.fits (f:Fm):Prop:=f.no<=maxLen/\f.np<=maxLen/\f.nh<=maxLen/\∀i,i<f.nh->(f.Y i).nb<=maxLen
set_option maxHeartbeats 400000 in
theorem szPointS (a:Option Addr) (len cap:Nat) (left:Int) (w:World) (hs:len<=maxLen) (h0:0<=left) (h1:left<=1048576):
  Calls Tryz.prog 28 #[.slice a len cap,.int .i64 left] w fun e w'=>e=.returned (.int .i64 (szL left len))/\w'=w:=by
 unfold maxLen at hs
 by_cases h:left<(len:Int)
 ·
  go_enter Tryz.func28,Tryz.ntmps28
  go_wp2
  go_ret
  exact⟨by simp[szL];omega,rfl⟩
 ·
  go_enter Tryz.func28,Tryz.ntmps28
  go_wp2
  go_ret
  exact⟨by simp[szL];omega,rfl⟩
set_option maxHeartbeats 1000000 in
theorem szHeld (h:Hl) (ra:Option Addr) (rc:Nat) (left:Int) (w:World) (hs:h.nb<=maxLen) (h0:0<=left) (h1:left<=1048576):
  Calls Tryz.prog 71 #[.agg #[.int .i64 h.st,.int .i64 h.gone,.slice ra h.nb rc,.bool h.shown,.int .i64 h.timer],.int .i64 left] w fun e w'=>∃r:Int,e=.returned (.int .i64 r)/\r<=left/\(0<=r->(h.nb:Int)<=left)/\Below w.heap.size w w':=by
 have B0:Hid (Below w.heap.size w (w.alloc (.cells (vHl h ra rc) 122))):=bel1 _ _
 go_enter Tryz.func71,Tryz.ntmps71
 go_wp2_with fail
 refine(szBoolS ra h.nb rc left _ hs h0 h1).mono ?_
 rintro e w1 ⟨he,hw⟩
 have hw:=hw.symm
 subst hw
 obtain⟨l1,hl1⟩:∃l,l=szL left h.nb:=⟨_,rfl⟩
 rw[<-hl1] at he
 subst he
 by_cases hn1:l1<0
 ·
  go_wp2_with fail
  go_ret
  exact⟨-1,rfl,by omega,fun h=>by omega,B0.out⟩
 have q1:=szL_pos (left:=left) (n:=h.nb) (by rw[<-hl1];exact hn1)
 rw[<-hl1] at q1
 have r1:l1<=left:=by omega
 have p1:(h.nb:Int)<=left:=by omega
 clear hl1 q1
 go_wp2_with fail
 go_ret
 exact⟨l1,rfl,r1,fun _=>p1,B0.out⟩
set_option maxHeartbeats 1000000 in
theorem szHeldS (a:Option Addr) (n cap:Nat) (Y:Nat->Hl) (left:Int) (w:World) (hn:n<=maxLen) (h0:0<=left) (h1:left<=1048576)
  (hJ:HsAt 0 w a n Y) (hs:∀i,i<n->(Y i).nb<=maxLen):
  Calls Tryz.prog 29 #[.slice a n cap,.int .i64 left] w fun e w'=>
   ∃r:Int,e=.returned (.int .i64 r)/\r<=left/\(0<=r->(n:Int)<=left/\∀i,i<n->((Y i).nb:Int)<=left)/\Below w.heap.size w w':=by
 unfold maxLen at hn
 by_cases h:left<(n:Int)
 ·
  go_enter Tryz.func29,Tryz.ntmps29
  go_wp2
  go_ret
  exact⟨-1,rfl,by omega,by omega,Below.refl _ _⟩
 ·
  go_enter Tryz.func29,Tryz.ntmps29
  go_wp2_with fail
  go_loopw [1,5] (fun l i wr=>∃(k:Nat) (lv:Int),k<=n/\i=.int .i64 k/\l=.int .i64 lv/\0<=lv/\lv<=left/\Hid (∀i,i<k->((Y i).nb:Int)<=left)/\Below w.heap.size w wr)
   (fun _ i _=>n-(intOf i).toNat)
  case atStart=>exact⟨0,left-n,Nat.zero_le _,rfl,rfl,by omega,by omega,fun i hi=>absurd hi (Nat.not_lt_zero _),Below.refl _ _⟩
  case round=>
   obtain⟨k,lv,hk,rfl,rfl,hl0,hl1,Hall,hbel⟩:=hrel
   by_cases hlt:k<n
   ·
    obtain⟨b,off,rfl,_,hb,hc⟩:=(hJ.mono nr hbel nr) (by omega)
    obtain⟨ra,rc,c0,c1,c2,c3,c4,_⟩:=hc k hlt
    have hsz:=hs k hlt
    clear hc
    go_wp2_with fail
    refine(szHeld (Y k) ra rc lv _ hsz hl0 (by omega)).mono ?_
    rintro e w1 ⟨r,rfl,hr1,hr2,hb1⟩
    have hb2:Below w.heap.size w w1:=hbel.trans (hb1.mono hbel.size)
    by_cases hneg:r<0
    ·
     go_wp2
     go_ret
     exact⟨-1,rfl,by omega,by omega,hb2⟩
    ·
     have s1:=hr2 (by omega)
     have Hr:Hid (∀i,i<k+1->((Y i).nb:Int)<=left):=by
      intro i hi
      by_cases e:i=k
      ·
       subst e
       omega
      ·
       exact Hall.out i (by omega)
     clear hr2 Hall s1
     go_wp2
     go_roundw
     case rel=>exact⟨k+1,r,by omega,by go_num,rfl,by omega,by omega,Hr,hb2⟩
     case measure=>simp[intOf];omega
   ·
    obtain rfl:k=n:=by omega
    go_wp2
    go_ret
    exact⟨lv,rfl,by omega,fun _=>⟨by omega,Hall.out⟩,hbel⟩
set_option maxHeartbeats 2000000 in
theorem szFrame (f:Fm) (oa pa ha:Option Addr) (oc pc hc:Nat) (left:Int) (w:World) (hf:f.fits) (h0:0<=left) (h1:left<=1048576) (hF:FmIn 0 w f oa pa ha):
  Calls Tryz.prog 7 #[.agg #[.bool f.ok,.slice oa f.no oc,.slice pa f.np pc,.slice ha f.nh hc],.int .i64 left] w fun e w'=>
   ∃r:Int,e=.returned (.int .i64 r)/\r<=left/\(0<=r->f.small)/\Below w.heap.size w w':=by
 obtain⟨f1,f2,f3,f4⟩:=hf
 have F4:Hid (∀i,i<f.nh->(f.Y i).nb<=maxLen):=f4
 clear f4
 go_enter Tryz.func7,Tryz.ntmps7
 go_wp2_with fail
 have B0:=bel1 w (.cells (vFr f oa oc pa pc ha hc) 31)
 refine(szBoolS oa f.no oc left _ f1 h0 h1).mono ?_
 rintro e w1 ⟨he,hw⟩
 have hw:=hw.symm
 subst hw
 obtain⟨l1,hl1⟩:∃l,l=szL left f.no:=⟨_,rfl⟩
 rw[<-hl1] at he
 subst he
 by_cases hn1:l1<0
 ·
  go_wp2_with fail
  go_ret
  exact⟨-1,rfl,by omega,fun h=>by omega,bel1 _ _⟩
 have q1:=szL_pos (left:=left) (n:=f.no) (by rw[<-hl1];exact hn1)
 rw[<-hl1] at q1
 have r1:l1<=left:=by omega
 have p1:=q1.1
 clear hl1 q1
 go_wp2_with fail
 refine(szPointS pa f.np pc l1 _ f2 (by omega) (by omega)).mono ?_
 rintro e w1 ⟨he,hw⟩
 have hw:=hw.symm
 subst hw
 obtain⟨l2,hl2⟩:∃l,l=szL l1 f.np:=⟨_,rfl⟩
 rw[<-hl2] at he
 subst he
 by_cases hn2:l2<0
 ·
  go_wp2_with fail
  go_ret
  exact⟨-1,rfl,by omega,fun h=>by omega,bel1 _ _⟩
 have q2:=szL_pos (left:=l1) (n:=f.np) (by rw[<-hl2];exact hn2)
 rw[<-hl2] at q2
 have r2:l2<=left:=by omega
 have p2:=q2.1
 clear hl2 q2
 go_wp2_with fail
 refine(szHeldS ha f.nh hc f.Y l2 _ f3 (by omega) (by omega) (hF.h.mono nr B0 nr) F4.out).mono ?_
 rintro e w3 ⟨l3,rfl,g3,g4,hb3⟩
 have G4:Hid (0<=l3->(f.nh:Int)<=l2/\∀i,i<f.nh->((f.Y i).nb:Int)<=l2):=g4
 have B3:=B0.trans (hb3.mono B0.size)
 clear g4 hb3 B0
 by_cases hn3:l3<0
 ·
  go_wp2_with fail
  go_ret
  exact⟨-1,rfl,by omega,fun h=>by omega,B3⟩
 go_wp2_with fail
 go_ret
 refine⟨l3,rfl,by omega,fun h=>?_,B3⟩
 obtain⟨u3,u4⟩:=G4.out h
 exact⟨by omega,by omega,by omega,fun i hi=>by have :=u4 i hi;omega⟩
end Go.Proofs.YtkeilejbelblcaaGreatDoor
