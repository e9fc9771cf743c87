import Derived.Test.YtkeilejbelblcaaGreatDoorBa
namespace Go.Proofs.YtkeilejbelblcaaGreatDoor
open Go.RowKit
abbrev boolF (D:Nat->Bool) (i _j:Nat):Value:=.bool (D i)
abbrev intF (K:Nat->Nat->Int) (i j:Nat):Value:=.int .i64 (K i j)
abbrev oneF (S:Nat->Int) (i _j:Nat):Value:=.int .i64 (S i)
theorem infoInt:(Tryz.prog.info? 3).map (fun i=>(i.zero,i.size,i.bytes))=some (some (.int .i64 0),1,8):=by kernel_rfl
theorem infoBool:(Tryz.prog.info? 4).map (fun i=>(i.zero,i.size,i.bytes))=some (some (.bool false),1,1):=by kernel_rfl
theorem infoTurn:(Tryz.prog.info? 146).map (fun i=>(i.zero,i.size,i.bytes))=some (some (.agg #[.int .i64 0,.int .i64 0]),2,16):=by kernel_rfl
theorem infoWay:(Tryz.prog.info? 112).map (fun i=>(i.zero,i.size,i.bytes))=some (some (.agg #[.slice none 0 0,.slice none 0 0,.slice none 0 0,.slice none 0 0,.slice none 0 0]),5,120):=by kernel_rfl
theorem infoRow:(Tryz.prog.info? 27).map (fun i=>(i.zero,i.size,i.bytes))=some (some (.slice none 0 0),1,24):=by kernel_rfl
structure Wy where
 ns:Nat
 S:Nat->Int
 nl:Nat
 L:Nat->Nat->Int
 nf:Nat
 F:Nat->Nat->Int
 no:Nat
 O:Nat->Int
 nm:Nat
 M:Nat->Int
def Wy.small (y:Wy) (m:Int):Prop:=(y.ns:Int)<=m/\(y.nl:Int)<=m/\(y.nf:Int)<=m/\(y.no:Int)<=m/\(y.nm:Int)<=m
structure WyIn (C:Nat) (w:World) (y:Wy) (sa la fa oa ma:Option Addr):Prop where
 s:VsAt 1 C w sa y.ns (oneF y.S)
 l:VsAt 2 C w la y.nl (intF y.L)
 f:VsAt 2 C w fa y.nf (intF y.F)
 o:VsAt 1 C w oa y.no (oneF y.O)
 m:VsAt 1 C w ma y.nm (oneF y.M)
theorem WyIn.mono {C C':Nat}{w w':World}{y:Wy}{sa la fa oa ma:Option Addr}{B:Nat}(h:WyIn C w y sa la fa oa ma) (hC:C'<=C) (hb:Below B w w') (hB:w.heap.size<=B):WyIn C' w' y sa la fa oa ma:=
 ⟨h.s.mono hC hb hB,h.l.mono hC hb hB,h.f.mono hC hb hB,h.o.mono hC hb hB,h.m.mono hC hb hB⟩
theorem WyIn.keep {C C':Nat}{w w':World}{y:Wy}{sa la fa oa ma:Option Addr}(h:WyIn C w y sa la fa oa ma) (hC:C'<=C) (hs:w.heap.size<=w'.heap.size) (hk:∀b,C<=b->b<w.heap.size->w'.heap[b]?=w.heap[b]?):WyIn C' w' y sa la fa oa ma:=
 ⟨h.s.keep hC hs hk,h.l.keep hC hs hk,h.f.keep hC hs hk,h.o.keep hC hs hk,h.m.keep hC hs hk⟩
def WsAt (C:Nat) (w:World) (a:Option Addr) (n:Nat) (Y:Nat->Wy):Prop:=
 0<n->∃b off,a=some (ad b off)/\C<=b/\b<w.heap.size/\∀i,i<n->∃sa sc la lc fa fc oa oc ma mc,
  w.cell? (ad b (off+i*5))=some (.slice sa (Y i).ns sc)/\w.cell? (ad b (off+i*5+1))=some (.slice la (Y i).nl lc)∧
  w.cell? (ad b (off+i*5+2))=some (.slice fa (Y i).nf fc)/\w.cell? (ad b (off+i*5+3))=some (.slice oa (Y i).no oc)∧
  w.cell? (ad b (off+i*5+4))=some (.slice ma (Y i).nm mc)/\WyIn C w (Y i) sa la fa oa ma
theorem WsAt.keep {C C':Nat}{w w':World}{a:Option Addr}{n:Nat}{Y:Nat->Wy}(h:WsAt C w a n Y) (hC:C'<=C) (hs:w.heap.size<=w'.heap.size) (hk:∀b,C<=b->b<w.heap.size->w'.heap[b]?=w.heap[b]?):WsAt C' w' a n Y:=by
 intro h0
 obtain⟨b,off,ha,hge,hlt,hc⟩:=h h0
 refine⟨b,off,ha,by omega,by omega,fun i hi=>?_⟩
 obtain⟨sa,sc,la,lc,fa,fc,oa,oc,ma,mc,h1,h2,h3,h4,h5,h6⟩:=hc i hi
 have e:=fun o=>World.cell?_of_block (w:=w) (w':=w') (a:=(ad b o)) (hk b hge hlt)
 exact⟨sa,sc,la,lc,fa,fc,oa,oc,ma,mc,(e _).trans h1,(e _).trans h2,(e _).trans h3,(e _).trans h4,(e _).trans h5,h6.keep hC hs hk⟩
theorem WsAt.mono {C C':Nat}{w w':World}{a:Option Addr}{n:Nat}{Y:Nat->Wy}{B:Nat}(h:WsAt C w a n Y) (hC:C'<=C) (hb:Below B w w') (hB:w.heap.size<=B):WsAt C' w' a n Y:=
 h.keep hC hb.size fun b _ hlt=>hb.block b (by omega)
def BsAt (C:Nat) (w:World) (a:Option Addr) (n:Nat) (K:Nat->Nat) (T:Nat->Nat->Bool):Prop:=
 0<n->∃b off,a=some (ad b off)/\C<=b/\b<w.heap.size/\∀i,i<n->∃ra rc,w.cell? (ad b (off+i))=some (.slice ra (K i) rc)/\VsAt 1 C w ra (K i) (boolF (T i))
theorem BsAt.keep {C C':Nat}{w w':World}{a:Option Addr}{n:Nat}{K:Nat->Nat}{T:Nat->Nat->Bool}(h:BsAt C w a n K T) (hC:C'<=C) (hs:w.heap.size<=w'.heap.size) (hk:∀b,C<=b->b<w.heap.size->w'.heap[b]?=w.heap[b]?):BsAt C' w' a n K T:=by
 intro h0
 obtain⟨b,off,ha,hge,hlt,hc⟩:=h h0
 refine⟨b,off,ha,by omega,by omega,fun i hi=>?_⟩
 obtain⟨ra,rc,h1,h2⟩:=hc i hi
 exact⟨ra,rc,(World.cell?_of_block (w:=w) (hk b hge hlt)).trans h1,h2.keep hC hs hk⟩
theorem BsAt.mono {C C':Nat}{w w':World}{a:Option Addr}{n:Nat}{K:Nat->Nat}{T:Nat->Nat->Bool}{B:Nat}(h:BsAt C w a n K T) (hC:C'<=C) (hb:Below B w w') (hB:w.heap.size<=B):BsAt C' w' a n K T:=
 h.keep hC hb.size fun b _ hlt=>hb.block b (by omega)
theorem eqTurn (a0 a1:Int) (w:World):
  Calls Tryz.prog 131 #[.agg #[.int .i64 a0,.int .i64 a1],.agg #[.int .i64 a0,.int .i64 a1]] w fun e w'=>e=.returned (.bool true)/\Below w.heap.size w w':=by
 go_enter Tryz.func131,Tryz.ntmps131
 go_wp2
 go_ret
 exact⟨rfl,bel2 _ _ _⟩
set_option maxHeartbeats 1000000 in
theorem eqTurnS (a a':Option Addr) (n cap cap':Nat) (F:Nat->Nat->Int) (w:World) (hn:n<=1048576) (hE:VsAt 2 0 w a n (intF F)) (hE':VsAt 2 0 w a' n (intF F)):
  Calls Tryz.prog 110 #[.slice a n cap,.slice a' n cap'] w fun e w'=>e=.returned (.bool true)/\Below w.heap.size w w':=by
 go_enter Tryz.func110,Tryz.ntmps110
 go_wp2_with fail
 go_loopw [5] (fun i wr=>∃(k:Nat),k<=n/\i=.int .i64 k/\Below w.heap.size w wr) (fun i _=>n-(intOf i).toNat)
 case atStart=>exact⟨0,Nat.zero_le _,rfl,Below.refl _ _⟩
 case round=>
  obtain⟨k,hk,rfl,hbel⟩:=hrel
  by_cases hlt:k<n
  ·
   obtain⟨b,off,rfl,_,hb,hc⟩:=(hE.mono nr hbel nr) (by omega)
   obtain⟨b',off',rfl,_,hb',hc'⟩:=(hE'.mono nr hbel nr) (by omega)
   have c0:wr.cell? (ad b (off+k*2))=some (.int .i64 (F k 0)):=hc k hlt 0 (by omega)
   have c1:wr.cell? (ad b (off+k*2+1))=some (.int .i64 (F k 1)):=hc k hlt 1 (by omega)
   have d0:wr.cell? (ad b' (off'+k*2))=some (.int .i64 (F k 0)):=hc' k hlt 0 (by omega)
   have d1:wr.cell? (ad b' (off'+k*2+1))=some (.int .i64 (F k 1)):=hc' k hlt 1 (by omega)
   have hlt':(k:Int)<(n:Int):=by omega
   have hk0:(0:Int)<=(k:Int):=by omega
   clear hc hc'
   go_wp2_with fail
   go_region_with(go_at_call 131;refine(eqTurn (F k 0) (F k 1) _).mono ?_;rintro e w1 ⟨rfl,hb1⟩)
   all_goals
    go_wp2_with fail
    go_roundw
    case rel=>exact⟨k+1,by omega,by go_num,hbel.drew.trans (hb1.mono hbel.drew.size)⟩
    case measure=>simp[intOf];omega
  ·
   go_wp2
   go_ret
   exact⟨rfl,hbel⟩
set_option maxHeartbeats 1000000 in
theorem eqBoolS (a a':Option Addr) (n cap cap':Nat) (D:Nat->Bool) (w:World) (hn:n<=1048576) (hE:VsAt 1 0 w a n (boolF D)) (hE':VsAt 1 0 w a' n (boolF D)):
  Calls Tryz.prog 46 #[.slice a n cap,.slice a' n cap'] w fun e w'=>e=.returned (.bool true)/\Below w.heap.size w w':=by
 go_enter Tryz.func46,Tryz.ntmps46
 go_wp2_with fail
 go_loopw [5] (fun i wr=>∃(k:Nat),k<=n/\i=.int .i64 k/\Below w.heap.size w wr) (fun i _=>n-(intOf i).toNat)
 case atStart=>exact⟨0,Nat.zero_le _,rfl,Below.refl _ _⟩
 case round=>
  obtain⟨k,hk,rfl,hbel⟩:=hrel
  by_cases hlt:k<n
  ·
   obtain⟨b,off,rfl,_,hb,hc⟩:=(hE.mono nr hbel nr) (by omega)
   obtain⟨b',off',rfl,_,hb',hc'⟩:=(hE'.mono nr hbel nr) (by omega)
   have c0:wr.cell? (ad b (off+k))=some (.bool (D k)):=by have :=hc k hlt 0 (by omega);rwa [Nat.mul_one] at this
   have d0:wr.cell? (ad b' (off'+k))=some (.bool (D k)):=by have :=hc' k hlt 0 (by omega);rwa [Nat.mul_one] at this
   have hlt':(k:Int)<(n:Int):=by omega
   have hk0:(0:Int)<=(k:Int):=by omega
   clear hc hc'
   go_wp2_with fail
   go_quiet (fail)
   go_wp2_with fail
   go_roundw
   case rel=>exact⟨k+1,by omega,by go_num,below_drewN hbel _⟩
   case measure=>simp[intOf];omega
  ·
   go_wp2
   go_ret
   exact⟨rfl,hbel⟩
set_option maxHeartbeats 1000000 in
theorem eqIntS (a a':Option Addr) (n cap cap':Nat) (F:Nat->Nat->Int) (w:World) (hn:n<=1048576) (hE:VsAt 1 0 w a n (intF F)) (hE':VsAt 1 0 w a' n (intF F)):
  Calls Tryz.prog 43 #[.slice a n cap,.slice a' n cap'] w fun e w'=>e=.returned (.bool true)/\Below w.heap.size w w':=by
 go_enter Tryz.func43,Tryz.ntmps43
 go_wp2_with fail
 go_loopw [5] (fun i wr=>∃(k:Nat),k<=n/\i=.int .i64 k/\Below w.heap.size w wr) (fun i _=>n-(intOf i).toNat)
 case atStart=>exact⟨0,Nat.zero_le _,rfl,Below.refl _ _⟩
 case round=>
  obtain⟨k,hk,rfl,hbel⟩:=hrel
  by_cases hlt:k<n
  ·
   obtain⟨b,off,rfl,_,hb,hc⟩:=(hE.mono nr hbel nr) (by omega)
   obtain⟨b',off',rfl,_,hb',hc'⟩:=(hE'.mono nr hbel nr) (by omega)
   have c0:wr.cell? (ad b (off+k))=some (.int .i64 (F k 0)):=by have :=hc k hlt 0 (by omega);rwa [Nat.mul_one] at this
   have d0:wr.cell? (ad b' (off'+k))=some (.int .i64 (F k 0)):=by have :=hc' k hlt 0 (by omega);rwa [Nat.mul_one] at this
   have hlt':(k:Int)<(n:Int):=by omega
   have hk0:(0:Int)<=(k:Int):=by omega
   clear hc hc'
   go_wp2_with fail
   go_quiet (fail)
   go_wp2_with fail
   go_roundw
   case rel=>exact⟨k+1,by omega,by go_num,below_drewN hbel _⟩
   case measure=>simp[intOf];omega
  ·
   go_wp2
   go_ret
   exact⟨rfl,hbel⟩
set_option maxHeartbeats 400000 in
theorem szIntS (a:Option Addr) (len cap:Nat) (left:Int) (w:World) (hs:len<=maxLen) (h0:0<=left) (h1:left<=1048576):
  Calls Tryz.prog 24 #[.slice a len cap,.int .i64 left] w fun e w'=>e=.returned (.int .i64 (szL left len))/\w'=w:=by
 unfold maxLen at hs
 by_cases h:left<(len:Int)
 ·
  go_enter Tryz.func24,Tryz.ntmps24
  go_wp2
  go_ret
  exact⟨by simp[szL];omega,rfl⟩
 ·
  go_enter Tryz.func24,Tryz.ntmps24
  go_wp2
  go_ret
  exact⟨by simp[szL];omega,rfl⟩
set_option maxHeartbeats 400000 in
theorem szTurnS (a:Option Addr) (len cap:Nat) (left:Int) (w:World) (hs:len<=maxLen) (h0:0<=left) (h1:left<=1048576):
  Calls Tryz.prog 100 #[.slice a len cap,.int .i64 left] w fun e w'=>e=.returned (.int .i64 (szL left len))/\w'=w:=by
 unfold maxLen at hs
 by_cases h:left<(len:Int)
 ·
  go_enter Tryz.func100,Tryz.ntmps100
  go_wp2
  go_ret
  exact⟨by simp[szL];omega,rfl⟩
 ·
  go_enter Tryz.func100,Tryz.ntmps100
  go_wp2
  go_ret
  exact⟨by simp[szL];omega,rfl⟩
set_option maxHeartbeats 400000 in
theorem szBoolS (a:Option Addr) (len cap:Nat) (left:Int) (w:World) (hs:len<=maxLen) (h0:0<=left) (h1:left<=1048576):
  Calls Tryz.prog 27 #[.slice a len cap,.int .i64 left] w fun e w'=>e=.returned (.int .i64 (szL left len))/\w'=w:=by
 unfold maxLen at hs
 by_cases h:left<(len:Int)
 ·
  go_enter Tryz.func27,Tryz.ntmps27
  go_wp2
  go_ret
  exact⟨by simp[szL];omega,rfl⟩
 ·
  go_enter Tryz.func27,Tryz.ntmps27
  go_wp2
  go_ret
  exact⟨by simp[szL];omega,rfl⟩
def Wy.fits (y:Wy):Prop:=y.ns<=maxLen/\y.nl<=maxLen/\y.nf<=maxLen/\y.no<=maxLen/\y.nm<=maxLen
set_option maxHeartbeats 1000000 in
theorem szWay (y:Wy) (sa la fa oa ma:Option Addr) (sc lc fc oc mc:Nat) (left:Int) (w:World) (hf:y.fits) (h0:0<=left) (h1:left<=1048576):
  Calls Tryz.prog 70 #[.agg #[.slice sa y.ns sc,.slice la y.nl lc,.slice fa y.nf fc,.slice oa y.no oc,.slice ma y.nm mc],.int .i64 left] w fun e w'=>∃r:Int,e=.returned (.int .i64 r)/\r<=left/\(0<=r->y.small left)/\Below w.heap.size w w':=by
 obtain⟨f0,f1,f2,f3,f4⟩:=hf
 go_enter Tryz.func70,Tryz.ntmps70
 go_wp2_with fail
 refine(szIntS sa y.ns sc left _ f0 (by omega) (by omega)).mono ?_
 rintro e w1 ⟨he,hw⟩
 have hw:=hw.symm
 subst hw
 obtain⟨l1,hl1⟩:∃l,l=szL left y.ns:=⟨_,rfl⟩
 rw[<-hl1] at he
 subst he
 by_cases hn1:l1<0
 ·
  go_wp2_with fail
  go_ret
  exact⟨-1,rfl,by omega,fun h=>by omega,bel1 _ _⟩
 have q1:=szL_pos (left:=left) (n:=y.ns) (by rw[<-hl1];exact hn1)
 rw[<-hl1] at q1
 have r1:l1<=left:=by omega
 have p1:=q1.1
 clear hl1 q1
 go_wp2_with fail
 refine(szTurnS la y.nl lc l1 _ f1 (by omega) (by omega)).mono ?_
 rintro e w2 ⟨he,hw⟩
 have hw:=hw.symm
 subst hw
 obtain⟨l2,hl2⟩:∃l,l=szL l1 y.nl:=⟨_,rfl⟩
 rw[<-hl2] at he
 subst he
 by_cases hn2:l2<0
 ·
  go_wp2_with fail
  go_ret
  exact⟨-1,rfl,by omega,fun h=>by omega,bel1 _ _⟩
 have q2:=szL_pos (left:=l1) (n:=y.nl) (by rw[<-hl2];exact hn2)
 rw[<-hl2] at q2
 have r2:l2<=l1:=by omega
 have p2:=q2.1
 clear hl2 q2
 go_wp2_with fail
 refine(szTurnS fa y.nf fc l2 _ f2 (by omega) (by omega)).mono ?_
 rintro e w3 ⟨he,hw⟩
 have hw:=hw.symm
 subst hw
 obtain⟨l3,hl3⟩:∃l,l=szL l2 y.nf:=⟨_,rfl⟩
 rw[<-hl3] at he
 subst he
 by_cases hn3:l3<0
 ·
  go_wp2_with fail
  go_ret
  exact⟨-1,rfl,by omega,fun h=>by omega,bel1 _ _⟩
 have q3:=szL_pos (left:=l2) (n:=y.nf) (by rw[<-hl3];exact hn3)
 rw[<-hl3] at q3
 have r3:l3<=l2:=by omega
 have p3:=q3.1
 clear hl3 q3
 go_wp2_with fail
 refine(szIntS oa y.no oc l3 _ f3 (by omega) (by omega)).mono ?_
 rintro e w4 ⟨he,hw⟩
 have hw:=hw.symm
 subst hw
 obtain⟨l4,hl4⟩:∃l,l=szL l3 y.no:=⟨_,rfl⟩
 rw[<-hl4] at he
 subst he
 by_cases hn4:l4<0
 ·
  go_wp2_with fail
  go_ret
  exact⟨-1,rfl,by omega,fun h=>by omega,bel1 _ _⟩
 have q4:=szL_pos (left:=l3) (n:=y.no) (by rw[<-hl4];exact hn4)
 rw[<-hl4] at q4
 have r4:l4<=l3:=by omega
 have p4:=q4.1
 clear hl4 q4
 go_wp2_with fail
 refine(szIntS ma y.nm mc l4 _ f4 (by omega) (by omega)).mono ?_
 rintro e w5 ⟨he,hw⟩
 have hw:=hw.symm
 subst hw
 obtain⟨l5,hl5⟩:∃l,l=szL l4 y.nm:=⟨_,rfl⟩
 rw[<-hl5] at he
 subst he
 by_cases hn5:l5<0
 ·
  go_wp2_with fail
  go_ret
  exact⟨-1,rfl,by omega,fun h=>by omega,bel1 _ _⟩
 have q5:=szL_pos (left:=l4) (n:=y.nm) (by rw[<-hl5];exact hn5)
 rw[<-hl5] at q5
 have r5:l5<=l4:=by omega
 have p5:=q5.1
 clear hl5 q5
 go_wp2_with fail
 go_ret
 exact⟨l5,rfl,by omega,fun _=>⟨by omega,by omega,by omega,by omega,by omega⟩,bel1 _ _⟩
set_option maxHeartbeats 1000000 in
theorem szWayS (a:Option Addr) (n cap:Nat) (Y:Nat->Wy) (left:Int) (w:World) (hn:n<=maxLen) (h0:0<=left) (h1:left<=1048576)
  (hJ:WsAt 0 w a n Y) (hs:∀i,i<n->(Y i).fits):
  Calls Tryz.prog 25 #[.slice a n cap,.int .i64 left] w fun e w'=>
   ∃r:Int,e=.returned (.int .i64 r)/\r<=left/\(0<=r->(n:Int)<=left/\∀i,i<n->(Y i).small left)/\Below w.heap.size w w':=by
 unfold maxLen at hn
 by_cases h:left<(n:Int)
 ·
  go_enter Tryz.func25,Tryz.ntmps25
  go_wp2
  go_ret
  exact⟨-1,rfl,by omega,by omega,Below.refl _ _⟩
 ·
  go_enter Tryz.func25,Tryz.ntmps25
  go_wp2_with fail
  go_loopw [1,5] (fun l i wr=>∃(k:Nat) (lv:Int),k<=n/\i=.int .i64 k/\l=.int .i64 lv/\0<=lv/\lv<=left/\Hid (∀i,i<k->(Y i).small left)/\Below w.heap.size w wr)
   (fun _ i _=>n-(intOf i).toNat)
  case atStart=>exact⟨0,left-n,Nat.zero_le _,rfl,rfl,by omega,by omega,fun i hi=>absurd hi (Nat.not_lt_zero _),Below.refl _ _⟩
  case round=>
   obtain⟨k,lv,hk,rfl,rfl,hl0,hl1,Hall,hbel⟩:=hrel
   by_cases hlt:k<n
   ·
    obtain⟨b,off,rfl,_,hb,hc⟩:=(hJ.mono nr hbel nr) (by omega)
    obtain⟨sa,sc,la,lc,fa,fc,oa,oc,ma,mc,c0,c1,c2,c3,c4,_⟩:=hc k hlt
    have hsz:=hs k hlt
    clear hc
    go_wp2_with fail
    refine(szWay (Y k) sa la fa oa ma sc lc fc oc mc lv _ hsz hl0 (by omega)).mono ?_
    rintro e w1 ⟨r,rfl,hr1,hr2,hb1⟩
    have hb2:Below w.heap.size w w1:=hbel.trans (hb1.mono hbel.size)
    by_cases hneg:r<0
    ·
     go_wp2
     go_ret
     exact⟨-1,rfl,by omega,by omega,hb2⟩
    ·
     obtain⟨s1,s2,s3,s4,s5⟩:=hr2 (by omega)
     have Hr:Hid (∀i,i<k+1->(Y i).small left):=by
      intro i hi
      by_cases e:i=k
      ·
       subst e
       exact⟨by omega,by omega,by omega,by omega,by omega⟩
      ·
       exact Hall.out i (by omega)
     clear hr2 Hall
     go_wp2
     go_roundw
     case rel=>exact⟨k+1,r,by omega,by go_num,rfl,by omega,by omega,Hr,hb2⟩
     case measure=>simp[intOf];omega
   ·
    obtain rfl:k=n:=by omega
    go_wp2
    go_ret
    exact⟨lv,rfl,by omega,fun _=>⟨by omega,Hall.out⟩,hbel⟩
set_option maxHeartbeats 1000000 in
theorem szBoolSS (a:Option Addr) (n cap:Nat) (K:Nat->Nat) (T:Nat->Nat->Bool) (left:Int) (w:World) (hn:n<=maxLen) (h0:0<=left) (h1:left<=1048576)
  (hJ:BsAt 0 w a n K T) (hs:∀i,i<n->K i<=maxLen):
  Calls Tryz.prog 26 #[.slice a n cap,.int .i64 left] w fun e w'=>
   ∃r:Int,e=.returned (.int .i64 r)/\r<=left/\(0<=r->(n:Int)<=left/\∀i,i<n->(K i:Int)<=left)/\Below w.heap.size w w':=by
 unfold maxLen at hn
 by_cases h:left<(n:Int)
 ·
  go_enter Tryz.func26,Tryz.ntmps26
  go_wp2
  go_ret
  exact⟨-1,rfl,by omega,by omega,Below.refl _ _⟩
 ·
  go_enter Tryz.func26,Tryz.ntmps26
  go_wp2_with fail
  go_loopw [1,5] (fun l i wr=>∃(k:Nat) (lv:Int),k<=n/\i=.int .i64 k/\l=.int .i64 lv/\0<=lv/\lv<=left/\Hid (∀i,i<k->(K i:Int)<=left)/\Below w.heap.size w wr)
   (fun _ i _=>n-(intOf i).toNat)
  case atStart=>exact⟨0,left-n,Nat.zero_le _,rfl,rfl,by omega,by omega,fun i hi=>absurd hi (Nat.not_lt_zero _),Below.refl _ _⟩
  case round=>
   obtain⟨k,lv,hk,rfl,rfl,hl0,hl1,Hall,hbel⟩:=hrel
   by_cases hlt:k<n
   ·
    obtain⟨b,off,rfl,_,hb,hc⟩:=(hJ.mono nr hbel nr) (by omega)
    obtain⟨ra,rc,c0,_⟩:=hc k hlt
    have hsz:=hs k hlt
    clear hc
    go_wp2_with fail
    refine(szBoolS ra (K k) rc lv _ hsz hl0 (by omega)).mono ?_
    rintro e w1 ⟨he,hw⟩
    have hw:=hw.symm
    subst hw
    obtain⟨r,hr⟩:∃l,l=szL lv (K k):=⟨_,rfl⟩
    rw[<-hr] at he
    subst he
    by_cases hneg:r<0
    ·
     go_wp2
     go_ret
     exact⟨-1,rfl,by omega,by omega,hbel⟩
    ·
     have q1:=szL_pos (left:=lv) (n:=K k) (by rw[<-hr];exact hneg)
     rw[<-hr] at q1
     have Hr:Hid (∀i,i<k+1->(K i:Int)<=left):=by
      intro i hi
      by_cases e:i=k
      ·
       subst e
       omega
      ·
       exact Hall.out i (by omega)
     have r1:r<=lv:=by omega
     clear Hall hr q1
     go_wp2
     go_roundw
     case rel=>exact⟨k+1,r,by omega,by go_num,rfl,by omega,by omega,Hr,hbel⟩
     case measure=>simp[intOf];omega
   ·
    obtain rfl:k=n:=by omega
    go_wp2
    go_ret
    exact⟨lv,rfl,by omega,fun _=>⟨by omega,Hall.out⟩,hbel⟩
structure Pl where
 sec:Int
 nw:Nat
 W:Nat->Int
 ny:Nat
 Y:Nat->Wy
 nb:Nat
 K:Nat->Nat
 T:Nat->Nat->Bool
 hold:Int
def Pl.fits (p:Pl):Prop:=p.nw<=maxLen/\p.ny<=maxLen/\(∀i,i<p.ny->(p.Y i).fits)/\p.nb<=maxLen/\∀i,i<p.nb->p.K i<=maxLen
def Pl.small (p:Pl):Prop:=p.nw<=1048576/\p.ny<=1048576/\(∀i,i<p.ny->(p.Y i).small 1048576)/\p.nb<=1048576/\∀i,i<p.nb->p.K i<=1048576
abbrev vWy (y:Wy) (a:Option Addr) (m:Nat) (b:Option Addr) (n:Nat) (c:Option Addr) (o:Nat) (d:Option Addr) (q:Nat) (e:Option Addr) (r:Nat):Array Value:=#[.slice a y.ns m,.slice b y.nl n,.slice c y.nf o,.slice d y.no q,.slice e y.nm r]
abbrev vWo (y:Wy) (a b c d e:Nat):Array Value:=#[.slice (some (ad a 0)) y.ns y.ns,.slice (some (ad b 0)) y.nl y.nl,.slice (some (ad c 0)) y.nf y.nf,.slice (some (ad d 0)) y.no y.no,.slice (some (ad e 0)) y.nm y.nm]
abbrev vVw (y:Wy) (a b c d e:Nat) (f:Option Addr) (m n:Nat) (g:Option Addr) (q r:Nat):Array Value:=#[.slice (some (ad a 0)) y.ns y.ns,.slice (some (ad b 0)) y.nl y.nl,.slice (some (ad c 0)) y.nf y.nf,.slice (some (ad d 0)) y.no y.no,.slice (some (ad e 0)) y.nm y.nm,.slice f m n,.slice g q r]
abbrev vPl (p:Pl) (a:Option Addr) (m:Nat) (b:Option Addr) (n:Nat) (c:Option Addr) (o:Nat):Array Value:=#[.int .i64 p.sec,.slice a p.nw m,.slice b p.ny n,.slice c p.nb o,.int .i64 p.hold]
abbrev vPo (p:Pl) (a b c:Nat):Array Value:=#[.int .i64 p.sec,.slice (some (ad a 0)) p.nw p.nw,.slice (some (ad b 0)) p.ny p.ny,.slice (some (ad c 0)) p.nb p.nb,.int .i64 p.hold]
abbrev vDk (p:Pl) (a b c:Nat) (d:Option Addr) (m n:Nat) (e:Option Addr) (q r:Nat) (f:Option Addr) (s:Nat):Array Value:=#[.int .i64 p.sec,.slice (some (ad a 0)) p.nw p.nw,.slice (some (ad b 0)) p.ny p.ny,.slice (some (ad c 0)) p.nb p.nb,.int .i64 p.hold,.slice d m n,.slice e q r,.slice f p.ny s]
structure PlIn (C:Nat) (w:World) (p:Pl) (wa ya ba:Option Addr):Prop where
 sw:VsAt 1 C w wa p.nw (oneF p.W)
 wy:WsAt C w ya p.ny p.Y
 br:BsAt C w ba p.nb p.K p.T
theorem PlIn.mono {C C':Nat}{w w':World}{p:Pl}{wa ya ba:Option Addr}{B:Nat}(h:PlIn C w p wa ya ba) (hC:C'<=C) (hb:Below B w w') (hB:w.heap.size<=B):PlIn C' w' p wa ya ba:=⟨h.sw.mono hC hb hB,h.wy.mono hC hb hB,h.br.mono hC hb hB⟩
set_option maxHeartbeats 1000000 in
theorem szPlan (p:Pl) (wa ya ba:Option Addr) (wc yc bc:Nat) (left:Int) (w:World) (hf:p.fits) (h0:0<=left) (h1:left<=1048576) (hP:PlIn 0 w p wa ya ba):
  Calls Tryz.prog 6 #[.agg #[.int .i64 p.sec,.slice wa p.nw wc,.slice ya p.ny yc,.slice ba p.nb bc,.int .i64 p.hold],.int .i64 left] w fun e w'=>
   ∃r:Int,e=.returned (.int .i64 r)/\r<=left/\(0<=r->p.small)/\Below w.heap.size w w':=by
 obtain⟨f1,f2,f3,f4,f5⟩:=hf
 have F3:Hid (∀i,i<p.ny->(p.Y i).fits):=f3
 have F5:Hid (∀i,i<p.nb->p.K i<=maxLen):=f5
 clear f3 f5
 go_enter Tryz.func6,Tryz.ntmps6
 go_wp2_with fail
 have B0:=bel1 w (.cells #[.int .i64 p.sec,.slice wa p.nw wc,.slice ya p.ny yc,.slice ba p.nb bc,.int .i64 p.hold] 26)
 refine(szIntS wa p.nw wc left _ f1 h0 h1).mono ?_
 rintro e w1 ⟨he,hw⟩
 have hw:=hw.symm
 subst hw
 obtain⟨l1,hl1⟩:∃l,l=szL left p.nw:=⟨_,rfl⟩
 rw[<-hl1] at he
 subst he
 by_cases hn1:l1<0
 ·
  go_wp2_with fail
  go_ret
  exact⟨-1,rfl,by omega,fun h=>by omega,bel1 _ _⟩
 have q1:=szL_pos (left:=left) (n:=p.nw) (by rw[<-hl1];exact hn1)
 rw[<-hl1] at q1
 have r1:l1<=left:=by omega
 have p1:=q1.1
 clear hl1 q1
 go_wp2_with fail
 refine(szWayS ya p.ny yc p.Y l1 _ f2 (by omega) (by omega) (hP.wy.mono nr B0 nr) F3.out).mono ?_
 rintro e w2 ⟨l2,rfl,g1,g2,hb2⟩
 have G2:Hid (0<=l2->(p.ny:Int)<=l1/\∀i,i<p.ny->(p.Y i).small l1):=g2
 have B2:=B0.trans (hb2.mono B0.size)
 have a3:w2.cell? (ad w.heap.size 3)=some (.slice ba p.nb bc):=cell_keep hb2 (by simp) (by simp)
 clear g2 hb2 B0
 by_cases hn2:l2<0
 ·
  go_wp2_with fail
  go_ret
  exact⟨-1,rfl,by omega,fun h=>by omega,B2⟩
 go_wp2_with fail
 refine(szBoolSS ba p.nb bc p.K p.T l2 _ f4 (by omega) (by omega) (hP.br.mono nr B2 nr) F5.out).mono ?_
 rintro e w3 ⟨l3,rfl,g3,g4,hb3⟩
 have G4:Hid (0<=l3->(p.nb:Int)<=l2/\∀i,i<p.nb->(p.K i:Int)<=l2):=g4
 have B3:=B2.trans (hb3.mono B2.size)
 clear g4 hb3 B2 a3
 by_cases hn3:l3<0
 ·
  go_wp2_with fail
  go_ret
  exact⟨-1,rfl,by omega,fun h=>by omega,B3⟩
 go_wp2_with fail
 go_ret
 refine⟨l3,rfl,by omega,fun h=>?_,B3⟩
 obtain⟨u1,u2⟩:=G2.out (by omega)
 obtain⟨u3,u4⟩:=G4.out h
 refine⟨by omega,by omega,fun i hi=>?_,by omega,fun i hi=>by have :=u4 i hi;omega⟩
 obtain⟨s1,s2,s3,s4,s5⟩:=u2 i hi
 exact⟨by omega,by omega,by omega,by omega,by omega⟩
set_option maxRecDepth 100000 in
set_option maxHeartbeats 4000000 in
theorem eqWay (y:Wy) (sa la fa oa ma sa' la' fa' oa' ma':Option Addr) (sc lc fc oc mc sc' lc' fc' oc' mc':Nat) (w:World) (hs:y.small 1048576) (h:WyIn 0 w y sa la fa oa ma) (h':WyIn 0 w y sa' la' fa' oa' ma'):
  Calls Tryz.prog 85 #[.agg #[.slice sa y.ns sc,.slice la y.nl lc,.slice fa y.nf fc,.slice oa y.no oc,.slice ma y.nm mc],.agg #[.slice sa' y.ns sc',.slice la' y.nl lc',.slice fa' y.nf fc',.slice oa' y.no oc',.slice ma' y.nm mc']] w fun e w'=>e=.returned (.bool true)/\Below w.heap.size w w':=by
 obtain⟨s1,s2,s3,s4,s5⟩:=hs
 have H:Hid (WyIn 0 w y sa la fa oa ma/\WyIn 0 w y sa' la' fa' oa' ma'):=⟨h,h'⟩
 clear h h'
 go_enter Tryz.func85,Tryz.ntmps85
 go_wp2_with fail
 have B0:=bel2 w (.cells (vWy y sa sc la lc fa fc oa oc ma mc) 112) (.cells (vWy y sa' sc' la' lc' fa' fc' oa' oc' ma' mc') 112)
 have A1:=(Box.new w 112 (vWy y sa sc la lc fa fc oa oc ma mc)).alloc (.cells (vWy y sa' sc' la' lc' fa' fc' oa' oc' ma' mc') 112)
 have A2:=Box.new (w.alloc (.cells (vWy y sa sc la lc fa fc oa oc ma mc) 112)) 112 (vWy y sa' sc' la' lc' fa' fc' oa' oc' ma' mc')
 have z1:(w.alloc (.cells (vWy y sa sc la lc fa fc oa oc ma mc) 112)).heap.size=w.heap.size+1:=by simp
 rw[z1] at A2
 have HB0:Hid (Below w.heap.size w ((w.alloc (.cells (vWy y sa sc la lc fa fc oa oc ma mc) 112)).alloc (.cells (vWy y sa' sc' la' lc' fa' fc' oa' oc' ma' mc') 112))/\Box _ w.heap.size 112 _/\Box _ (w.heap.size+1) 112 _):=⟨B0,A1,A2⟩
 clear B0 A1 A2 z1
 refine(eqIntS sa sa' y.ns sc sc' (fun i _=>y.S i) _ (by omega) (H.out.1.s.mono nr HB0.out.1 nr) (H.out.2.s.mono nr HB0.out.1 nr)).mono ?_
 rintro e w1 ⟨rfl,hb1⟩
 have HB1:Hid (Below w.heap.size w w1/\Box w1 w.heap.size 112 (vWy y sa sc la lc fa fc oa oc ma mc)/\Box w1 (w.heap.size+1) 112 (vWy y sa' sc' la' lc' fa' fc' oa' oc' ma' mc')):=⟨HB0.out.1.trans (hb1.mono HB0.out.1.size),HB0.out.2.1.mono hb1 nr,HB0.out.2.2.mono hb1 nr⟩
 clear hb1
 have xa1:=HB1.out.2.1.cel 1
 have xb1:=HB1.out.2.2.cel 1
 clear HB0
 go_wp2_with fail
 clear xa1 xb1
 refine(eqTurnS la la' y.nl lc lc' y.L _ (by omega) (H.out.1.l.mono nr HB1.out.1 nr) (H.out.2.l.mono nr HB1.out.1 nr)).mono ?_
 rintro e w2 ⟨rfl,hb2⟩
 have HB2:Hid (Below w.heap.size w w2/\Box w2 w.heap.size 112 (vWy y sa sc la lc fa fc oa oc ma mc)/\Box w2 (w.heap.size+1) 112 (vWy y sa' sc' la' lc' fa' fc' oa' oc' ma' mc')):=⟨HB1.out.1.trans (hb2.mono HB1.out.1.size),HB1.out.2.1.mono hb2 nr,HB1.out.2.2.mono hb2 nr⟩
 clear hb2
 have xa2:=HB2.out.2.1.cel 2
 have xb2:=HB2.out.2.2.cel 2
 clear HB1
 go_wp2_with fail
 clear xa2 xb2
 refine(eqTurnS fa fa' y.nf fc fc' y.F _ (by omega) (H.out.1.f.mono nr HB2.out.1 nr) (H.out.2.f.mono nr HB2.out.1 nr)).mono ?_
 rintro e w3 ⟨rfl,hb3⟩
 have HB3:Hid (Below w.heap.size w w3/\Box w3 w.heap.size 112 (vWy y sa sc la lc fa fc oa oc ma mc)/\Box w3 (w.heap.size+1) 112 (vWy y sa' sc' la' lc' fa' fc' oa' oc' ma' mc')):=⟨HB2.out.1.trans (hb3.mono HB2.out.1.size),HB2.out.2.1.mono hb3 nr,HB2.out.2.2.mono hb3 nr⟩
 clear hb3
 have xa3:=HB3.out.2.1.cel 3
 have xb3:=HB3.out.2.2.cel 3
 clear HB2
 go_wp2_with fail
 clear xa3 xb3
 refine(eqIntS oa oa' y.no oc oc' (fun i _=>y.O i) _ (by omega) (H.out.1.o.mono nr HB3.out.1 nr) (H.out.2.o.mono nr HB3.out.1 nr)).mono ?_
 rintro e w4 ⟨rfl,hb4⟩
 have HB4:Hid (Below w.heap.size w w4/\Box w4 w.heap.size 112 (vWy y sa sc la lc fa fc oa oc ma mc)/\Box w4 (w.heap.size+1) 112 (vWy y sa' sc' la' lc' fa' fc' oa' oc' ma' mc')):=⟨HB3.out.1.trans (hb4.mono HB3.out.1.size),HB3.out.2.1.mono hb4 nr,HB3.out.2.2.mono hb4 nr⟩
 clear hb4
 have xa4:=HB4.out.2.1.cel 4
 have xb4:=HB4.out.2.2.cel 4
 clear HB3
 go_wp2_with fail
 clear xa4 xb4
 refine(eqIntS ma ma' y.nm mc mc' (fun i _=>y.M i) _ (by omega) (H.out.1.m.mono nr HB4.out.1 nr) (H.out.2.m.mono nr HB4.out.1 nr)).mono ?_
 rintro e w5 ⟨rfl,hb5⟩
 have HB5:Hid (Below w.heap.size w w5/\Box w5 w.heap.size 112 (vWy y sa sc la lc fa fc oa oc ma mc)/\Box w5 (w.heap.size+1) 112 (vWy y sa' sc' la' lc' fa' fc' oa' oc' ma' mc')):=⟨HB4.out.1.trans (hb5.mono HB4.out.1.size),HB4.out.2.1.mono hb5 nr,HB4.out.2.2.mono hb5 nr⟩
 clear hb5
 go_wp2_with fail
 go_ret
 exact⟨rfl,HB5.out.1⟩
set_option maxRecDepth 100000 in
set_option maxHeartbeats 4000000 in
theorem eqWayS (a a':Option Addr) (n cap cap':Nat) (Y:Nat->Wy) (w:World) (hn:n<=1048576) (hL:∀i,i<n->(Y i).small 1048576) (hR:WsAt 0 w a n Y) (hR':WsAt 0 w a' n Y):
  Calls Tryz.prog 44 #[.slice a n cap,.slice a' n cap'] w fun e w'=>e=.returned (.bool true)/\Below w.heap.size w w':=by
 have HL:Hid (∀i,i<n->(Y i).small 1048576):=hL
 clear hL
 go_enter Tryz.func44,Tryz.ntmps44
 go_wp2_with fail
 go_loopw [5] (fun i wr=>∃(k:Nat),k<=n/\i=.int .i64 k/\Below w.heap.size w wr) (fun i _=>n-(intOf i).toNat)
 case atStart=>exact⟨0,Nat.zero_le _,rfl,Below.refl _ _⟩
 case round=>
  obtain⟨k,hk,rfl,hbel⟩:=hrel
  by_cases hlt:k<n
  ·
   obtain⟨b,off,rfl,_,hb,hc⟩:=(hR.mono nr hbel.drew nr) (by omega)
   obtain⟨b',off',rfl,_,hb',hc'⟩:=(hR'.mono nr hbel.drew nr) (by omega)
   obtain⟨sa,sc,la,lc,fa,fc,oa,oc,ma,mc,c0,c1,c2,c3,c4,g⟩:=hc k hlt
   obtain⟨sa',sc',la',lc',fa',fc',oa',oc',ma',mc',d0,d1,d2,d3,d4,g'⟩:=hc' k hlt
   have hlt':(k:Int)<(n:Int):=by omega
   have hk0:(0:Int)<=(k:Int):=by omega
   have G:Hid (WyIn 0 wr.drew (Y k) sa la fa oa ma):=g
   have G':Hid (WyIn 0 wr.drew (Y k) sa' la' fa' oa' ma'):=g'
   have c00:wr.cell? _=_:=c0
   have d00:wr.cell? _=_:=d0
   have c10:wr.cell? _=_:=c1
   have d10:wr.cell? _=_:=d1
   have c20:wr.cell? _=_:=c2
   have d20:wr.cell? _=_:=d2
   have c30:wr.cell? _=_:=c3
   have d30:wr.cell? _=_:=d3
   have c40:wr.cell? _=_:=c4
   have d40:wr.cell? _=_:=d4
   clear hc hc' g g' c0 c1 c2 c3 c4 d0 d1 d2 d3 d4
   go_wp2_with fail
   go_region_with(go_at_call 85;refine(eqWay (Y k) sa la fa oa ma sa' la' fa' oa' ma' sc lc fc oc mc sc' lc' fc' oc' mc' _ (HL.out k hlt) G.out G'.out).mono ?_;rintro e w1 ⟨rfl,hb1⟩)
   all_goals
    go_wp2_with fail
    go_roundw
    case rel=>exact⟨k+1,by omega,by go_num,hbel.drew.trans (hb1.mono hbel.drew.size)⟩
    case measure=>simp[intOf];omega
  ·
   go_wp2
   go_ret
   exact⟨rfl,hbel⟩
set_option maxRecDepth 100000 in
set_option maxHeartbeats 2000000 in
theorem eqBoolSS (a a':Option Addr) (n cap cap':Nat) (K:Nat->Nat) (T:Nat->Nat->Bool) (w:World) (hn:n<=1048576) (hL:∀i,i<n->K i<=1048576) (hR:BsAt 0 w a n K T) (hR':BsAt 0 w a' n K T):
  Calls Tryz.prog 45 #[.slice a n cap,.slice a' n cap'] w fun e w'=>e=.returned (.bool true)/\Below w.heap.size w w':=by
 have HL:Hid (∀i,i<n->K i<=1048576):=hL
 clear hL
 go_enter Tryz.func45,Tryz.ntmps45
 go_wp2_with fail
 go_loopw [5] (fun i wr=>∃(k:Nat),k<=n/\i=.int .i64 k/\Below w.heap.size w wr) (fun i _=>n-(intOf i).toNat)
 case atStart=>exact⟨0,Nat.zero_le _,rfl,Below.refl _ _⟩
 case round=>
  obtain⟨k,hk,rfl,hbel⟩:=hrel
  by_cases hlt:k<n
  ·
   obtain⟨b,off,rfl,_,hb,hc⟩:=(hR.mono nr hbel.drew nr) (by omega)
   obtain⟨b',off',rfl,_,hb',hc'⟩:=(hR'.mono nr hbel.drew nr) (by omega)
   obtain⟨ra,rc,c0,g⟩:=hc k hlt
   obtain⟨ra',rc',d0,g'⟩:=hc' k hlt
   have hlt':(k:Int)<(n:Int):=by omega
   have hk0:(0:Int)<=(k:Int):=by omega
   have G:Hid (VsAt 1 0 wr.drew ra (K k) (boolF (T k))):=g
   have G':Hid (VsAt 1 0 wr.drew ra' (K k) (boolF (T k))):=g'
   have c00:wr.cell? _=_:=c0
   have d00:wr.cell? _=_:=d0
   clear hc hc' g g' c0 d0
   go_wp2_with fail
   go_region_with(go_at_call 46;refine(eqBoolS ra ra' (K k) rc rc' (T k) _ (HL.out k hlt) G.out G'.out).mono ?_;rintro e w1 ⟨rfl,hb1⟩)
   all_goals
    go_wp2_with fail
    go_roundw
    case rel=>exact⟨k+1,by omega,by go_num,hbel.drew.trans (hb1.mono hbel.drew.size)⟩
    case measure=>simp[intOf];omega
  ·
   go_wp2
   go_ret
   exact⟨rfl,hbel⟩
set_option maxRecDepth 100000 in
set_option maxHeartbeats 4000000 in
theorem eqPlan (p:Pl) (wa ya ba wa' ya' ba':Option Addr) (wc yc bc wc' yc' bc':Nat) (w:World) (hs:p.small) (h:PlIn 0 w p wa ya ba) (h':PlIn 0 w p wa' ya' ba'):
  Calls Tryz.prog 12 #[.agg #[.int .i64 p.sec,.slice wa p.nw wc,.slice ya p.ny yc,.slice ba p.nb bc,.int .i64 p.hold],.agg #[.int .i64 p.sec,.slice wa' p.nw wc',.slice ya' p.ny yc',.slice ba' p.nb bc',.int .i64 p.hold]] w fun e w'=>e=.returned (.bool true)/\Below w.heap.size w w':=by
 obtain⟨s1,s2,s3,s4,s5⟩:=hs
 have HS:Hid ((∀i,i<p.ny->(p.Y i).small 1048576)/\∀i,i<p.nb->p.K i<=1048576):=⟨s3,s5⟩
 have H:Hid (PlIn 0 w p wa ya ba/\PlIn 0 w p wa' ya' ba'):=⟨h,h'⟩
 clear h h' s3 s5
 go_enter Tryz.func12,Tryz.ntmps12
 go_wp2_with fail
 have B0:=bel2 w (.cells (vPl p wa wc ya yc ba bc) 37) (.cells (vPl p wa' wc' ya' yc' ba' bc') 37)
 have A1:=(Box.new w 37 (vPl p wa wc ya yc ba bc)).alloc (.cells (vPl p wa' wc' ya' yc' ba' bc') 37)
 have A2:=Box.new (w.alloc (.cells (vPl p wa wc ya yc ba bc) 37)) 37 (vPl p wa' wc' ya' yc' ba' bc')
 have z1:(w.alloc (.cells (vPl p wa wc ya yc ba bc) 37)).heap.size=w.heap.size+1:=by simp
 rw[z1] at A2
 have HB0:Hid (Below w.heap.size w ((w.alloc (.cells (vPl p wa wc ya yc ba bc) 37)).alloc (.cells (vPl p wa' wc' ya' yc' ba' bc') 37))/\Box _ w.heap.size 37 _/\Box _ (w.heap.size+1) 37 _):=⟨B0,A1,A2⟩
 clear B0 A1 A2 z1
 refine(eqIntS wa wa' p.nw wc wc' (fun i _=>p.W i) _ s1 (H.out.1.sw.mono nr HB0.out.1 nr) (H.out.2.sw.mono nr HB0.out.1 nr)).mono ?_
 rintro e w1 ⟨rfl,hb1⟩
 have HB1:Hid (Below w.heap.size w w1/\Box w1 w.heap.size 37 (vPl p wa wc ya yc ba bc)/\Box w1 (w.heap.size+1) 37 (vPl p wa' wc' ya' yc' ba' bc')):=⟨HB0.out.1.trans (hb1.mono HB0.out.1.size),HB0.out.2.1.mono hb1 nr,HB0.out.2.2.mono hb1 nr⟩
 clear hb1 HB0
 have xa1:=HB1.out.2.1.cel 2
 have xb1:=HB1.out.2.2.cel 2
 go_wp2_with fail
 clear xa1 xb1
 refine(eqWayS ya ya' p.ny yc yc' p.Y _ s2 HS.out.1 (H.out.1.wy.mono nr HB1.out.1 nr) (H.out.2.wy.mono nr HB1.out.1 nr)).mono ?_
 rintro e w2 ⟨rfl,hb2⟩
 have HB2:Hid (Below w.heap.size w w2/\Box w2 w.heap.size 37 (vPl p wa wc ya yc ba bc)/\Box w2 (w.heap.size+1) 37 (vPl p wa' wc' ya' yc' ba' bc')):=⟨HB1.out.1.trans (hb2.mono HB1.out.1.size),HB1.out.2.1.mono hb2 nr,HB1.out.2.2.mono hb2 nr⟩
 clear hb2 HB1
 have xa2:=HB2.out.2.1.cel 3
 have xb2:=HB2.out.2.2.cel 3
 go_wp2_with fail
 clear xa2 xb2
 refine(eqBoolSS ba ba' p.nb bc bc' p.K p.T _ s4 HS.out.2 (H.out.1.br.mono nr HB2.out.1 nr) (H.out.2.br.mono nr HB2.out.1 nr)).mono ?_
 rintro e w3 ⟨rfl,hb3⟩
 have HB3:Hid (Below w.heap.size w w3/\Box w3 w.heap.size 37 (vPl p wa wc ya yc ba bc)/\Box w3 (w.heap.size+1) 37 (vPl p wa' wc' ya' yc' ba' bc')):=⟨HB2.out.1.trans (hb3.mono HB2.out.1.size),HB2.out.2.1.mono hb3 nr,HB2.out.2.2.mono hb3 nr⟩
 clear hb3 HB2
 have xa3:=HB3.out.2.1.cel 4
 have xb3:=HB3.out.2.2.cel 4
 go_wp2_with fail
 clear xa3 xb3
 go_ret
 exact⟨rfl,HB3.out.1⟩
end Go.Proofs.YtkeilejbelblcaaGreatDoor
