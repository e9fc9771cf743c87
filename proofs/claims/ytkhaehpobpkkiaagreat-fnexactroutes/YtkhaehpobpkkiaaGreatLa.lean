import Derived.Deep.RegionWith
import Derived.Test.YtkhaehpobpkkiaaGreatBa
namespace Go.Proofs.YtkhaehpobpkkiaaGreat
open Go.RowKit
def NsAt (c C:Nat)(w:World)(a:Option Addr)(n:Nat)(F:Nat→Nat→Int):Prop:=
 0<n→∃ b off,a=some ⟨b,off,none⟩∧C≤b∧b<w.heap.size∧∀ i,i<n→∀ j,j<c→w.cell? ⟨b,off+i*c+j,none⟩=some (.int .i64 (F i j))
theorem NsAt.keep {c C C':Nat}{w w':World}{a:Option Addr}{n:Nat}{F:Nat→Nat→Int}(h:NsAt c C w a n F)(hC:C'≤C)(hs:w.heap.size≤w'.heap.size)
 (hk:∀ b,C≤b→b<w.heap.size→w'.heap[b]?=w.heap[b]?):NsAt c C' w' a n F:=by
 intro h0
 obtain ⟨b,off,ha,hge,hlt,hc⟩:=h h0
 exact ⟨b,off,ha,by omega,by omega,fun i hi j hj=>(World.cell?_of_block (w:=w) (hk b hge hlt)).trans (hc i hi j hj)⟩
theorem NsAt.mono {c C C':Nat}{w w':World}{a:Option Addr}{n:Nat}{F:Nat→Nat→Int}{B:Nat}(h:NsAt c C w a n F)(hC:C'≤C)(hb:Below B w w')(hB:w.heap.size≤B):NsAt c C' w' a n F:=
 h.keep hC hb.size fun b _ hlt=>hb.block b (by omega)
structure Rt where
 fr:Int
 to:Int
 ns:Nat
 S:Nat→Nat→Int
 nl:Nat
 L:Nat→Nat→Int
 nx:Nat
 X:Nat→Nat→Int
 np:Nat
 Q:Nat→Nat→Int
 no:Nat
 O:Nat→Nat→Int
 nf:Nat
 F:Nat→Nat→Int
def Rt.small (r:Rt):Prop:=r.ns≤1048576∧r.nl≤1048576∧r.nx≤1048576∧r.np≤1048576∧r.no≤1048576∧r.nf≤1048576
structure RtIn (C:Nat)(w:World)(r:Rt)(sa la xa qa oa fa:Option Addr):Prop where
 s:NsAt 2 C w sa r.ns r.S
 l:NsAt 2 C w la r.nl r.L
 x:NsAt 1 C w xa r.nx r.X
 q:NsAt 3 C w qa r.np r.Q
 o:NsAt 3 C w oa r.no r.O
 f:NsAt 4 C w fa r.nf r.F
theorem RtIn.keep {C C':Nat}{w w':World}{r:Rt}{sa la xa qa oa fa:Option Addr}(h:RtIn C w r sa la xa qa oa fa)(hC:C'≤C)(hs:w.heap.size≤w'.heap.size)
 (hk:∀ b,C≤b→b<w.heap.size→w'.heap[b]?=w.heap[b]?):RtIn C' w' r sa la xa qa oa fa:=
 ⟨h.s.keep hC hs hk,h.l.keep hC hs hk,h.x.keep hC hs hk,h.q.keep hC hs hk,h.o.keep hC hs hk,h.f.keep hC hs hk⟩
theorem RtIn.mono {C C':Nat}{w w':World}{r:Rt}{sa la xa qa oa fa:Option Addr}{B:Nat}(h:RtIn C w r sa la xa qa oa fa)(hC:C'≤C)(hb:Below B w w')(hB:w.heap.size≤B):RtIn C' w' r sa la xa qa oa fa:=
 h.keep hC hb.size fun b _ hlt=>hb.block b (by omega)
def RsAt (C:Nat)(w:World)(a:Option Addr)(n:Nat)(R:Nat→Rt):Prop:=
 0<n→∃ b off,a=some ⟨b,off,none⟩∧C≤b∧b<w.heap.size∧∀ i,i<n→∃ sa sc la lc xa xc qa qc oa oc fa fc,
  w.cell? ⟨b,off+i*8,none⟩=some (.int .i64 (R i).fr)∧w.cell? ⟨b,off+i*8+1,none⟩=some (.int .i64 (R i).to)∧
  w.cell? ⟨b,off+i*8+2,none⟩=some (.slice sa (R i).ns sc)∧w.cell? ⟨b,off+i*8+3,none⟩=some (.slice la (R i).nl lc)∧
  w.cell? ⟨b,off+i*8+4,none⟩=some (.slice xa (R i).nx xc)∧w.cell? ⟨b,off+i*8+5,none⟩=some (.slice qa (R i).np qc)∧
  w.cell? ⟨b,off+i*8+6,none⟩=some (.slice oa (R i).no oc)∧w.cell? ⟨b,off+i*8+7,none⟩=some (.slice fa (R i).nf fc)∧
  RtIn C w (R i) sa la xa qa oa fa
theorem RsAt.keep {C C':Nat}{w w':World}{a:Option Addr}{n:Nat}{R:Nat→Rt}(h:RsAt C w a n R)(hC:C'≤C)(hs:w.heap.size≤w'.heap.size)
 (hk:∀ b,C≤b→b<w.heap.size→w'.heap[b]?=w.heap[b]?):RsAt C' w' a n R:=by
 intro h0
 obtain ⟨b,off,ha,hge,hlt,hc⟩:=h h0
 refine ⟨b,off,ha,by omega,by omega,fun i hi=>?_⟩
 obtain ⟨sa,sc,la,lc,xa,xc,qa,qc,oa,oc,fa,fc,h1,h2,h3,h4,h5,h6,h7,h8,h9⟩:=hc i hi
 have e:=fun o=>World.cell?_of_block (w:=w) (w':=w') (a:=⟨b,o,none⟩) (hk b hge hlt)
 exact ⟨sa,sc,la,lc,xa,xc,qa,qc,oa,oc,fa,fc,(e _).trans h1,(e _).trans h2,(e _).trans h3,(e _).trans h4,(e _).trans h5,(e _).trans h6,(e _).trans h7,(e _).trans h8,h9.keep hC hs hk⟩
theorem RsAt.mono {C C':Nat}{w w':World}{a:Option Addr}{n:Nat}{R:Nat→Rt}{B:Nat}(h:RsAt C w a n R)(hC:C'≤C)(hb:Below B w w')(hB:w.heap.size≤B):RsAt C' w' a n R:=
 h.keep hC hb.size fun b _ hlt=>hb.block b (by omega)
theorem eqStep93 (a0 a1:Int)(w:World):
 Calls Tryz.prog 106 #[.agg #[.int .i64 a0,.int .i64 a1],.agg #[.int .i64 a0,.int .i64 a1]] w fun e w'=>e=.returned (.bool true)∧Below w.heap.size w w':=by
 go_enter Tryz.func106,Tryz.ntmps106
 go_wp2
 go_ret
 exact ⟨rfl,bel2 _ _ _⟩
theorem eqLie94 (a0 a1:Int)(w:World):
 Calls Tryz.prog 107 #[.agg #[.int .i64 a0,.int .i64 a1],.agg #[.int .i64 a0,.int .i64 a1]] w fun e w'=>e=.returned (.bool true)∧Below w.heap.size w w':=by
 go_enter Tryz.func107,Tryz.ntmps107
 go_wp2
 go_ret
 exact ⟨rfl,bel2 _ _ _⟩
theorem eqPart95 (a0 a1 a2:Int)(w:World):
 Calls Tryz.prog 108 #[.agg #[.int .i64 a0,.int .i64 a1,.int .i64 a2],.agg #[.int .i64 a0,.int .i64 a1,.int .i64 a2]] w fun e w'=>e=.returned (.bool true)∧Below w.heap.size w w':=by
 go_enter Tryz.func108,Tryz.ntmps108
 go_wp2
 go_ret
 exact ⟨rfl,bel2 _ _ _⟩
theorem eqFlank96 (a0 a1 a2 a3:Int)(w:World):
 Calls Tryz.prog 109 #[.agg #[.int .i64 a0,.int .i64 a1,.int .i64 a2,.int .i64 a3],.agg #[.int .i64 a0,.int .i64 a1,.int .i64 a2,.int .i64 a3]] w fun e w'=>e=.returned (.bool true)∧Below w.heap.size w w':=by
 go_enter Tryz.func109,Tryz.ntmps109
 go_wp2
 go_ret
 exact ⟨rfl,bel2 _ _ _⟩
set_option maxHeartbeats 1000000 in
theorem eqStepS82 (a a':Option Addr)(n cap cap':Nat)(F:Nat→Nat→Int)(w:World)(hn:n≤1048576)(hE:NsAt 2 0 w a n F)(hE':NsAt 2 0 w a' n F):
 Calls Tryz.prog 75 #[.slice a n cap,.slice a' n cap'] w fun e w'=>e=.returned (.bool true)∧Below w.heap.size w w':=by
 go_enter Tryz.func75,Tryz.ntmps75
 go_wp2_with fail
 go_loopw [5] (fun i wr=>∃ (k:Nat),k≤n∧i=.int .i64 k∧Below w.heap.size w wr) (fun i _=>n-(intOf i).toNat)
 case atStart=>exact ⟨0,Nat.zero_le _,rfl,Below.refl _ _⟩
 case round=>
  obtain ⟨k,hk,rfl,hbel⟩:=hrel
  by_cases hlt:k<n
  ·obtain ⟨b,off,rfl,_,hb,hc⟩:=(hE.mono lr hbel lr) (by omega)
   obtain ⟨b',off',rfl,_,hb',hc'⟩:=(hE'.mono lr hbel lr) (by omega)
   have c0:wr.cell? ⟨b,off+k*2,none⟩=some (.int .i64 (F k 0)):=hc k hlt 0 (by omega)
   have c1:wr.cell? ⟨b,off+k*2+1,none⟩=some (.int .i64 (F k 1)):=hc k hlt 1 (by omega)
   have d0:wr.cell? ⟨b',off'+k*2,none⟩=some (.int .i64 (F k 0)):=hc' k hlt 0 (by omega)
   have d1:wr.cell? ⟨b',off'+k*2+1,none⟩=some (.int .i64 (F k 1)):=hc' k hlt 1 (by omega)
   have hlt':(k:Int)<(n:Int):=by omega
   have hk0:(0:Int)≤(k:Int):=by omega
   clear hc hc'
   go_wp2_with fail
   go_region_with (go_at_call 106;refine (eqStep93 (F k 0) (F k 1) _).mono ?_;rintro e w1 ⟨rfl,hb1⟩)
   all_goals
    go_wp2_with fail
    go_roundw
    case rel=>exact ⟨k+1,by omega,by go_num,hbel.drew.trans (hb1.mono hbel.drew.size)⟩
    case measure=>simp [intOf];omega
  ·go_wp2
   go_ret
   exact ⟨rfl,hbel⟩
set_option maxHeartbeats 1000000 in
theorem eqLieS83 (a a':Option Addr)(n cap cap':Nat)(F:Nat→Nat→Int)(w:World)(hn:n≤1048576)(hE:NsAt 2 0 w a n F)(hE':NsAt 2 0 w a' n F):
 Calls Tryz.prog 76 #[.slice a n cap,.slice a' n cap'] w fun e w'=>e=.returned (.bool true)∧Below w.heap.size w w':=by
 go_enter Tryz.func76,Tryz.ntmps76
 go_wp2_with fail
 go_loopw [5] (fun i wr=>∃ (k:Nat),k≤n∧i=.int .i64 k∧Below w.heap.size w wr) (fun i _=>n-(intOf i).toNat)
 case atStart=>exact ⟨0,Nat.zero_le _,rfl,Below.refl _ _⟩
 case round=>
  obtain ⟨k,hk,rfl,hbel⟩:=hrel
  by_cases hlt:k<n
  ·obtain ⟨b,off,rfl,_,hb,hc⟩:=(hE.mono lr hbel lr) (by omega)
   obtain ⟨b',off',rfl,_,hb',hc'⟩:=(hE'.mono lr hbel lr) (by omega)
   have c0:wr.cell? ⟨b,off+k*2,none⟩=some (.int .i64 (F k 0)):=hc k hlt 0 (by omega)
   have c1:wr.cell? ⟨b,off+k*2+1,none⟩=some (.int .i64 (F k 1)):=hc k hlt 1 (by omega)
   have d0:wr.cell? ⟨b',off'+k*2,none⟩=some (.int .i64 (F k 0)):=hc' k hlt 0 (by omega)
   have d1:wr.cell? ⟨b',off'+k*2+1,none⟩=some (.int .i64 (F k 1)):=hc' k hlt 1 (by omega)
   have hlt':(k:Int)<(n:Int):=by omega
   have hk0:(0:Int)≤(k:Int):=by omega
   clear hc hc'
   go_wp2_with fail
   go_region_with (go_at_call 107;refine (eqLie94 (F k 0) (F k 1) _).mono ?_;rintro e w1 ⟨rfl,hb1⟩)
   all_goals
    go_wp2_with fail
    go_roundw
    case rel=>exact ⟨k+1,by omega,by go_num,hbel.drew.trans (hb1.mono hbel.drew.size)⟩
    case measure=>simp [intOf];omega
  ·go_wp2
   go_ret
   exact ⟨rfl,hbel⟩
set_option maxHeartbeats 1000000 in
theorem eqPartS85 (a a':Option Addr)(n cap cap':Nat)(F:Nat→Nat→Int)(w:World)(hn:n≤1048576)(hE:NsAt 3 0 w a n F)(hE':NsAt 3 0 w a' n F):
 Calls Tryz.prog 78 #[.slice a n cap,.slice a' n cap'] w fun e w'=>e=.returned (.bool true)∧Below w.heap.size w w':=by
 go_enter Tryz.func78,Tryz.ntmps78
 go_wp2_with fail
 go_loopw [5] (fun i wr=>∃ (k:Nat),k≤n∧i=.int .i64 k∧Below w.heap.size w wr) (fun i _=>n-(intOf i).toNat)
 case atStart=>exact ⟨0,Nat.zero_le _,rfl,Below.refl _ _⟩
 case round=>
  obtain ⟨k,hk,rfl,hbel⟩:=hrel
  by_cases hlt:k<n
  ·obtain ⟨b,off,rfl,_,hb,hc⟩:=(hE.mono lr hbel lr) (by omega)
   obtain ⟨b',off',rfl,_,hb',hc'⟩:=(hE'.mono lr hbel lr) (by omega)
   have c0:wr.cell? ⟨b,off+k*3,none⟩=some (.int .i64 (F k 0)):=hc k hlt 0 (by omega)
   have c1:wr.cell? ⟨b,off+k*3+1,none⟩=some (.int .i64 (F k 1)):=hc k hlt 1 (by omega)
   have c2:wr.cell? ⟨b,off+k*3+2,none⟩=some (.int .i64 (F k 2)):=hc k hlt 2 (by omega)
   have d0:wr.cell? ⟨b',off'+k*3,none⟩=some (.int .i64 (F k 0)):=hc' k hlt 0 (by omega)
   have d1:wr.cell? ⟨b',off'+k*3+1,none⟩=some (.int .i64 (F k 1)):=hc' k hlt 1 (by omega)
   have d2:wr.cell? ⟨b',off'+k*3+2,none⟩=some (.int .i64 (F k 2)):=hc' k hlt 2 (by omega)
   have hlt':(k:Int)<(n:Int):=by omega
   have hk0:(0:Int)≤(k:Int):=by omega
   clear hc hc'
   go_wp2_with fail
   go_region_with (go_at_call 108;refine (eqPart95 (F k 0) (F k 1) (F k 2) _).mono ?_;rintro e w1 ⟨rfl,hb1⟩)
   all_goals
    go_wp2_with fail
    go_roundw
    case rel=>exact ⟨k+1,by omega,by go_num,hbel.drew.trans (hb1.mono hbel.drew.size)⟩
    case measure=>simp [intOf];omega
  ·go_wp2
   go_ret
   exact ⟨rfl,hbel⟩
set_option maxHeartbeats 1000000 in
theorem eqFlankS86 (a a':Option Addr)(n cap cap':Nat)(F:Nat→Nat→Int)(w:World)(hn:n≤1048576)(hE:NsAt 4 0 w a n F)(hE':NsAt 4 0 w a' n F):
 Calls Tryz.prog 79 #[.slice a n cap,.slice a' n cap'] w fun e w'=>e=.returned (.bool true)∧Below w.heap.size w w':=by
 go_enter Tryz.func79,Tryz.ntmps79
 go_wp2_with fail
 go_loopw [5] (fun i wr=>∃ (k:Nat),k≤n∧i=.int .i64 k∧Below w.heap.size w wr) (fun i _=>n-(intOf i).toNat)
 case atStart=>exact ⟨0,Nat.zero_le _,rfl,Below.refl _ _⟩
 case round=>
  obtain ⟨k,hk,rfl,hbel⟩:=hrel
  by_cases hlt:k<n
  ·obtain ⟨b,off,rfl,_,hb,hc⟩:=(hE.mono lr hbel lr) (by omega)
   obtain ⟨b',off',rfl,_,hb',hc'⟩:=(hE'.mono lr hbel lr) (by omega)
   have c0:wr.cell? ⟨b,off+k*4,none⟩=some (.int .i64 (F k 0)):=hc k hlt 0 (by omega)
   have c1:wr.cell? ⟨b,off+k*4+1,none⟩=some (.int .i64 (F k 1)):=hc k hlt 1 (by omega)
   have c2:wr.cell? ⟨b,off+k*4+2,none⟩=some (.int .i64 (F k 2)):=hc k hlt 2 (by omega)
   have c3:wr.cell? ⟨b,off+k*4+3,none⟩=some (.int .i64 (F k 3)):=hc k hlt 3 (by omega)
   have d0:wr.cell? ⟨b',off'+k*4,none⟩=some (.int .i64 (F k 0)):=hc' k hlt 0 (by omega)
   have d1:wr.cell? ⟨b',off'+k*4+1,none⟩=some (.int .i64 (F k 1)):=hc' k hlt 1 (by omega)
   have d2:wr.cell? ⟨b',off'+k*4+2,none⟩=some (.int .i64 (F k 2)):=hc' k hlt 2 (by omega)
   have d3:wr.cell? ⟨b',off'+k*4+3,none⟩=some (.int .i64 (F k 3)):=hc' k hlt 3 (by omega)
   have hlt':(k:Int)<(n:Int):=by omega
   have hk0:(0:Int)≤(k:Int):=by omega
   clear hc hc'
   go_wp2_with fail
   go_region_with (go_at_call 109;refine (eqFlank96 (F k 0) (F k 1) (F k 2) (F k 3) _).mono ?_;rintro e w1 ⟨rfl,hb1⟩)
   all_goals
    go_wp2_with fail
    go_roundw
    case rel=>exact ⟨k+1,by omega,by go_num,hbel.drew.trans (hb1.mono hbel.drew.size)⟩
    case measure=>simp [intOf];omega
  ·go_wp2
   go_ret
   exact ⟨rfl,hbel⟩
set_option maxHeartbeats 1000000 in
theorem eqIntS84 (a a':Option Addr)(n cap cap':Nat)(F:Nat→Nat→Int)(w:World)(hn:n≤1048576)(hE:NsAt 1 0 w a n F)(hE':NsAt 1 0 w a' n F):
 Calls Tryz.prog 77 #[.slice a n cap,.slice a' n cap'] w fun e w'=>e=.returned (.bool true)∧Below w.heap.size w w':=by
 go_enter Tryz.func77,Tryz.ntmps77
 go_wp2_with fail
 go_loopw [5] (fun i wr=>∃ (k:Nat),k≤n∧i=.int .i64 k∧Below w.heap.size w wr) (fun i _=>n-(intOf i).toNat)
 case atStart=>exact ⟨0,Nat.zero_le _,rfl,Below.refl _ _⟩
 case round=>
  obtain ⟨k,hk,rfl,hbel⟩:=hrel
  by_cases hlt:k<n
  ·obtain ⟨b,off,rfl,_,hb,hc⟩:=(hE.mono lr hbel lr) (by omega)
   obtain ⟨b',off',rfl,_,hb',hc'⟩:=(hE'.mono lr hbel lr) (by omega)
   have c0:wr.cell? ⟨b,off+k,none⟩=some (.int .i64 (F k 0)):=by have:=hc k hlt 0 (by omega);rwa [Nat.mul_one] at this
   have d0:wr.cell? ⟨b',off'+k,none⟩=some (.int .i64 (F k 0)):=by have:=hc' k hlt 0 (by omega);rwa [Nat.mul_one] at this
   have hlt':(k:Int)<(n:Int):=by omega
   have hk0:(0:Int)≤(k:Int):=by omega
   clear hc hc'
   go_wp2_with fail
   go_quiet (fail)
   go_wp2_with fail
   go_roundw
   case rel=>exact ⟨k+1,by omega,by go_num,below_drewN hbel _⟩
   case measure=>simp [intOf];omega
  ·go_wp2
   go_ret
   exact ⟨rfl,hbel⟩
set_option maxHeartbeats 2000000 in
theorem eqRoute48 (r:Rt)(sa la xa qa oa fa sa' la' xa' qa' oa' fa':Option Addr)(sc lc xc qc oc fc sc' lc' xc' qc' oc' fc':Nat)(w:World)(hs:r.small)(h:RtIn 0 w r sa la xa qa oa fa)(h':RtIn 0 w r sa' la' xa' qa' oa' fa'):
 Calls Tryz.prog 32 #[.agg #[.int .i64 r.fr,.int .i64 r.to,.slice sa r.ns sc,.slice la r.nl lc,.slice xa r.nx xc,.slice qa r.np qc,.slice oa r.no oc,.slice fa r.nf fc],
  .agg #[.int .i64 r.fr,.int .i64 r.to,.slice sa' r.ns sc',.slice la' r.nl lc',.slice xa' r.nx xc',.slice qa' r.np qc',.slice oa' r.no oc',.slice fa' r.nf fc']] w fun e w'=>e=.returned (.bool true)∧Below w.heap.size w w':=by
 obtain ⟨s1,s2,s3,s4,s5,s6⟩:=hs
 go_enter Tryz.func32,Tryz.ntmps32
 go_wp2_with fail
 have b0:=bel2 w (.cells #[.int .i64 r.fr,.int .i64 r.to,.slice sa r.ns sc,.slice la r.nl lc,.slice xa r.nx xc,.slice qa r.np qc,.slice oa r.no oc,.slice fa r.nf fc] 64) (.cells #[.int .i64 r.fr,.int .i64 r.to,.slice sa' r.ns sc',.slice la' r.nl lc',.slice xa' r.nx xc',.slice qa' r.np qc',.slice oa' r.no oc',.slice fa' r.nf fc'] 64)
 have g:=h.mono lr b0 lr
 have g':=h'.mono lr b0 lr
 refine (eqStepS82 sa sa' r.ns sc sc' r.S _ s1 g.s g'.s).mono ?_
 rintro e w1 ⟨rfl,hb1⟩
 have g:=g.mono lr hb1 lr
 have g':=g'.mono lr hb1 lr
 have B1:=hb1
 obtain ⟨hc1,_⟩:=bcell B1
 have G:Hid (RtIn 0 w1 r sa la xa qa oa fa):=g
 have G':Hid (RtIn 0 w1 r sa' la' xa' qa' oa' fa'):=g'
 clear g g' hb1 h h'
 go_wp2_with fail
 refine (eqLieS83 la la' r.nl lc lc' r.L _ s2 G.out.l G'.out.l).mono ?_
 rintro e w2 ⟨rfl,hb1⟩
 have G2:Hid (RtIn 0 w2 r sa la xa qa oa fa):=G.out.mono lr hb1 lr
 have G2':Hid (RtIn 0 w2 r sa' la' xa' qa' oa' fa'):=G'.out.mono lr hb1 lr
 have B2:=B1.trans (hb1.mono B1.size)
 clear hc1 hb1 B1 G G'
 obtain ⟨hc1,_⟩:=bcell B2
 go_wp2_with fail
 refine (eqIntS84 xa xa' r.nx xc xc' r.X _ s3 G2.out.x G2'.out.x).mono ?_
 rintro e w3 ⟨rfl,hb1⟩
 have G3:Hid (RtIn 0 w3 r sa la xa qa oa fa):=G2.out.mono lr hb1 lr
 have G3':Hid (RtIn 0 w3 r sa' la' xa' qa' oa' fa'):=G2'.out.mono lr hb1 lr
 have B3:=B2.trans (hb1.mono B2.size)
 clear hc1 hb1 B2 G2 G2'
 obtain ⟨hc1,_⟩:=bcell B3
 go_wp2_with fail
 refine (eqPartS85 qa qa' r.np qc qc' r.Q _ s4 G3.out.q G3'.out.q).mono ?_
 rintro e w4 ⟨rfl,hb1⟩
 have G4:Hid (RtIn 0 w4 r sa la xa qa oa fa):=G3.out.mono lr hb1 lr
 have G4':Hid (RtIn 0 w4 r sa' la' xa' qa' oa' fa'):=G3'.out.mono lr hb1 lr
 have B4:=B3.trans (hb1.mono B3.size)
 clear hc1 hb1 B3 G3 G3'
 obtain ⟨hc1,_⟩:=bcell B4
 go_wp2_with fail
 refine (eqPartS85 oa oa' r.no oc oc' r.O _ s5 G4.out.o G4'.out.o).mono ?_
 rintro e w5 ⟨rfl,hb1⟩
 have G5:Hid (RtIn 0 w5 r sa la xa qa oa fa):=G4.out.mono lr hb1 lr
 have G5':Hid (RtIn 0 w5 r sa' la' xa' qa' oa' fa'):=G4'.out.mono lr hb1 lr
 have B5:=B4.trans (hb1.mono B4.size)
 clear hc1 hb1 B4 G4 G4'
 obtain ⟨hc1,_⟩:=bcell B5
 go_wp2_with fail
 refine (eqFlankS86 fa fa' r.nf fc fc' r.F _ s6 G5.out.f G5'.out.f).mono ?_
 rintro e w6 ⟨rfl,hb1⟩
 have B6:=B5.trans (hb1.mono B5.size)
 clear hc1 hb1 B5 G5 G5'
 go_wp2_with fail
 go_ret
 exact ⟨rfl,b0.trans (B6.mono b0.size)⟩
set_option maxHeartbeats 2000000 in
theorem eqRouteS19 (a a':Option Addr)(n cap cap':Nat)(R:Nat→Rt)(w:World)(hn:n≤1048576)(hsm:∀ i,i<n→(R i).small)(hR:RsAt 0 w a n R)(hR':RsAt 0 w a' n R):
 Calls Tryz.prog 10 #[.slice a n cap,.slice a' n cap'] w fun e w'=>e=.returned (.bool true)∧Below w.heap.size w w':=by
 have HS:Hid (∀ i,i<n→(R i).small):=hsm
 clear hsm
 go_enter Tryz.func10,Tryz.ntmps10
 go_wp2_with fail
 go_loopw [5] (fun i wr=>∃ (k:Nat),k≤n∧i=.int .i64 k∧Below w.heap.size w wr) (fun i _=>n-(intOf i).toNat)
 case atStart=>exact ⟨0,Nat.zero_le _,rfl,Below.refl _ _⟩
 case round=>
  obtain ⟨k,hk,rfl,hbel⟩:=hrel
  by_cases hlt:k<n
  ·obtain ⟨b,off,rfl,_,hb,hc⟩:=(hR.mono lr hbel.drew lr) (by omega)
   obtain ⟨b',off',rfl,_,hb',hc'⟩:=(hR'.mono lr hbel.drew lr) (by omega)
   obtain ⟨sa,sc,la,lc,xa,xc,qa,qc,oa,oc,fa,fc,c0,c1,c2,c3,c4,c5,c6,c7,g⟩:=hc k hlt
   obtain ⟨sa',sc',la',lc',xa',xc',qa',qc',oa',oc',fa',fc',d0,d1,d2,d3,d4,d5,d6,d7,g'⟩:=hc' k hlt
   have hlt':(k:Int)<(n:Int):=by omega
   have hk0:(0:Int)≤(k:Int):=by omega
   have G:Hid (RtIn 0 wr.drew (R k) sa la xa qa oa fa):=g
   have G':Hid (RtIn 0 wr.drew (R k) sa' la' xa' qa' oa' fa'):=g'
   clear hc hc' g g'
   have hsk:=HS.out k hlt
   have c00:wr.cell? _=_:=c0
   have c10:wr.cell? _=_:=c1
   have c20:wr.cell? _=_:=c2
   have c30:wr.cell? _=_:=c3
   have c40:wr.cell? _=_:=c4
   have c50:wr.cell? _=_:=c5
   have c60:wr.cell? _=_:=c6
   have c70:wr.cell? _=_:=c7
   have d00:wr.cell? _=_:=d0
   have d10:wr.cell? _=_:=d1
   have d20:wr.cell? _=_:=d2
   have d30:wr.cell? _=_:=d3
   have d40:wr.cell? _=_:=d4
   have d50:wr.cell? _=_:=d5
   have d60:wr.cell? _=_:=d6
   have d70:wr.cell? _=_:=d7
   clear c0 c1 c2 c3 c4 c5 c6 c7 d0 d1 d2 d3 d4 d5 d6 d7
   have HSK:Hid ((R k).small):=hsk
   clear hsk
   go_wp2_with fail
   go_region_with (go_at_call 32;refine (eqRoute48 (R k) sa la xa qa oa fa sa' la' xa' qa' oa' fa' sc lc xc qc oc fc sc' lc' xc' qc' oc' fc' _ HSK.out G.out G'.out).mono ?_;rintro e w1 ⟨rfl,hb1⟩)
   all_goals
    go_wp2_with fail
    go_roundw
    case rel=>exact ⟨k+1,by omega,by go_num,hbel.drew.trans (hb1.mono hbel.drew.size)⟩
    case measure=>simp [intOf];omega
  ·go_wp2
   go_ret
   exact ⟨rfl,hbel⟩
end Go.Proofs.YtkhaehpobpkkiaaGreat
