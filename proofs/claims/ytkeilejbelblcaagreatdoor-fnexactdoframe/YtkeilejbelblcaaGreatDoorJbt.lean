import Derived.Test.YtkeilejbelblcaaGreatDoorJbs
import Derived.Test.YtkeilejbelblcaaGreatDoorH8
import Derived.Test.YtkeilejbelblcaaGreatDoorJap
import Derived.Test.YtkeilejbelblcaaGreatDoorJbq
import Derived.Test.YtkeilejbelblcaaGreatDoorJba
import Derived.Test.YtkeilejbelblcaaGreatDoorJal
namespace Go.Proofs.YtkeilejbelblcaaGreatDoor
open Go.RowKit Go.Lib
theorem frame_lk {p:Pl}{f:Fm}(h:frameB p f=true) {i:Nat}(hi:i<p.ny):Lk (p.Y i).ns p.hold (stS p f i) (f.Y i):=⟨(frame_st h hi).2,like_st (frame_st h hi).1 (frame_st h hi).2⟩
theorem Lk.set {n:Nat}{hold:Int}{s:WS}{h:Hl}(k:Lk n hold s h) (hs:heldS s=false):Lk n hold (.set false) ⟨1,h.gone,h.nb,h.B,h.shown,h.timer⟩:=by
 obtain⟨k1,k2⟩:=k
 obtain⟨hn,hc⟩:=stateF_cases k1
 rcases hc with⟨e,rfl⟩|⟨e,rfl⟩|⟨e,rfl⟩|⟨e,rfl,_⟩|⟨e,rfl,_⟩<;>try cases hs
 obtain⟨a1,a2,a3,a4,a5,a6⟩:=k2
 have e5:h.shown=false:=a5.symm
 exact⟨by simp[stateF,hn,e5],rfl,a2,a3,a4,a5,a6⟩
theorem sp_like {p:Pl}{f:Fm}(h:frameB p f=true) {op lie:Int}{x:Nat}(hx:op=1\/op=2->x<p.ny) {i:Nat}(hi:i<p.ny):Lk (p.Y i).ns p.hold ((doD p f.O f.P (stS p f) op x lie).S i) ((spF p f op x lie).Y i):=by
 have k:=frame_lk h hi
 unfold spF doD
 by_cases h1:op=1
 ·
  rw[if_pos h1,if_pos h1]
  have hw:=why_same h (hx (.inl h1))
  cases ho:whyO p f.O f.P (stS p f) x with
  |none=>
   rw[ho] at hw
   rw[if_pos (by rw[←hw];rfl)]
   show Lk _ _ (updN (stS p f) x (.set false) i) (stY f.Y x 1 i)
   by_cases c:i=x
   ·
    subst c
    rw[updN_same]
    have hs:heldS (stS p f i)=false:=by
     unfold whyO at ho
     split at ho
     ·
      cases ho
     ·
      next hh=>simpa using hh
    have h9:=k.set hs
    simpa [stY] using h9
   ·
    rw[updN_ne c]
    simpa [stY,c] using k
  |some g=>rw[ho] at hw;rw[if_neg (by rw[←hw];simp only[codO];omega)];exact k
 rw[if_neg h1,if_neg h1]
 by_cases h2:op=2
 ·
  rw[if_pos h2,if_pos h2]
  show Lk _ _ (updN (stS p f) x _ i) (bkY p f x i)
  by_cases c:i=x
  ·
   subst c
   rw[updN_same]
   have hz:sizesB p f=true:=by
    simp only[frameB,Bool.and_eq_true] at h
    exact h.1
   have hh:=(sizes_ok hz).1.head
   simp only[headF,Bool.and_eq_true,decide_eq_true_eq,inB] at hh
   exact Lk.back rfl (by omega) (stateF_cases k.1).1 k
  ·
   rw[updN_ne c,bkY_ne p f c]
   exact k
 rw[if_neg h2,if_neg h2]
 by_cases h3:op=3
 ·
  rw[if_pos h3,if_pos h3];exact k
 rw[if_neg h3,if_neg h3]
 by_cases h4:op=4
 ·
  rw[if_pos h4,if_pos h4];exact k
 rw[if_neg h4,if_neg h4]
 by_cases h5:op=5
 ·
  rw[if_pos h5,if_pos h5];exact k
 rw[if_neg h5,if_neg h5]
 by_cases h6:op=6
 ·
  rw[if_pos h6,if_pos h6]
  cases fxE p f.O (stS p f) x with
  |none=>exact k
  |some g=>rw[if_neg (by simp)];exact k
 ·
  rw[if_neg h6,if_neg h6];exact k.tick
theorem sp_held {p:Pl}{f:Fm}(h:frameB p f=true) {op lie:Int}{x:Nat}(hx:op=1\/op=2->x<p.ny) {i:Nat}(hi:i<p.ny):heldB ((spF p f op x lie).Y i) (p.Y i).ns p.hold=true:=by
 have k:=sp_like h (lie:=lie) hx hi
 have hz:sizesB p f=true:=by
  simp only[frameB,Bool.and_eq_true] at h
  exact h.1
 exact held_of_state (wayF_in ((sizes_ok hz).1.way i hi)).1 k.1 k.2
def spC (p:Pl) (f:Fm) (op:Int) (x:Nat):Int:=
 if op=1 then whyF p f x else if op=2 then bkC f x else if op=6 then(if 0<selN (fun i=>wantsB p f i x) p.ny then 2 else if f.O (p.W x).toNat=true then 3 else 0) else 0
theorem sp_code {p:Pl}{f:Fm}(h:frameB p f=true) {op lie:Int}{x:Nat}(hx:op=1\/op=2->x<p.ny):spC p f op x=((evC op (doD p f.O f.P (stS p f) op x lie).e:Nat):Int):=by
 unfold spC doD evC
 by_cases h1:op=1
 ·
  rw[if_pos h1,if_pos h1,if_pos h1]
  exact(why_same h (hx (.inl h1))).symm
 rw[if_neg h1,if_neg h1,if_neg h1]
 by_cases h2:op=2
 ·
  rw[if_pos h2,if_pos h2,if_pos h2]
  obtain⟨_,hc⟩:=stateF_cases (frame_st h (hx (.inr h2))).2
  unfold bkC
  rcases hc with⟨e,q⟩|⟨e,q⟩|⟨e,q⟩|⟨e,q,_⟩|⟨e,q,_⟩<;>simp[e,q,bkO]
 rw[if_neg h2,if_neg h2,if_neg h2]
 by_cases h6:op=6
 ·
  subst h6
  have hw:selN (fun i=>wantsS p (stS p f) i x) p.ny=selN (fun i=>wantsB p f i x) p.ny:=(sel_congr fun k hk=>wants_same h hk x).1
  simp only[if_true,fxE,hw]
  by_cases c:0<selN (fun i=>wantsB p f i x) p.ny
  ·
   simp[c,mvD]
  ·
   by_cases d:f.O (p.W x).toNat=true
   ·
    simp[c,d,mvD]
   ·
    simp[c,d,mvD]
 ·
  rw[if_neg h6,if_neg h6,if_neg h6]
  have e0:∀o:Option Nat,o=none->((if o=some 0 then 1 else 0:Nat):Int)=0:=fun o e=>by rw[e];rfl
  by_cases h3:op=3
  ·
   rw[if_pos h3];rfl
  rw[if_neg h3]
  by_cases h4:op=4
  ·
   rw[if_pos h4];rfl
  rw[if_neg h4]
  by_cases h5:op=5
  ·
   rw[if_pos h5];rfl
  ·
   rw[if_neg h5];rfl
theorem VsAt.up {c B:Nat}{w w':World}{a:Option Addr}{n:Nat}{F G:Nat->Nat->Value}(h:VsAt c 0 w' a n G) (k:VsAt c B w a n F):VsAt c B w' a n G:=by
 intro h0
 obtain⟨b,o,e,_,h2,h3⟩:=h h0
 obtain⟨b',o',e',h1,_⟩:=k h0
 rw[e] at e'
 simp only[Option.some.injEq,Addr.mk.injEq,and_true] at e'
 obtain⟨rfl,rfl⟩:=e'
 exact⟨b,o,e,h1,h2,h3⟩
theorem FMem.hm {M:Nat}{w:World}{fb hb:Nat}{ok:Bool}{oa:Option Addr}{no oc:Nat}{O:Nat->Bool}{pa:Option Addr}{np pc:Nat}{P:Nat->Nat->Int}{nh hc:Nat}{Y:Nat->Hl}{r rc:Nat->Nat}(x:FMem M w fb hb ok oa no oc O pa np pc P nh hc Y r rc):HsAt M w (some (ad hb 0)) nh Y:=by
 intro h0
 refine⟨hb,0,rfl,x.mh,(x.h 0 h0).lt,fun i hi=>?_⟩
 have h:=x.h i hi
 refine⟨some (ad (r i) 0),rc i,?_,?_,?_,?_,?_,fun _=>⟨r i,0,rfl,x.mr i hi,h.rl,fun k hk j hj=>?_⟩⟩
 ·
  rw[Nat.zero_add];exact h.c0
 ·
  rw[Nat.zero_add];exact h.c1
 ·
  rw[Nat.zero_add];exact h.c2
 ·
  rw[Nat.zero_add];exact h.c3
 ·
  rw[Nat.zero_add];exact h.c4
 ·
  obtain rfl:j=0:=by omega
  rw[Nat.zero_add,Nat.mul_one,Nat.add_zero]
  exact(h.row k hk).1
structure GF (B:Nat) (W:World) (fb:Nat) (f:Fm) (oa pa ha:Option Addr) (oc pc hc:Nat):Prop where
 bx:Box W fb 42 #[.bool f.ok,.slice oa f.no oc,.slice pa f.np pc,.slice ha f.nh hc]
 fi:FmIn B W f oa pa ha
 lo:B<=fb
 fm:0<f.nh->∃hb r rc,ha=some (ad hb 0)/\FMem B W fb hb f.ok oa f.no oc f.O pa f.np pc f.P f.nh hc f.Y r rc
theorem GF.of {B fb hb:Nat}{W W0:World}{f:Fm}{oa pa:Option Addr}{oc pc hc:Nat}{r rc:Nat->Nat}{F G:Nat->Nat->Value}(h:FMem B W fb hb f.ok oa f.no oc f.O pa f.np pc f.P f.nh hc f.Y r rc) (k1:VsAt 1 B W0 oa f.no F) (k2:VsAt 2 B W0 pa f.np G):GF B W fb f oa pa (some (ad hb 0)) oc pc hc:=⟨h.bx,⟨h.o.up k1,h.p.up k2,h.hm⟩,h.mf,fun _=>⟨hb,r,rc,rfl,h⟩⟩
theorem SF.gf {B fb:Nat}{W:World}{f:Fm}{oa pa ha:Option Addr}{oc pc hc:Nat}{r rc:Nat->Nat}(s:SF B W fb f oa pa ha oc pc hc r rc):GF B W fb f oa pa ha oc pc hc:=by
 by_cases h0:0<f.nh
 ·
  obtain⟨hb,rfl,_,_⟩:=s.h.own.addr h0
  exact GF.of s.fm s.o.vs s.p.vs
 ·
  exact⟨s.bx,⟨s.o.vs,s.p.vs,fun h=>absurd h h0⟩,s.lo,fun h=>absurd h h0⟩
theorem settleG (p:Pl) (f:Fm) (wa ya ba oa pa ha:Option Addr) (wk yc bc oc pc hc fb:Nat) (wz w:World) (hs:p.small) (hfo:f.no<=1048576) (hfp:f.np<=1048576) (hnh:f.nh=p.ny) (hg:GF wz.heap.size w fb f oa pa ha oc pc hc) (hin:∀i,i<f.nh->(p.Y i).In f.no f.np/\heldB (f.Y i) (p.Y i).ns p.hold=true) (hP:PlIn 0 wz p wa ya ba) (hB:Below wz.heap.size wz w):
  Calls Tryz.prog 34 #[.agg #[.int .i64 p.sec,.slice wa p.nw wk,.slice ya p.ny yc,.slice ba p.nb bc,.int .i64 p.hold],.pointer (some (ad fb 0))] w fun e w'=>e=.returned (.tuple #[])/\GF wz.heap.size w' fb ⟨f.ok,f.no,f.O,f.np,f.P,f.nh,fun i=>setH (vwOf (p.Y i) f.O f.P) (f.Y i)⟩ oa pa ha oc pc hc/\Below wz.heap.size wz w':=by
 by_cases h0:0<f.nh
 ·
  obtain⟨hb,r,rc,rfl,h⟩:=hg.fm h0
  refine(settle34 p f wa ya ba oa pa wk yc bc oc pc hc fb hb r rc wz w hs hfo hfp hnh h hin hP hB).mono ?_
  rintro e w' ⟨r2,rc2,rfl,hm,hb4⟩
  exact⟨rfl,GF.of (f:=⟨f.ok,f.no,f.O,f.np,f.P,f.nh,fun i=>setH (vwOf (p.Y i) f.O f.P) (f.Y i)⟩) hm hg.fi.o hg.fi.p,hB.trans hb4⟩
 ·
  have hz:f.nh=0:=by omega
  have h1:=hg.bx
  rw[hz] at h1
  refine(settle34_0 p wa ya ba wk yc bc fb _ _ _ ha hc _ h1).mono ?_
  rintro e w' ⟨rfl,hb4⟩
  exact⟨rfl,⟨hg.bx.mono hb4 nr,⟨hg.fi.o.mono nr hb4 nr,hg.fi.p.mono nr hb4 nr,fun h=>absurd h h0⟩,hg.lo,fun h=>absurd h h0⟩,hB.trans (hb4.mono hB.size)⟩
def spW (p:Pl) (f:Fm) (op:Int) (x:Nat) (lie:Int):Fm:=⟨(spF p f op x lie).ok,(spF p f op x lie).no,(spF p f op x lie).O,(spF p f op x lie).np,(spF p f op x lie).P,(spF p f op x lie).nh,fun i=>setH (vwOf (p.Y i) (spF p f op x lie).O (spF p f op x lie).P) ((spF p f op x lie).Y i)⟩
def spG (p:Pl) (f:Fm) (op o lie:Int):Fm:=if dfG p f op o lie=true then spW p f op o.toNat lie else noFm
def spA (p:Pl) (f:Fm) (op o lie:Int):Int:=if dfG p f op o lie=true then spC p f op o.toNat else 1
def SpD (w:World) (c:Int) (g:Fm) (e:Ending) (w':World):Prop:=
 ∃(oa pa ha:Option Addr) (oc pc hc:Nat),e=.returned (.agg #[.int .i64 c,.bool g.ok,.slice oa g.no oc,.slice pa g.np pc,.slice ha g.nh hc])/\FmIn w.heap.size w' g oa pa ha/\Below w.heap.size w w'
theorem SpD.no {w w':World}(hb:Below w.heap.size w w'):SpD w 1 noFm (.returned (.agg #[.int .i64 1,.bool false,.slice none 0 0,.slice none 0 0,.slice none 0 0])) w':=⟨none,none,none,0,0,0,rfl,⟨fun h=>absurd h (Nat.not_lt_zero _),fun h=>absurd h (Nat.not_lt_zero _),fun h=>absurd h (Nat.not_lt_zero _)⟩,hb⟩
theorem spF_shape (p:Pl) (f:Fm) (op:Int) (x:Nat) (lie:Int):(spF p f op x lie).ok=f.ok/\(spF p f op x lie).no=f.no/\(spF p f op x lie).np=f.np/\(spF p f op x lie).nh=f.nh:=by
 unfold spF
 split
 ·
  split<;>exact⟨rfl,rfl,rfl,rfl⟩
 split
 ·
  exact⟨rfl,rfl,rfl,rfl⟩
 split
 ·
  exact⟨rfl,rfl,rfl,rfl⟩
 split
 ·
  exact⟨rfl,rfl,rfl,rfl⟩
 split
 ·
  exact⟨rfl,rfl,rfl,rfl⟩
 split
 ·
  split<;>exact⟨rfl,rfl,rfl,rfl⟩
 ·
  exact⟨rfl,rfl,rfl,rfl⟩
end Go.Proofs.YtkeilejbelblcaaGreatDoor
