import Derived.Test.YtkeilejbelblcaaGreatDoorJab
import Derived.Test.YtkeilejbelblcaaGreatDoorJac
import Derived.ProofKit
import Derived.Deep.Slices
import Derived.Deep.Strs
import Derived.Lib.SmallJoins
import Derived.OpenShut
import Derived.ShutString
import Derived.ChangeOld
import Derived.Below
import Derived.Test.YtkeilejbelblcaaGreatDoorRows
import Derived.ChangeSame
import Derived.ChangeVars
import Derived.JoinedOf
import Derived.RowKitTokens
import Derived.LaidLaws
import Derived.Stop.LaidErr
namespace Go.Proofs.YtkeilejbelblcaaGreatDoor
open Go.RowKit Go.Deep Go.Joins Go.ChangeShapes Go.WideShapes Go.ChangeAt
section
variable {H:Type}{enc:TypeId×Value->H}{w:World}{base:Nat}{spare:Nat->Bool}{held:Bool}
theorem add_none (b off k:Nat):((ad b off):Addr).add k=(ad b (off+k)):=by
 unfold Addr.add
 split<;>simp_all
theorem list2 {α:Type}{l:List α}(h:l.length=2):∃a b,l= [a,b]:=by
 match l,h with
 | [a,b],_=>exact⟨a,b,rfl⟩
theorem list5 {α:Type}{l:List α}(h:l.length=5):∃a b c d e,l= [a,b,c,d,e]:=by
 match l,h with
 | [a,b,c,d,e],_=>exact⟨a,b,c,d,e,rfl⟩
theorem cells3:Tryz.prog.cellsOf 3=1:=by kernel_rfl
theorem cells4:Tryz.prog.cellsOf 4=1:=by kernel_rfl
theorem cells22:Tryz.prog.cellsOf 22=1:=by kernel_rfl
theorem cells23:Tryz.prog.cellsOf 23=1:=by kernel_rfl
theorem cells24:Tryz.prog.cellsOf 24=1:=by kernel_rfl
theorem cells38:Tryz.prog.cellsOf 27=1:=by kernel_rfl
theorem cells86:Tryz.prog.cellsOf 118=1:=by kernel_rfl
theorem cells88:Tryz.prog.cellsOf 120=5:=by kernel_rfl
theorem cells118:Tryz.prog.cellsOf 189=2:=by kernel_rfl
theorem cells26:Tryz.prog.cellsOf 26=5:=by kernel_rfl
theorem open_turn {n:Nat}{cs:List Value}{y:DataW H×List MemPlace}(h:DataW.trod enc Tryz.prog w base spare held n 189 cs=some y):∃p:Int×Int,cs= [.int .i64 p.1,.int .i64 p.2]:=by
 obtain⟨y0,y1,k,_,hl,h0,h1⟩:=trod_struct2 Tryz.underlying189 h
 obtain⟨v0,v1,rfl⟩:=list2 (hl.trans cells118)
 simp only[cells3,List.drop_zero,List.drop_succ_cons,List.take_succ_cons,List.take_zero] at h0 h1
 obtain⟨a,e1,_,_⟩:=DataW.trod_int Tryz.underlying3 h0
 obtain⟨b,e2,_,_⟩:=DataW.trod_int Tryz.underlying3 h1
 simp only[List.cons.injEq,and_true] at e1 e2
 exact⟨(a,b),by rw[e1,e2]⟩
theorem trod_struct5 {P:Program}{t:TypeId}{f0 f1 f2 f3 f4:Field}{fuel:Nat}{cs:List Value}{x:DataW H×List MemPlace}(ht:P.underlying t=some (.struct #[f0,f1,f2,f3,f4])) (h:DataW.trod enc P w base spare held fuel t cs=some x):
  ∃y0 y1 y2 y3 y4 n,cs.length=P.cellsOf t/\DataW.trod enc P w base spare held n f0.type ((cs.drop f0.offset).take (P.cellsOf f0.type))=some y0∧
   DataW.trod enc P w base spare held n f1.type ((cs.drop f1.offset).take (P.cellsOf f1.type))=some y1/\DataW.trod enc P w base spare held n f2.type ((cs.drop f2.offset).take (P.cellsOf f2.type))=some y2∧
   DataW.trod enc P w base spare held n f3.type ((cs.drop f3.offset).take (P.cellsOf f3.type))=some y3/\DataW.trod enc P w base spare held n f4.type ((cs.drop f4.offset).take (P.cellsOf f4.type))=some y4:=by
 obtain⟨xs,n,_,rfl,hl,hlen,hf⟩:=DataW.trod_struct ht h
 match xs,hlen with
 | [y0,y1,y2,y3,y4],_=>exact⟨y0,y1,y2,y3,y4,n,hl,by simpa using hf 0 f0 rfl,by simpa using hf 1 f1 rfl,by simpa using hf 2 f2 rfl,by simpa using hf 3 f3 rfl,by simpa using hf 4 f4 rfl⟩
theorem open_bool {n:Nat}{cs:List Value}{y:DataW H×List MemPlace}(h:DataW.trod enc Tryz.prog w base spare held n 4 cs=some y):∃b:Bool,cs= [.bool b]:=by
 obtain⟨c,e2,_⟩:=DataW.trod_bool Tryz.underlying4 h
 exact⟨c,e2⟩
theorem spot_none {a:Addr}{k:Nat}{cs:List Value}(h:w.cells? base (a.add 0) (k+1)=some cs):a.spot=none:=by
 obtain⟨_,hl,hc⟩:=World.cells?_some h
 have h0:=hc 0 (by omega)
 obtain⟨v,hv⟩:∃v,cs[0]?=some v:=⟨cs[0],by simp[hl]⟩
 rw[hv] at h0
 have :=World.cell?_spot h0
 simpa [Addr.add] using this
theorem open_int1 {n:Nat}{cs:List Value}{y:DataW H×List MemPlace}(h:DataW.trod enc Tryz.prog w base spare held n 3 cs=some y):∃x:Int,cs= [.int .i64 x]:=by
 obtain⟨a,e1,_,_⟩:=DataW.trod_int Tryz.underlying3 h
 exact⟨a,e1⟩
theorem VsAt.congr {c C:Nat}{w:World}{a:Option Addr}{n:Nat}{F G:Nat->Nat->Value}(h:VsAt c C w a n F) (hf:∀i,i<n->∀j,j<c->F i j=G i j):VsAt c C w a n G:=by
 intro h0
 obtain⟨b,off,h1,h2,h3,h4⟩:=h h0
 exact⟨b,off,h1,h2,h3,fun i hi j hj=>by rw[h4 i hi j hj,hf i hi j hj]⟩
theorem open_vlist {α:Type}(d:α) (E:α->List Value) {t e:TypeId}{c:Nat}(ht:Tryz.prog.underlying t=some (.slice e)) (hc:Tryz.prog.cellsOf e=c+1) (hE:∀p,(E p).length=c+1)
  (ho:∀ {n:Nat}{cs:List Value}{y:DataW H×List MemPlace},DataW.trod enc Tryz.prog w base spare held n e cs=some y->∃p,cs=E p)
  {fuel:Nat}{v:Value}{x:DataW H×List MemPlace}(h:DataW.trod enc Tryz.prog w base spare held fuel t [v]=some x):
  ∃(a:Option Addr) (n cap:Nat) (L:Nat->α),v=.slice a n cap/\n<=maxLen/\VsAt (c+1) 0 w a n (fun i j=>(E (L i)).getD j undef):=by
 rcases open_slice ht h with⟨hcs,_⟩|⟨a,len,cap,m,k,D,Pl,hcs,_,hl,hm,hmm,_,hel⟩
 ·
  simp only[List.cons.injEq,and_true] at hcs
  exact⟨none,0,0,fun _=>d,hcs,by simp[maxLen],fun h=>absurd h (by omega)⟩
 ·
  simp only[List.cons.injEq,and_true] at hcs
  have hlm:len<=m:=by rw[hmm];split<;>omega
  rw[hc] at hel
  obtain⟨L,hL⟩:= @choose_lt α ⟨d⟩ len (fun i p=>w.cells? base (a.add (i*(c+1))) (c+1)=some (E p)) (fun i hi=>by
   obtain⟨cs',h1,h2⟩:=hel i (by omega)
   obtain⟨p,rfl⟩:=ho h2
   exact⟨p,h1⟩)
  refine⟨some a,len,cap,L,hcs,by omega,fun h0=>?_⟩
  obtain⟨b,off,sp⟩:=a
  have hs:sp=none:=by
   have h1:=hL 0 h0
   rw[Nat.zero_mul] at h1
   exact spot_none h1
  subst hs
  have hcell:∀i,i<len->∀j,j<c+1->w.cell? (ad b (off+i*(c+1)+j))=some ((E (L i)).getD j undef):=fun i hi j hj=>by
   have hcc:=hL i hi
   obtain⟨_,_,hc9⟩:=World.cells?_some hcc
   rw[add_none] at hc9
   have g0:=hc9 j hj
   rw[add_none] at g0
   rw[g0,List.getElem?_eq_getElem (by rw[hE];exact hj),List.getD_eq_getElem?_getD,List.getElem?_eq_getElem (by rw[hE];exact hj)]
   rfl
  exact⟨b,off,rfl,Nat.zero_le _,World.block_lt_of_cell? w _ (hcell 0 h0 0 (by omega)),hcell⟩
theorem open_ints {fuel:Nat}{v:Value}{x:DataW H×List MemPlace}(h:DataW.trod enc Tryz.prog w base spare held fuel 22 [v]=some x):
  ∃(a:Option Addr) (n cap:Nat) (F:Nat->Int),v=.slice a n cap/\n<=maxLen/\VsAt 1 0 w a n (oneF F):=by
 obtain⟨a,n,cap,L,rfl,hn,g⟩:=open_vlist 0 (fun x:Int=> [.int .i64 x]) (c:=0) Tryz.underlying22 cells3 (fun _=>rfl) (fun h=>open_int1 h) h
 refine⟨a,n,cap,L,rfl,hn,g.congr fun i _ j hj=>?_⟩
 obtain rfl:j=0:=by omega
 rfl
theorem open_turns {fuel:Nat}{v:Value}{x:DataW H×List MemPlace}(h:DataW.trod enc Tryz.prog w base spare held fuel 118 [v]=some x):
  ∃(a:Option Addr) (n cap:Nat) (F:Nat->Nat->Int),v=.slice a n cap/\n<=maxLen/\VsAt 2 0 w a n (intF F):=by
 obtain⟨a,n,cap,L,rfl,hn,g⟩:=open_vlist (0,0) (fun p:Int×Int=> [.int .i64 p.1,.int .i64 p.2]) (c:=1) Tryz.underlying118 cells118 (fun _=>rfl) (fun h=>open_turn h) h
 refine⟨a,n,cap,fun i j=>if j=0 then(L i).1 else(L i).2,rfl,hn,g.congr fun i _ j hj=>?_⟩
 rcases(show j=0\/j=1 by omega) with rfl|rfl<;>rfl
theorem open_boolL {fuel:Nat}{v:Value}{x:DataW H×List MemPlace}(h:DataW.trod enc Tryz.prog w base spare held fuel 27 [v]=some x):
  ∃(a:Option Addr) (n cap:Nat) (F:Nat->Bool),v=.slice a n cap/\n<=maxLen/\VsAt 1 0 w a n (boolF F):=by
 obtain⟨a,n,cap,L,rfl,hn,g⟩:=open_vlist false (fun b:Bool=> [.bool b]) (c:=0) Tryz.underlying27 cells4 (fun _=>rfl) (fun h=>open_bool h) h
 refine⟨a,n,cap,L,rfl,hn,g.congr fun i _ j hj=>?_⟩
 obtain rfl:j=0:=by omega
 rfl
theorem open_way {n:Nat}{cs:List Value}{y:DataW H×List MemPlace}(h:DataW.trod enc Tryz.prog w base spare held n 120 cs=some y):
  ∃(r:Wy) (sa la fa oa ma:Option Addr) (sc lc fc oc mc:Nat),cs= [.slice sa r.ns sc,.slice la r.nl lc,.slice fa r.nf fc,.slice oa r.no oc,.slice ma r.nm mc]/\r.fits/\WyIn 0 w r sa la fa oa ma:=by
 obtain⟨y0,y1,y2,y3,y4,k,hl,h0,h1,h2,h3,h4⟩:=trod_struct5 Tryz.underlying120 h
 obtain⟨v0,v1,v2,v3,v4,rfl⟩:=list5 (hl.trans cells88)
 simp only[cells22,cells86,List.drop_zero,List.drop_succ_cons,List.take_succ_cons,List.take_zero] at h0 h1 h2 h3 h4
 obtain⟨sa,ns,sc,S,rfl,n0,g0⟩:=open_ints h0
 obtain⟨la,nl,lc,L,rfl,n1,g1⟩:=open_turns h1
 obtain⟨fa,nf,fc,F,rfl,n2,g2⟩:=open_turns h2
 obtain⟨oa,no,oc,O,rfl,n3,g3⟩:=open_ints h3
 obtain⟨ma,nm,mc,M,rfl,n4,g4⟩:=open_ints h4
 exact⟨⟨ns,S,nl,L,nf,F,no,O,nm,M⟩,sa,la,fa,oa,ma,sc,lc,fc,oc,mc,rfl,⟨n0,n1,n2,n3,n4⟩,⟨g0,g1,g2,g3,g4⟩⟩
def noWy:Wy:=⟨0,fun _=>0,0,fun _ _=>0,0,fun _ _=>0,0,fun _=>0,0,fun _=>0⟩
theorem open_ways {fuel:Nat}{v:Value}{x:DataW H×List MemPlace}(h:DataW.trod enc Tryz.prog w base spare held fuel 23 [v]=some x):
  ∃(a:Option Addr) (n cap:Nat) (R:Nat->Wy),v=.slice a n cap/\n<=maxLen/\WsAt 0 w a n R/\∀i,i<n->(R i).fits:=by
 rcases open_slice Tryz.underlying23 h with⟨hcs,_⟩|⟨a,len,cap,m,k,D,Pl,hcs,_,hl,hm,hmm,_,hel⟩
 ·
  simp only[List.cons.injEq,and_true] at hcs
  exact⟨none,0,0,fun _=>noWy,hcs,by simp[maxLen],fun h=>absurd h (by omega),fun i hi=>absurd hi (by omega)⟩
 ·
  simp only[List.cons.injEq,and_true] at hcs
  have hlm:len<=m:=by rw[hmm];split<;>omega
  rw[cells88] at hel
  obtain⟨R,hR⟩:= @choose_lt Wy ⟨noWy⟩ len (fun i r=>∃(sa la fa oa ma:Option Addr) (sc lc fc oc mc:Nat),w.cells? base (a.add (i*5)) 5=some [.slice sa r.ns sc,.slice la r.nl lc,.slice fa r.nf fc,.slice oa r.no oc,.slice ma r.nm mc]/\r.fits/\WyIn 0 w r sa la fa oa ma) (fun i hi=>by
   obtain⟨cs',h1,h2⟩:=hel i (by omega)
   obtain⟨r,sa,la,fa,oa,ma,sc,lc,fc,oc,mc,rfl,hp⟩:=open_way h2
   exact⟨r,sa,la,fa,oa,ma,sc,lc,fc,oc,mc,h1,hp⟩)
  refine⟨some a,len,cap,R,hcs,by omega,fun h0=>?_,fun i hi=>by obtain⟨_,_,_,_,_,_,_,_,_,_,_,h1,_⟩:=hR i hi;exact h1⟩
  obtain⟨b,off,sp⟩:=a
  have hs:sp=none:=by
   obtain⟨_,_,_,_,_,_,_,_,_,_,h1,_⟩:=hR 0 h0
   rw[Nat.zero_mul] at h1
   exact spot_none h1
  subst hs
  have hcell:∀i,i<len->∃sa sc la lc fa fc oa oc ma mc,
    w.cell? (ad b (off+i*5))=some (.slice sa (R i).ns sc)/\w.cell? (ad b (off+i*5+1))=some (.slice la (R i).nl lc)∧
    w.cell? (ad b (off+i*5+2))=some (.slice fa (R i).nf fc)/\w.cell? (ad b (off+i*5+3))=some (.slice oa (R i).no oc)∧
    w.cell? (ad b (off+i*5+4))=some (.slice ma (R i).nm mc)/\WyIn 0 w (R i) sa la fa oa ma:=fun i hi=>by
   obtain⟨sa,la,fa,oa,ma,sc,lc,fc,oc,mc,h1,_,hE⟩:=hR i hi
   obtain⟨_,_,hc⟩:=World.cells?_some h1
   rw[add_none] at hc
   have g0:=hc 0 (by omega)
   have g1:=hc 1 (by omega)
   have g2:=hc 2 (by omega)
   have g3:=hc 3 (by omega)
   have g4:=hc 4 (by omega)
   rw[add_none] at g0 g1 g2 g3 g4
   exact⟨sa,sc,la,lc,fa,fc,oa,oc,ma,mc,g0,g1,g2,g3,g4,hE⟩
  obtain⟨_,_,_,_,_,_,_,_,_,_,h1,_⟩:=hcell 0 h0
  exact⟨b,off,rfl,Nat.zero_le _,World.block_lt_of_cell? w _ h1,hcell⟩
theorem open_bools {fuel:Nat}{v:Value}{x:DataW H×List MemPlace}(h:DataW.trod enc Tryz.prog w base spare held fuel 24 [v]=some x):
  ∃(a:Option Addr) (n cap:Nat) (K:Nat->Nat) (T:Nat->Nat->Bool),v=.slice a n cap/\n<=maxLen/\BsAt 0 w a n K T/\∀i,i<n->K i<=maxLen:=by
 rcases open_slice Tryz.underlying24 h with⟨hcs,_⟩|⟨a,len,cap,m,k,D,Pl,hcs,_,hl,hm,hmm,_,hel⟩
 ·
  simp only[List.cons.injEq,and_true] at hcs
  exact⟨none,0,0,fun _=>0,fun _ _=>false,hcs,by simp[maxLen],fun h=>absurd h (by omega),fun i hi=>absurd hi (by omega)⟩
 ·
  simp only[List.cons.injEq,and_true] at hcs
  have hlm:len<=m:=by rw[hmm];split<;>omega
  rw[cells38] at hel
  obtain⟨R,hR⟩:= @choose_lt (Nat×(Nat->Bool)) ⟨(0,fun _=>false)⟩ len (fun i r=>∃(ra:Option Addr) (rc:Nat),w.cells? base (a.add (i*1)) 1=some [.slice ra r.1 rc]/\r.1<=maxLen/\VsAt 1 0 w ra r.1 (boolF r.2)) (fun i hi=>by
   obtain⟨cs',h1,h2⟩:=hel i (by omega)
   obtain⟨_,e1,_⟩:=World.cells?_some h1
   match cs',e1 with
   | [v],_=>
    obtain⟨ra,n,rc,F,rfl,hn,g⟩:=open_boolL h2
    exact⟨(n,F),ra,rc,h1,hn,g⟩)
  refine⟨some a,len,cap,fun i=>(R i).1,fun i=>(R i).2,hcs,by omega,fun h0=>?_,fun i hi=>by obtain⟨_,_,_,h1,_⟩:=hR i hi;exact h1⟩
  obtain⟨b,off,sp⟩:=a
  have hs:sp=none:=by
   obtain⟨_,_,h1,_⟩:=hR 0 h0
   rw[Nat.zero_mul] at h1
   exact spot_none h1
  subst hs
  have hcell:∀i,i<len->∃ra rc,w.cell? (ad b (off+i))=some (.slice ra (R i).1 rc)/\VsAt 1 0 w ra (R i).1 (boolF (R i).2):=fun i hi=>by
   obtain⟨ra,rc,h1,_,hE⟩:=hR i hi
   obtain⟨_,_,hc⟩:=World.cells?_some h1
   rw[add_none,Nat.mul_one] at hc
   have g0:=hc 0 (by omega)
   rw[add_none] at g0
   exact⟨ra,rc,g0,hE⟩
  obtain⟨_,_,h1,_⟩:=hcell 0 h0
  exact⟨b,off,rfl,Nat.zero_le _,World.block_lt_of_cell? w _ h1,hcell⟩
theorem open_plan {n:Nat}{cs:List Value}{y:DataW H×List MemPlace}(h:DataW.trod enc Tryz.prog w base spare held n 26 cs=some y):
  ∃(p:Pl) (wa ya ba:Option Addr) (wc yc bc:Nat),cs= [.int .i64 p.sec,.slice wa p.nw wc,.slice ya p.ny yc,.slice ba p.nb bc,.int .i64 p.hold]/\p.fits/\PlIn 0 w p wa ya ba:=by
 obtain⟨y0,y1,y2,y3,y4,k,hl,h0,h1,h2,h3,h4⟩:=trod_struct5 Tryz.underlying26 h
 obtain⟨v0,v1,v2,v3,v4,rfl⟩:=list5 (hl.trans cells26)
 simp only[cells3,cells22,cells23,cells24,List.drop_zero,List.drop_succ_cons,List.take_succ_cons,List.take_zero] at h0 h1 h2 h3 h4
 obtain⟨s,e0⟩:=open_int1 h0
 obtain⟨wa,nw,wc,W,rfl,n1,g1⟩:=open_ints h1
 obtain⟨ya,ny,yc,Y,rfl,n2,g2,k2⟩:=open_ways h2
 obtain⟨ba,nb,bc,K,T,rfl,n3,g3,k3⟩:=open_bools h3
 obtain⟨q,e4⟩:=open_int1 h4
 simp only[List.cons.injEq,and_true] at e0 e4
 exact⟨⟨s,nw,W,ny,Y,nb,K,T,q⟩,wa,ya,ba,wc,yc,bc,by rw[e0,e4],⟨n1,n2,k2,n3,k3⟩,⟨g1,g2,g3⟩⟩
end
theorem own:ownKnob Tryz.prog.godebug=none:=by kernel_rfl
theorem laidOut:laidOutB Tryz.prog=true:=by kernel_rfl
set_option maxRecDepth 100000 in
theorem open_planV {H:Type}{enc:TypeId×Value->H}{w:World}{base:Nat}{spare:Nat->Bool}{held:Bool}{r:Reach}{b0:Nat}{v:Value}{d:DataW H}{q:List MemPlace}(hv:Value.okWide Tryz.prog w r b0 26 v) (h:DataW.Trod enc Tryz.prog w base spare held 26 v d q):
  ∃(p:Pl) (wa ya ba:Option Addr) (wc yc bc:Nat),v=.agg #[.int .i64 p.sec,.slice wa p.nw wc,.slice ya p.ny yc,.slice ba p.nb bc,.int .i64 p.hold]/\p.fits/\PlIn 0 w p wa ya ba:=by
 obtain⟨cs,rfl,hsz⟩:=okWide_struct Tryz.underlying26 hv
 obtain⟨fuel,hf⟩:=h
 obtain⟨p,wa,ya,ba,wc,yc,bc,he,h1,h2⟩:=open_plan hf
 refine⟨p,wa,ya,ba,wc,yc,bc,?_,h1,h2⟩
 have :cs.toList=_:=he
 rw[<-Array.toArray_toList (xs:=cs),this]
section
variable {H:Type}{enc:TypeId×Value->H}{w:World}{base:Nat}{spare:Nat->Bool}{held:Bool}
theorem cells31:Tryz.prog.cellsOf 31=4:=by kernel_rfl
theorem cells28p:Tryz.prog.cellsOf 28=1:=by kernel_rfl
theorem cells29h:Tryz.prog.cellsOf 29=1:=by kernel_rfl
theorem cells129:Tryz.prog.cellsOf 129=2:=by kernel_rfl
theorem cells122:Tryz.prog.cellsOf 122=5:=by kernel_rfl
theorem list4 {α:Type}{l:List α}(h:l.length=4):∃a b c d,l= [a,b,c,d]:=by
 match l,h with
 | [a,b,c,d],_=>exact⟨a,b,c,d,rfl⟩
theorem open_point {n:Nat}{cs:List Value}{y:DataW H×List MemPlace}(h:DataW.trod enc Tryz.prog w base spare held n 129 cs=some y):∃p:Int×Int,cs= [.int .i64 p.1,.int .i64 p.2]:=by
 obtain⟨y0,y1,k,_,hl,h0,h1⟩:=trod_struct2 Tryz.underlying129 h
 obtain⟨v0,v1,rfl⟩:=list2 (hl.trans cells129)
 simp only[cells3,List.drop_zero,List.drop_succ_cons,List.take_succ_cons,List.take_zero] at h0 h1
 obtain⟨a,e1,_,_⟩:=DataW.trod_int Tryz.underlying3 h0
 obtain⟨b,e2,_,_⟩:=DataW.trod_int Tryz.underlying3 h1
 simp only[List.cons.injEq,and_true] at e1 e2
 exact⟨(a,b),by rw[e1,e2]⟩
theorem open_points {fuel:Nat}{v:Value}{x:DataW H×List MemPlace}(h:DataW.trod enc Tryz.prog w base spare held fuel 28 [v]=some x):
  ∃(a:Option Addr) (n cap:Nat) (F:Nat->Nat->Int),v=.slice a n cap/\n<=maxLen/\VsAt 2 0 w a n (intF F):=by
 obtain⟨a,n,cap,L,rfl,hn,g⟩:=open_vlist (0,0) (fun p:Int×Int=> [.int .i64 p.1,.int .i64 p.2]) (c:=1) Tryz.underlying28 cells129 (fun _=>rfl) (fun h=>open_point h) h
 refine⟨a,n,cap,fun i j=>if j=0 then(L i).1 else(L i).2,rfl,hn,g.congr fun i _ j hj=>?_⟩
 rcases(show j=0\/j=1 by omega) with rfl|rfl<;>rfl
theorem open_held {n:Nat}{cs:List Value}{y:DataW H×List MemPlace}(h:DataW.trod enc Tryz.prog w base spare held n 122 cs=some y):
  ∃(k:Hl) (ra:Option Addr) (rc:Nat),cs= [.int .i64 k.st,.int .i64 k.gone,.slice ra k.nb rc,.bool k.shown,.int .i64 k.timer]/\k.nb<=maxLen/\VsAt 1 0 w ra k.nb (boolF k.B):=by
 obtain⟨y0,y1,y2,y3,y4,k,hl,h0,h1,h2,h3,h4⟩:=trod_struct5 Tryz.underlying122 h
 obtain⟨v0,v1,v2,v3,v4,rfl⟩:=list5 (hl.trans cells122)
 simp only[cells3,cells4,cells38,List.drop_zero,List.drop_succ_cons,List.take_succ_cons,List.take_zero] at h0 h1 h2 h3 h4
 obtain⟨s,e0⟩:=open_int1 h0
 obtain⟨g,e1⟩:=open_int1 h1
 obtain⟨ra,nb,rc,B,rfl,n2,g2⟩:=open_boolL h2
 obtain⟨sh,e3⟩:=open_bool h3
 obtain⟨t,e4⟩:=open_int1 h4
 simp only[List.cons.injEq,and_true] at e0 e1 e3 e4
 exact⟨⟨s,g,nb,B,sh,t⟩,ra,rc,by rw[e0,e1,e3,e4],n2,g2⟩
def noHl:Hl:=⟨0,0,0,fun _=>false,false,0⟩
theorem open_helds {fuel:Nat}{v:Value}{x:DataW H×List MemPlace}(h:DataW.trod enc Tryz.prog w base spare held fuel 29 [v]=some x):
  ∃(a:Option Addr) (n cap:Nat) (R:Nat->Hl),v=.slice a n cap/\n<=maxLen/\HsAt 0 w a n R/\∀i,i<n->(R i).nb<=maxLen:=by
 rcases open_slice Tryz.underlying29 h with⟨hcs,_⟩|⟨a,len,cap,m,k,D,Pl,hcs,_,hl,hm,hmm,_,hel⟩
 ·
  simp only[List.cons.injEq,and_true] at hcs
  exact⟨none,0,0,fun _=>noHl,hcs,by simp[maxLen],fun h=>absurd h (by omega),fun i hi=>absurd hi (by omega)⟩
 ·
  simp only[List.cons.injEq,and_true] at hcs
  have hlm:len<=m:=by rw[hmm];split<;>omega
  rw[cells122] at hel
  obtain⟨R,hR⟩:= @choose_lt Hl ⟨noHl⟩ len (fun i r=>∃(ra:Option Addr) (rc:Nat),w.cells? base (a.add (i*5)) 5=some [.int .i64 r.st,.int .i64 r.gone,.slice ra r.nb rc,.bool r.shown,.int .i64 r.timer]/\r.nb<=maxLen/\VsAt 1 0 w ra r.nb (boolF r.B)) (fun i hi=>by
   obtain⟨cs',h1,h2⟩:=hel i (by omega)
   obtain⟨r,ra,rc,rfl,hp⟩:=open_held h2
   exact⟨r,ra,rc,h1,hp⟩)
  refine⟨some a,len,cap,R,hcs,by omega,fun h0=>?_,fun i hi=>by obtain⟨_,_,_,h1,_⟩:=hR i hi;exact h1⟩
  obtain⟨b,off,sp⟩:=a
  have hs:sp=none:=by
   obtain⟨_,_,h1,_⟩:=hR 0 h0
   rw[Nat.zero_mul] at h1
   exact spot_none h1
  subst hs
  have hcell:∀i,i<len->∃ra rc,
    w.cell? (ad b (off+i*5))=some (.int .i64 (R i).st)/\w.cell? (ad b (off+i*5+1))=some (.int .i64 (R i).gone)∧
    w.cell? (ad b (off+i*5+2))=some (.slice ra (R i).nb rc)/\w.cell? (ad b (off+i*5+3))=some (.bool (R i).shown)∧
    w.cell? (ad b (off+i*5+4))=some (.int .i64 (R i).timer)/\VsAt 1 0 w ra (R i).nb (boolF (R i).B):=fun i hi=>by
   obtain⟨ra,rc,h1,_,hE⟩:=hR i hi
   obtain⟨_,_,hc⟩:=World.cells?_some h1
   rw[add_none] at hc
   have g0:=hc 0 (by omega)
   have g1:=hc 1 (by omega)
   have g2:=hc 2 (by omega)
   have g3:=hc 3 (by omega)
   have g4:=hc 4 (by omega)
   rw[add_none] at g0 g1 g2 g3 g4
   exact⟨ra,rc,g0,g1,g2,g3,g4,hE⟩
  obtain⟨_,_,h1,_⟩:=hcell 0 h0
  exact⟨b,off,rfl,Nat.zero_le _,World.block_lt_of_cell? w _ h1,hcell⟩
theorem trod_struct4f {P:Program}{t:TypeId}{f0 f1 f2 f3:Field}{fuel:Nat}{cs:List Value}{x:DataW H×List MemPlace}(ht:P.underlying t=some (.struct #[f0,f1,f2,f3])) (h:DataW.trod enc P w base spare held fuel t cs=some x):
  ∃y0 y1 y2 y3 n,cs.length=P.cellsOf t/\DataW.trod enc P w base spare held n f0.type ((cs.drop f0.offset).take (P.cellsOf f0.type))=some y0∧
   DataW.trod enc P w base spare held n f1.type ((cs.drop f1.offset).take (P.cellsOf f1.type))=some y1/\DataW.trod enc P w base spare held n f2.type ((cs.drop f2.offset).take (P.cellsOf f2.type))=some y2∧
   DataW.trod enc P w base spare held n f3.type ((cs.drop f3.offset).take (P.cellsOf f3.type))=some y3:=by
 obtain⟨xs,n,_,rfl,hl,hlen,hf⟩:=DataW.trod_struct ht h
 match xs,hlen with
 | [y0,y1,y2,y3],_=>exact⟨y0,y1,y2,y3,n,hl,by simpa using hf 0 f0 rfl,by simpa using hf 1 f1 rfl,by simpa using hf 2 f2 rfl,by simpa using hf 3 f3 rfl⟩
theorem open_frame {n:Nat}{cs:List Value}{y:DataW H×List MemPlace}(h:DataW.trod enc Tryz.prog w base spare held n 31 cs=some y):
  ∃(f:Fm) (oa pa ha:Option Addr) (oc pc hc:Nat),cs= [.bool f.ok,.slice oa f.no oc,.slice pa f.np pc,.slice ha f.nh hc]/\f.fits/\FmIn 0 w f oa pa ha:=by
 obtain⟨y0,y1,y2,y3,k,hl,h0,h1,h2,h3⟩:=trod_struct4f Tryz.underlying31 h
 obtain⟨v0,v1,v2,v3,rfl⟩:=list4 (hl.trans cells31)
 simp only[cells4,cells38,cells28p,cells29h,List.drop_zero,List.drop_succ_cons,List.take_succ_cons,List.take_zero] at h0 h1 h2 h3
 obtain⟨ok,e0⟩:=open_bool h0
 obtain⟨oa,no,oc,O,rfl,n1,g1⟩:=open_boolL h1
 obtain⟨pa,np,pc,P,rfl,n2,g2⟩:=open_points h2
 obtain⟨ha,nh,hc,Y,rfl,n3,g3,k3⟩:=open_helds h3
 simp only[List.cons.injEq,and_true] at e0
 exact⟨⟨ok,no,O,np,P,nh,Y⟩,oa,pa,ha,oc,pc,hc,by rw[e0],⟨n1,n2,n3,k3⟩,⟨g1,g2,g3⟩⟩
end
set_option maxRecDepth 100000 in
theorem open_frameV {H:Type}{enc:TypeId×Value->H}{w:World}{base:Nat}{spare:Nat->Bool}{held:Bool}{r:Reach}{b0:Nat}{v:Value}{d:DataW H}{q:List MemPlace}(hv:Value.okWide Tryz.prog w r b0 31 v) (h:DataW.Trod enc Tryz.prog w base spare held 31 v d q):
  ∃(f:Fm) (oa pa ha:Option Addr) (oc pc hc:Nat),v=.agg #[.bool f.ok,.slice oa f.no oc,.slice pa f.np pc,.slice ha f.nh hc]/\f.fits/\FmIn 0 w f oa pa ha:=by
 obtain⟨cs,rfl,hsz⟩:=okWide_struct Tryz.underlying31 hv
 obtain⟨fuel,hf⟩:=h
 obtain⟨f,oa,pa,ha,oc,pc,hc,he,h1,h2⟩:=open_frame hf
 refine⟨f,oa,pa,ha,oc,pc,hc,?_,h1,h2⟩
 have :cs.toList=_:=he
 rw[<-Array.toArray_toList (xs:=cs),this]
end Go.Proofs.YtkeilejbelblcaaGreatDoor
namespace Go.Proofs.YtkeilejbelblcaaGreatDoor
open Go.ChangeShapes Go.WideShapes Go.ChangeAt Go.RowKit Go.Joins
theorem laid_all {P:Program}{nm:String}{W:World}{ti tp te ts:TypeId}{ms:Array (String×TypeId)}{f:Field}
  (hi:P.underlying ti=some (.interface ms)) (hrow:∀u,P.typeName? 3 u=some nm->u=tp)
  (hp:P.underlying tp=some (.pointer te)) (he:P.underlying te=some (.struct #[f])) (hft:f.type=ts) (hfo:f.offset=0) (hs:P.underlying ts=some .string) (hc:P.cellsOf te=1) (hcs:P.cellsOf ts=1):
  ∀(L:List (String×List UInt8)) (ps:List MemPlace),DataW.LaidVars P W (L.map fun x=>(x.1,DataW.iface nm (.ptr (.agg [.lit (.string x.2)])))) ps->ps.Nodup→
   (∀b off,MemPlace.cell b off ∈ ps->(∃c t,W.heap[b]?=some (.cells c t (0,0)))/\∀u v,W.cell? (ad b off)=some (.iface u v)->Value.okWide P W .any 0 u v)→
   (∀x,x ∈ L->∃g,P.globalNamed x.1=some g/\(P.globals[g]?).map (·.type)=some ti)→
   ∃A:Nat->Addr,(∀i x,L[i]?=some x->W.var? P x.1=some #[.iface tp (.pointer (some (A i)))]/\MemPlace.cell (A i).block (A i).off ∈ ps/\∃c t,W.heap[(A i).block]?=some (.cells c t (0,0)))∧
    ∀i j,i<L.length->j<L.length->A i=A j->i=j
 | [],_,_,_,_,_=>⟨fun _=>(ad 0 0),fun i x h=>by simp at h,fun i j h=>absurd h (Nat.not_lt_zero _)⟩
 |x::L,ps,h,hnd,hrows,hg=>by
  obtain⟨g0,t0,cs0,f0,p0,q0,hg0,ht0,hv0,hd0,hr,e0⟩:=h
  obtain⟨g,hg1,hg2⟩:=hg x (List.mem_cons_self ..)
  obtain rfl:=Option.some.inj (hg1.symm.trans hg0)
  obtain rfl:=Option.some.inj (hg2.symm.trans ht0)
  subst e0
  obtain⟨l0⟩:=cs0
  have ok0:∀u v,l0= [.iface u v]->Value.okWide P W .any 0 u v:=fun u v e=>by
   subst e
   exact(hrows g 0 (by simp[MemPlace.row])).2 u v (by simpa using World.var?_cell hg0 hv0 0)
  obtain⟨a0,s0,rfl,hc0,hs0,hz0,rfl⟩:=errorString_of_trod hi hrow hp he hft hfo hs hc hcs hd0 ok0
  have hnd2:=List.Nodup.sublist (List.sublist_append_right _ _) hnd
  obtain⟨A,hA,hI⟩:=laid_all hi hrow hp he hft hfo hs hc hcs L q0 hr hnd2 (fun b off hm=>hrows b off (List.mem_append_right _ hm)) (fun y hy=>hg y (List.mem_cons_of_mem _ hy))
  have hne:∀i,i<L.length->a0≠A i:=fun i hl e=>by
   have h1:=(hA i L[i] (List.getElem?_eq_getElem hl)).2.1
   rw[<-e] at h1
   have h2:=(List.nodup_append.1 hnd).2.2
   exact h2 (MemPlace.cell a0.block a0.off) (by simp[MemPlace.row]) _ h1 rfl
  refine⟨fun i=>match i with |0=>a0|i+1=>A i,fun i y hy=>?_,fun i j hl1 hl2 e=>?_⟩
  ·
   match i,hy with
   |0,hy=>
    obtain rfl:x=y:=by simpa using hy
    exact⟨hv0,by simp[MemPlace.row],(hrows a0.block a0.off (by simp[MemPlace.row])).1⟩
   |i+1,hy=>
    obtain⟨h1,h2,h3⟩:=hA i y (by simpa using hy)
    exact⟨h1,List.mem_append_right _ h2,h3⟩
  ·
   match i,j,hl1,hl2,e with
   |0,0,_,_,_=>rfl
   |0,j+1,_,hl2,e=>exact absurd e (hne j (by simpa using hl2))
   |i+1,0,hl1,_,e=>exact absurd e.symm (hne i (by simpa using hl1))
   |i+1,j+1,hl1,hl2,e=>exact congrArg Nat.succ (hI i j (by simpa using hl1) (by simpa using hl2) e)
theorem vars_readN {H:Type}(enc:TypeId×Value->H) {P:Program}{W:World}{ti:TypeId}{ms:Array (String×TypeId)}(hi:P.underlying ti=some (.interface ms)) (sp:Nat->Bool):
  ∀L:List (String×Nat×Value),(∀x,x ∈ L->P.globalNamed x.1=some x.2.1/\(P.globals[x.2.1]?).map (·.type)=some ti/\W.var? P x.1=some #[x.2.2]/\IsIface x.2.2)→
   DataW.TrodVars enc P W sp (L.map fun x=>x.1) (L.map fun x=>tok enc x.2.2) (L.map fun x=>.cell x.2.1 0)
 | [],_=>rfl
 |x::L,h=>by
  obtain⟨h1,h2,h3,h4⟩:=h x (List.mem_cons_self ..)
  exact⟨x.2.1,ti,#[x.2.2],1,[],_,h1,h2,h3,trod_held hi h4 0,vars_readN enc hi sp L fun y hy=>h y (List.mem_cons_of_mem _ hy),rfl⟩
theorem var?_below {P:Program}{B g:Nat}{W W':World}{n:String}{cs:Array Value}(h:Below B W W') (hg:P.globalNamed n=some g) (hgB:g<B) (hv:W.var? P n=some cs):W'.var? P n=some cs:=by
 unfold World.var? at hv⊢
 simp only[hg,Option.bind_some] at hv⊢
 rw[h.block g hgB]
 exact hv
end Go.Proofs.YtkeilejbelblcaaGreatDoor
