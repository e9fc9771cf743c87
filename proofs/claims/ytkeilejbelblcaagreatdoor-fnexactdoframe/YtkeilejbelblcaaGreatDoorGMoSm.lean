import Derived.Test.YtkeilejbelblcaaGreatDoorJab
import Derived.Test.YtkeilejbelblcaaGreatDoorJac
namespace Go.Proofs.YtkeilejbelblcaaGreatDoor
open Go.RowKit
def inB (x a b:Int):Bool:=decide (a<=x)&&decide (x<=b)
def allB (f:Nat->Bool):Nat->Bool
 |0=>true
 |n+1=>allB f n&&f n
theorem allB_iff {f:Nat->Bool}:∀ {n:Nat},allB f n=true↔∀i,i<n->f i=true
 |0=>⟨fun _ i hi=>absurd hi (Nat.not_lt_zero _),fun _=>rfl⟩
 |n+1=>by
  simp only[allB,Bool.and_eq_true,allB_iff (n:=n)]
  refine⟨fun h i hi=>?_,fun h=>⟨fun i hi=>h i (by omega),h n (by omega)⟩⟩
  by_cases e:i=n
  ·
   subst e
   exact h.2
  ·
   exact h.1 i (by omega)
theorem allB_no {f:Nat->Bool}{n k:Nat}(hk:k<n) (h:f k=false):allB f n=false:=by
 cases e:allB f n with
 |false=>rfl
 |true=>rw[allB_iff.1 e k hk] at h;cases h
theorem allB_congr {f g:Nat->Bool}{n:Nat}(h:∀i,i<n->f i=g i):allB f n=allB g n:=by
 cases e:allB g n with
 |true=>exact allB_iff.2 fun i hi=>(h i hi).trans (allB_iff.1 e i hi)
 |false=>
  cases e2:allB f n with
  |false=>rfl
  |true=>rw[allB_iff.2 fun i hi=>(h i hi).symm.trans (allB_iff.1 e2 i hi)] at e;cases e
def anyB (f:Nat->Bool) (n:Nat):Bool:=!allB (fun i=>!f i) n
theorem anyB_yes {f:Nat->Bool}{n k:Nat}(hk:k<n) (h:f k=true):anyB f n=true:=by
 simp[anyB,allB_no (f:=fun i=>!f i) hk (by simp[h])]
theorem anyB_no {f:Nat->Bool}{n:Nat}(h:∀i,i<n->f i=false):anyB f n=false:=by
 have :allB (fun i=>!f i) n=true:=allB_iff.2 fun i hi=>by simp[h i hi]
 simp[anyB,this]
theorem anyB_iff {f:Nat->Bool}{n:Nat}:anyB f n=true↔∃i,i<n/\f i=true:=by
 refine⟨fun h=>?_,fun⟨i,hi,h⟩=>anyB_yes hi h⟩
 cases e:allB (fun i=>!f i) n with
 |true=>simp[anyB,e] at h
 |false=>
  apply Classical.byContradiction
  intro hn
  have :allB (fun i=>!f i) n=true:=allB_iff.2 fun i hi=>by
   cases e2:f i with
   |false=>rfl
   |true=>exact absurd ⟨i,hi,e2⟩ hn
  rw[this] at e
  cases e
def firstB (p:Nat->Bool):Nat->Option Nat
 |0=>none
 |k+1=>match firstB p k with
  |some i=>some i
  |none=>if p k then some k else none
theorem firstB_none {p:Nat->Bool}{n:Nat}(h:∀q,q<n->p q=false):firstB p n=none:=by
 induction n with
 |zero=>rfl
 |succ n ih=>simp[firstB,ih (fun q hq=>h q (by omega)),h n (by omega)]
theorem firstB_hit {p:Nat->Bool}{n k:Nat}(h:∀q,q<k->p q=false) (hk:k<n) (hp:p k=true):firstB p n=some k:=by
 induction n with
 |zero=>omega
 |succ n ih=>
  by_cases e:k=n
  ·
   subst e
   simp[firstB,firstB_none h,hp]
  ·
   simp[firstB,ih (by omega)]
def elF (S:Nat->Int) (m:Int) (i:Nat):Bool:=inB (S i) 0 (m-1)&&allB (fun k=>decide (S k≠S i)) i
def listF (S:Nat->Int) (n:Nat) (m:Int):Bool:=allB (elF S m) n&&decide (n<=30)
def tuF (L:Nat->Nat->Int) (m:Nat) (i:Nat):Bool:=inB (L i 0) 0 ((m:Int)-1)&&inB (L i 1) 1 2&&allB (fun k=>decide (L k 0≠L i 0)) i
def liesF (L:Nat->Nat->Int) (n m:Nat):Bool:=allB (tuF L m) n&&decide (n<=30)
def meetF (A:Nat->Int) (n:Nat) (B:Nat->Int) (m:Nat):Bool:=anyB (fun i=>anyB (fun j=>decide (A i=B j)) m) n
def onF (p:Pl) (y:Wy) (i:Nat):Bool:=allB (fun j=>decide (y.L i 0≠y.F j 0)) y.nf&&meetF (fun _=>p.W (y.L i 0).toNat) 1 y.S y.ns
def wayF (p:Pl) (y:Wy):Bool:=decide (0<y.ns)&&listF y.S y.ns p.sec&&listF y.O y.no p.sec&&listF y.M y.nm p.sec&&liesF y.L y.nl p.nw&&liesF y.F y.nf p.nw&&allB (onF p y) y.nl&&!meetF y.O y.no y.S y.ns
def barF (p:Pl) (i k:Nat):Bool:=decide (p.T i k≠p.T k i)||(decide (i≠k)&&!p.T i k&&meetF (p.Y i).S (p.Y i).ns (p.Y k).S (p.Y k).ns)
def plan5 (p:Pl):Int×Int:=match firstB (fun i=>anyB (barF p i) (p.K i)) p.nb with
 |some i=>(5,(i:Int))
 |none=>(0,0)
def plan4 (p:Pl):Int×Int:=if p.nb=p.ny then match firstB (fun i=>decide (p.K i≠p.ny)) p.nb with
 |some i=>(4,(i:Int))
 |none=>plan5 p else(4,0)
def plan3 (p:Pl):Int×Int:=match firstB (fun i=>!wayF p (p.Y i)) p.ny with
 |some i=>(3,(i:Int))
 |none=>plan4 p
def plan2 (p:Pl):Int×Int:=match firstB (fun i=>!inB (p.W i) 0 (p.sec-1)) p.nw with
 |some i=>(2,(i:Int))
 |none=>plan3 p
def headF (p:Pl):Bool:=inB p.sec 1 60&&inB p.hold 1 300&&decide (p.nw<=40)&&decide (p.ny<=100)
def planF (p:Pl):Int×Int:=if headF p then plan2 p else(1,0)
structure Vw where
 n:Nat
 O:Nat->Bool
 prv:Bool
inductive WS where
 |idle
 |set (sh:Bool)
 |clear
 |taking (t:Int)
 |used (g:Nat) (B:Nat->Bool) (sh:Bool)
def WS.held (n:Nat):WS->Hl
 | .idle=>⟨0,0,n,fun _=>false,false,0⟩
 | .set sh=>⟨1,0,n,fun _=>false,sh,0⟩
 | .clear=>⟨2,0,n,fun _=>false,true,0⟩
 | .taking t=>⟨3,0,n,fun _=>false,true,t⟩
 | .used g B sh=>⟨4,(g:Int),n,B,sh,0⟩
def passN (n:Nat) (B O:Nat->Bool):Nat->Nat->Nat
 |0,g=>g
 |k+1,g=>if g<n/\B g=true/\O g=false/\(g+1=n\/B (g+1)=true) then passN n B O k (g+1) else g
theorem passN_ge (n:Nat) (B O:Nat->Bool):∀k g,g<=passN n B O k g
 |0,g=>Nat.le_refl _
 |k+1,g=>by
  unfold passN
  split
  ·
   exact Nat.le_trans (Nat.le_succ g) (passN_ge n B O k (g+1))
  ·
   exact Nat.le_refl _
def stopB (n:Nat) (B O:Nat->Bool) (g:Nat):Bool:=!(decide (g<n)&&(B g&&(!O g&&(decide (g+1=n)||B (g+1)))))
theorem passN_stop {n:Nat}{B O:Nat->Bool}{g:Nat}(k:Nat):stopB n B O g=true->passN n B O k g=g:=by
 intro h
 cases k with
 |zero=>rfl
 |succ k=>
  unfold passN
  rw[if_neg]
  intro ⟨h1,h2,h3,h4⟩
  have :stopB n B O g=false:=by
   rcases h4 with h4|h4<;>simp[stopB,h1,h2,h3,h4]
  rw[this] at h
  cases h
def onB (B O:Nat->Bool):Nat->Bool:=fun j=>B j||O j
def useS (v:Vw) (g:Nat) (B:Nat->Bool) (sh:Bool):WS:=
 let B':=onB B v.O
 let g':=passN v.n B' v.O v.n g
 if g'=v.n then .idle else .used g' B' sh
def WS.settle (v:Vw):WS->WS
 | .idle=>.idle
 | .set sh=>if v.O 0 then useS v 0 (fun _=>false) sh else if v.prv then .clear else .set sh
 | .clear=>if v.O 0 then useS v 0 (fun _=>false) true else if v.prv then .clear else .set true
 | .taking t=>if v.O 0 then useS v 0 (fun _=>false) true else .taking t
 | .used g B sh=>useS v g B sh
def useH (v:Vw) (h:Hl):Hl:=
 let B':=onB h.B v.O
 let g':=passN v.n B' v.O v.n h.gone.toNat
 if g'=v.n then⟨0,0,h.nb,fun _=>false,false,0⟩ else⟨4,(g':Int),h.nb,B',h.shown,0⟩
def setH (v:Vw) (h:Hl):Hl:=
 if h.st=0 then h
 else if h.st≠4/\v.O 0=true then useH v h
 else if h.st=1\/h.st=2 then(if v.prv then⟨2,h.gone,h.nb,h.B,true,h.timer⟩ else⟨1,h.gone,h.nb,h.B,h.shown,h.timer⟩)
 else if h.st=4 then useH v h
 else h
theorem held_use (v:Vw) (g:Nat) (B:Nat->Bool) (sh:Bool) (st:Int) (t:Int):(useS v g B sh).held v.n=useH v ⟨st,(g:Int),v.n,B,sh,t⟩:=by
 unfold useS useH
 simp only[Int.toNat_natCast]
 split<;>rfl
theorem held_settle (v:Vw) (s:WS):(s.settle v).held v.n=setH v (s.held v.n):=by
 cases s with
 |idle=>rfl
 |set sh=>
  simp only[WS.settle,setH,WS.held]
  by_cases h0:v.O 0=true
  ·
   rw[if_pos h0]
   simp only[h0]
   exact held_use v 0 _ sh 1 0
  ·
   rw[if_neg h0]
   cases hp:v.prv<;>simp[h0]
 |clear=>
  simp only[WS.settle,setH,WS.held]
  by_cases h0:v.O 0=true
  ·
   rw[if_pos h0]
   simp only[h0]
   exact held_use v 0 _ true 2 0
  ·
   rw[if_neg h0]
   cases hp:v.prv<;>simp[h0]
 |taking t=>
  simp only[WS.settle,setH,WS.held]
  by_cases h0:v.O 0=true
  ·
   rw[if_pos h0]
   simp only[h0]
   exact held_use v 0 _ true 3 t
  ·
   rw[if_neg h0]
   simp[h0]
 |used g B sh=>
  simp only[WS.settle,setH,WS.held]
  exact held_use v g B sh 4 0
def heldB (h:Hl) (n:Nat) (hold:Int):Bool:=
 (inB h.st 0 4&&(decide (h.nb=n)&&inB h.gone 0 ((n:Int)-1)))&&
 ((decide (h.st=4)||(allB (fun j=>!h.B j) h.nb&&decide (h.gone=0)))&&
 (allB h.B h.gone.toNat&&
 (if h.st=3 then h.shown&&inB h.timer 1 hold else(decide (h.timer=0)&&((decide (h.st≠0)||!h.shown)&&(decide (h.st≠2)||h.shown))))))
def likeH (a b:Hl):Prop:=a.st=b.st/\a.gone=b.gone/\a.nb=b.nb/\(∀j,j<a.nb->a.B j=b.B j)/\a.shown=b.shown/\a.timer=b.timer
def stateF (h:Hl) (n:Nat) (hold:Int):Option WS:=
 if h.nb≠n then none
 else if h.st=0 then some .idle
 else if h.st=1 then some (.set h.shown)
 else if h.st=2 then some .clear
 else if h.st=3 then(if inB h.timer 1 hold then some (.taking h.timer) else none)
 else if h.st=4 then(if inB h.gone 0 ((n:Int)-1)&&allB h.B h.gone.toNat then some (.used h.gone.toNat h.B h.shown) else none)
 else none
theorem likeH.refl (a:Hl):likeH a a:=⟨rfl,rfl,rfl,fun _ _=>rfl,rfl,rfl⟩
theorem likeH.symm {a b:Hl}(h:likeH a b):likeH b a:=⟨h.1.symm,h.2.1.symm,h.2.2.1.symm,fun j hj=>(h.2.2.2.1 j (by rw[h.2.2.1];exact hj)).symm,h.2.2.2.2.1.symm,h.2.2.2.2.2.symm⟩
theorem likeH.trans {a b c:Hl}(h:likeH a b) (k:likeH b c):likeH a c:=⟨h.1.trans k.1,h.2.1.trans k.2.1,h.2.2.1.trans k.2.2.1,fun j hj=>(h.2.2.2.1 j hj).trans (k.2.2.2.1 j (by rw[<-h.2.2.1];exact hj)),h.2.2.2.2.1.trans k.2.2.2.2.1,h.2.2.2.2.2.trans k.2.2.2.2.2⟩
theorem passN_congr {n:Nat}{B C O:Nat->Bool}(h:∀j,j<n->B j=C j):∀k g,passN n B O k g=passN n C O k g
 |0,_=>rfl
 |k+1,g=>by
  unfold passN
  by_cases hg:g<n
  ·
   have e1:=h g hg
   by_cases hn:g+1=n
   ·
    rw[passN_congr h k (g+1),e1]
    simp only[hn,true_or]
   ·
    rw[passN_congr h k (g+1),e1,h (g+1) (by omega)]
  ·
   rw[if_neg (fun x=>hg x.1),if_neg (fun x=>hg x.1)]
theorem useH_like {v:Vw}{a b:Hl}(h:likeH a b) (hn:a.nb=v.n):likeH (useH v a) (useH v b):=by
 obtain⟨h1,h2,h3,h4,h5,h6⟩:=h
 have hB:∀j,j<v.n->onB a.B v.O j=onB b.B v.O j:=fun j hj=>by
  unfold onB
  rw[h4 j (by omega)]
 unfold useH
 simp only[h2,passN_congr hB v.n b.gone.toNat,h5,h3]
 split
 ·
  exact likeH.refl _
 ·
  exact⟨rfl,rfl,rfl,fun j hj=>hB j (by rw[<-hn,h3];exact hj),rfl,rfl⟩
theorem setH_like {v:Vw}{a b:Hl}(h:likeH a b) (hn:a.nb=v.n):likeH (setH v a) (setH v b):=by
 have hu:=useH_like h hn
 obtain⟨h1,h2,h3,h4,h5,h6⟩:=h
 unfold setH
 rw[h1]
 split
 ·
  exact⟨h1,h2,h3,h4,h5,h6⟩
 ·
  split
  ·
   exact hu
  ·
   split
   ·
    split
    ·
     exact⟨rfl,h2,h3,h4,rfl,h6⟩
    ·
     exact⟨rfl,h2,h3,h4,h5,h6⟩
   ·
    split
    ·
     exact hu
    ·
     exact⟨h1,h2,h3,h4,h5,h6⟩
theorem held_nb (n:Nat) (s:WS):(s.held n).nb=n:=by cases s<;>rfl
theorem state_of_held {h:Hl}{n:Nat}{hold:Int}(hk:heldB h n hold=true):∃s,stateF h n hold=some s/\likeH (s.held n) h:=by
 simp only[heldB,Bool.and_eq_true,Bool.or_eq_true,decide_eq_true_eq,allB_iff,Bool.not_eq_true',inB] at hk
 obtain⟨⟨⟨k1,k2⟩,k3,k4,k5⟩,k6,k7,k8⟩:=hk
 unfold stateF
 rw[if_neg (by simp[k3])]
 rcases(show h.st=0\/h.st=1\/h.st=2\/h.st=3\/h.st=4 by omega) with e|e|e|e|e
 ·
  rcases k6 with k6|⟨k6,k9⟩
  ·
   omega
  ·
   rw[if_neg (by omega)] at k8
   simp only[Bool.and_eq_true,Bool.or_eq_true,decide_eq_true_eq,Bool.not_eq_true'] at k8
   obtain⟨t1,t2,t3⟩:=k8
   refine⟨.idle,by rw[if_pos e],⟨e.symm,k9.symm,k3.symm,fun j hj=>(k6 j (by rw[k3];exact hj)).symm,?_,t1.symm⟩⟩
   rcases t2 with t2|t2
   ·
    exact absurd e t2
   ·
    exact t2.symm
 ·
  rcases k6 with k6|⟨k6,k9⟩
  ·
   omega
  ·
   rw[if_neg (by omega)] at k8
   simp only[Bool.and_eq_true,Bool.or_eq_true,decide_eq_true_eq,Bool.not_eq_true'] at k8
   exact⟨.set h.shown,by rw[if_neg (by omega),if_pos e],⟨e.symm,k9.symm,k3.symm,fun j hj=>(k6 j (by rw[k3];exact hj)).symm,rfl,k8.1.symm⟩⟩
 ·
  rcases k6 with k6|⟨k6,k9⟩
  ·
   omega
  ·
   rw[if_neg (by omega)] at k8
   simp only[Bool.and_eq_true,Bool.or_eq_true,decide_eq_true_eq,Bool.not_eq_true'] at k8
   obtain⟨t1,t2,t3⟩:=k8
   refine⟨.clear,by rw[if_neg (by omega),if_neg (by omega),if_pos e],⟨e.symm,k9.symm,k3.symm,fun j hj=>(k6 j (by rw[k3];exact hj)).symm,?_,t1.symm⟩⟩
   rcases t3 with t3|t3
   ·
    exact absurd e t3
   ·
    exact t3.symm
 ·
  rcases k6 with k6|⟨k6,k9⟩
  ·
   omega
  ·
   rw[if_pos e] at k8
   simp only[Bool.and_eq_true] at k8
   refine⟨.taking h.timer,?_,⟨e.symm,k9.symm,k3.symm,fun j hj=>(k6 j (by rw[k3];exact hj)).symm,k8.1.symm,rfl⟩⟩
   rw[if_neg (by omega),if_neg (by omega),if_neg (by omega),if_pos e,if_pos (by simpa [inB] using k8.2)]
 ·
  rw[if_neg (by omega)] at k8
  simp only[Bool.and_eq_true,Bool.or_eq_true,decide_eq_true_eq,Bool.not_eq_true'] at k8
  refine⟨.used h.gone.toNat h.B h.shown,?_,⟨e.symm,?_,k3.symm,fun _ _=>rfl,rfl,k8.1.symm⟩⟩
  ·
   rw[if_neg (by omega),if_neg (by omega),if_neg (by omega),if_neg (by omega),if_pos e,if_pos]
   simp only[Bool.and_eq_true,inB,decide_eq_true_eq,allB_iff]
   exact⟨⟨k4,k5⟩,k7⟩
  ·
   show((h.gone.toNat:Nat):Int)=h.gone
   omega
theorem stateF_cases {h:Hl}{n:Nat}{hold:Int}{s:WS}(hs:stateF h n hold=some s):h.nb=n/\((h.st=0/\s=.idle)\/(h.st=1/\s=.set h.shown)\/(h.st=2/\s=.clear)\/(h.st=3/\s=.taking h.timer/\1<=h.timer/\h.timer<=hold)\/(h.st=4/\s=.used h.gone.toNat h.B h.shown/\0<=h.gone/\h.gone<=(n:Int)-1/\∀j,j<h.gone.toNat->h.B j=true)):=by
 unfold stateF at hs
 split at hs
 ·
  cases hs
 ·
  rename_i hn
  refine⟨by omega,?_⟩
  split at hs
  ·
   rename_i e
   exact .inl ⟨e,(Option.some.inj hs).symm⟩
  ·
   split at hs
   ·
    rename_i e
    exact .inr (.inl ⟨e,(Option.some.inj hs).symm⟩)
   ·
    split at hs
    ·
     rename_i e
     exact .inr (.inr (.inl ⟨e,(Option.some.inj hs).symm⟩))
    ·
     split at hs
     ·
      rename_i e
      split at hs
      ·
       rename_i hb
       simp only[inB,Bool.and_eq_true,decide_eq_true_eq] at hb
       exact .inr (.inr (.inr (.inl ⟨e,(Option.some.inj hs).symm,hb.1,hb.2⟩)))
      ·
       cases hs
     ·
      split at hs
      ·
       rename_i e
       split at hs
       ·
        rename_i hb
        simp only[inB,Bool.and_eq_true,decide_eq_true_eq,allB_iff] at hb
        exact .inr (.inr (.inr (.inr ⟨e,(Option.some.inj hs).symm,hb.1.1,hb.1.2,hb.2⟩)))
       ·
        cases hs
      ·
       cases hs
theorem held_of_state {h:Hl}{n:Nat}{hold:Int}{s:WS}(hn:1<=n) (hs:stateF h n hold=some s) (hl:likeH (s.held n) h):heldB h n hold=true:=by
 obtain⟨hnb,hc⟩:=stateF_cases hs
 obtain⟨l1,l2,l3,l4,l5,l6⟩:=hl
 have hz:∀ {B:Nat->Bool},(∀j,j<n->B j=h.B j)->(∀j,B j=false)->allB (fun j=>!h.B j) h.nb=true:=fun hB h0=>allB_iff.2 fun j hj=>by rw[<-hB j (by omega),h0 j];rfl
 rcases hc with⟨e,rfl⟩|⟨e,rfl⟩|⟨e,rfl⟩|⟨e,rfl,t1,t2⟩|⟨e,rfl,g1,g2,g3⟩
 ·
  have l2':h.gone=0:=l2.symm
  have l5':h.shown=false:=l5.symm
  have l6':h.timer=0:=l6.symm
  have :=hz (B:=fun _=>false) l4 (fun _=>rfl)
  simp[heldB,inB,e,hnb,l2',l5',l6',allB] at this⊢
  exact⟨by omega,this⟩
 ·
  have l2':h.gone=0:=l2.symm
  have l6':h.timer=0:=l6.symm
  have :=hz (B:=fun _=>false) l4 (fun _=>rfl)
  simp[heldB,inB,e,hnb,l2',l6',allB] at this⊢
  exact⟨by omega,this⟩
 ·
  have l2':h.gone=0:=l2.symm
  have l5':h.shown=true:=l5.symm
  have l6':h.timer=0:=l6.symm
  have :=hz (B:=fun _=>false) l4 (fun _=>rfl)
  simp[heldB,inB,e,hnb,l2',l5',l6',allB] at this⊢
  exact⟨by omega,this⟩
 ·
  have l2':h.gone=0:=l2.symm
  have l5':h.shown=true:=l5.symm
  have :=hz (B:=fun _=>false) l4 (fun _=>rfl)
  simp[heldB,inB,e,hnb,l2',l5',allB,t1,t2] at this⊢
  exact⟨by omega,this⟩
 ·
  have l6':h.timer=0:=l6.symm
  have :=allB_iff.2 g3
  simp[heldB,inB,e,hnb,l6',this,g1,g2]
theorem like_of_settle {v:Vw}{h:Hl}{hold:Int}{s:WS}(hs:stateF h v.n hold=some s) (hl:likeH ((s.settle v).held v.n) h):likeH (s.held v.n) h:=by
 obtain⟨hnb,hc⟩:=stateF_cases hs
 have hst:=hl.1
 rcases hc with⟨e,rfl⟩|⟨e,rfl⟩|⟨e,rfl⟩|⟨e,rfl,t1,t2⟩|⟨e,rfl,g1,g2,g3⟩
 ·
  exact hl
 ·
  rw[e] at hst
  simp only[WS.settle] at hl hst
  split at hl
  ·
   rename_i h0
   rw[if_pos h0] at hst
   simp only[useS] at hst
   split at hst<;>simp[WS.held] at hst
  ·
   rename_i h0
   rw[if_neg h0] at hst
   split at hl
   ·
    rename_i hp
    rw[if_pos hp] at hst
    simp[WS.held] at hst
   ·
    exact hl
 ·
  rw[e] at hst
  simp only[WS.settle] at hl hst
  split at hl
  ·
   rename_i h0
   rw[if_pos h0] at hst
   simp only[useS] at hst
   split at hst<;>simp[WS.held] at hst
  ·
   rename_i h0
   rw[if_neg h0] at hst
   split at hl
   ·
    exact hl
   ·
    rename_i hp
    rw[if_neg hp] at hst
    simp[WS.held] at hst
 ·
  rw[e] at hst
  simp only[WS.settle] at hl hst
  split at hl
  ·
   rename_i h0
   rw[if_pos h0] at hst
   simp only[useS] at hst
   split at hst<;>simp[WS.held] at hst
  ·
   exact hl
 ·
  rw[e] at hst
  simp only[WS.settle,useS] at hl hst
  split at hl
  ·
   rename_i h0
   rw[if_pos h0] at hst
   simp[WS.held] at hst
  ·
   obtain⟨l1,l2,l3,l4,l5,l6⟩:=hl
   refine⟨e.symm,?_,hnb.symm,fun _ _=>rfl,rfl,l6⟩
   show((h.gone.toNat:Nat):Int)=h.gone
   omega
theorem frame_way {v:Vw}{h:Hl}{hold:Int}(hn:1<=v.n):(heldB h v.n hold=true/\likeH (setH v h) h)↔∃s,stateF h v.n hold=some s/\likeH ((s.settle v).held v.n) h:=by
 constructor
 ·
  rintro⟨hb,hl⟩
  obtain⟨s,hs,hk⟩:=state_of_held hb
  refine⟨s,hs,?_⟩
  rw[held_settle]
  exact(setH_like hk (held_nb _ _)).trans hl
 ·
  rintro⟨s,hs,hl⟩
  have hk:=like_of_settle hs hl
  refine⟨held_of_state hn hs hk,?_⟩
  rw[held_settle] at hl
  have hk2:=setH_like (v:=v) hk (held_nb _ _)
  exact hk2.symm.trans hl
end Go.Proofs.YtkeilejbelblcaaGreatDoor
