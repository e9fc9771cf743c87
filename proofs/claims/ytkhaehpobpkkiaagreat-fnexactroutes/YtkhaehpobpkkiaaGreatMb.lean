import Derived.Deep.RegionWith
import Derived.Deep.RegionHeld3
import Derived.Test.YtkhaehpobpkkiaaGreatMa
namespace Go.Proofs.YtkhaehpobpkkiaaGreat
open Go.RowKit
def headE (piece way:Int):En:=⟨piece,if way=1 then 1 else 0⟩
def farI (ln at' way:Int):Int:=if way=1 then at' else ln-at'
set_option maxHeartbeats 1000000 in
theorem l12head79 (piece way:Int)(w:World):
 Calls Tryz.prog 58 #[.int .i64 piece,.int .i64 way] w fun e w'=>e=.returned (.agg #[.int .i64 (headE piece way).pc,.int .i64 (headE piece way).sd])∧Below w.heap.size w w':=by
 by_cases h:way=1
 ·have h':(way == 1)=true:=by simp [h]
  have Hv:Hid (headE piece way=⟨piece,1⟩):=by
   show headE piece way=_
   simp [headE,h]
  clear h
  go_enter Tryz.func58,Tryz.ntmps58
  go_wp2
  exact bodyPost_ret (v:=.agg #[.int .i64 piece,.int .i64 1]) (by simp [results,Tryz.results58,go_sem]) rfl ⟨by rw [Hv.out],bel1 _ _⟩
 ·have h':(way == 1)=false:=by simp [h]
  have Hv:Hid (headE piece way=⟨piece,0⟩):=by
   show headE piece way=_
   simp [headE,h]
  clear h
  go_enter Tryz.func58,Tryz.ntmps58
  go_wp2
  exact bodyPost_ret (v:=.agg #[.int .i64 piece,.int .i64 0]) (by simp [results,Tryz.results58,go_sem]) rfl ⟨by rw [Hv.out],bel1 _ _⟩
set_option maxHeartbeats 1000000 in
theorem l12far47 (pa:Option Addr)(n pc:Nat)(P:Nat→Pc)(ja:Option Addr)(m jc:Nat)(p:Nat)(at' way:Int)(w:World)(hn:n≤1048576)(hp:p<n)(hP:PsAt 0 w pa n P)(hl:1≤(P p).ln∧(P p).ln≤10000000)(ha:0≤at'∧at'≤10000000):
 Calls Tryz.prog 23 #[.agg #[.slice pa n pc,.slice ja m jc],.int .i64 p,.int .i64 at',.int .i64 way] w fun e w'=>e=.returned (.int .i64 (farI (P p).ln at' way))∧Below w.heap.size w w':=by
 obtain ⟨b,off,rfl,_,hb,hc⟩:=hP (by omega)
 have c1:=(hc p hp).2.1
 have hp0:(0:Int)≤(p:Int):=by omega
 have hp1:(p:Int)<(n:Int):=by omega
 clear hc hP
 obtain ⟨hl1,hl2⟩:=hl
 obtain ⟨ha1,ha2⟩:=ha
 by_cases h:way=1
 ·have h':(way == 1)=true:=by simp [h]
  have Hv:Hid (farI (P p).ln at' way=at'):=by
   show farI (P p).ln at' way=_
   simp [farI,h]
  clear h
  go_enter Tryz.func23,Tryz.ntmps23
  go_wp2
  go_ret
  exact ⟨by rw [Hv.out] <;> rfl,bel1 _ _⟩
 ·have h':(way == 1)=false:=by simp [h]
  have Hv:Hid (farI (P p).ln at' way=(P p).ln-at'):=by
   show farI (P p).ln at' way=_
   simp [farI,h]
  clear h
  go_enter Tryz.func23,Tryz.ntmps23
  go_wp2
  go_ret
  exact ⟨by rw [Hv.out] <;> rfl,bel1 _ _⟩
def partF (ln way a b:Int):Int × Int:=if way=-1 then (ln-b,ln-a) else (a,b)
set_option maxHeartbeats 1000000 in
theorem l12part75 (pa:Option Addr)(n pc:Nat)(P:Nat→Pc)(ja:Option Addr)(m jc:Nat)(p:Nat)(way x y:Int)(w:World)(hn:n≤1048576)(hp:p<n)(hP:PsAt 0 w pa n P)(hl:1≤(P p).ln∧(P p).ln≤10000000)(hx:0≤x∧x≤10000000)(hy:0≤y∧y≤10000000):
 Calls Tryz.prog 54 #[.agg #[.slice pa n pc,.slice ja m jc],.int .i64 p,.int .i64 way,.int .i64 x,.int .i64 y] w fun e w'=>
  e=.returned (.agg #[.int .i64 p,.int .i64 (partF (P p).ln way x y).1,.int .i64 (partF (P p).ln way x y).2])∧Below w.heap.size w w':=by
 obtain ⟨b,off,rfl,_,hb,hc⟩:=hP (by omega)
 have c1:=(hc p hp).2.1
 have hp0:(0:Int)≤(p:Int):=by omega
 have hp1:(p:Int)<(n:Int):=by omega
 clear hc hP
 obtain ⟨hl1,hl2⟩:=hl
 obtain ⟨hx1,hx2⟩:=hx
 obtain ⟨hy1,hy2⟩:=hy
 by_cases h:way=-1
 ·have h':(way == -1)=true:=by simp [h]
  have Hv:Hid (partF (P p).ln way x y=((P p).ln-y,(P p).ln-x)):=by
   show partF (P p).ln way x y=_
   simp [partF,h]
  clear h
  go_enter Tryz.func54,Tryz.ntmps54
  go_wp2
  exact bodyPost_ret (v:=.agg #[.int .i64 p,.int .i64 ((P p).ln-y),.int .i64 ((P p).ln-x)]) (by simp [results,Tryz.results54,go_sem]) rfl ⟨by rw [Hv.out],bel2 _ _ _⟩
 ·have h':(way == -1)=false:=by simp [h]
  have Hv:Hid (partF (P p).ln way x y=(x,y)):=by
   show partF (P p).ln way x y=_
   simp [partF,h]
  clear h
  go_enter Tryz.func54,Tryz.ntmps54
  go_wp2
  exact bodyPost_ret (v:=.agg #[.int .i64 p,.int .i64 x,.int .i64 y]) (by simp [results,Tryz.results54,go_sem]) rfl ⟨by rw [Hv.out],bel2 _ _ _⟩
def endAt (E:Nat→En)(e:En)(n:Nat):Option Nat:=firstB (fun k=>eqB (E k) e) n
def jointAt (J:Nat→Jt)(e:En):Nat→Option (Nat × Nat)
 | 0=>none
 | i+1=>match jointAt J e i with
  | some x=>some x
  | none=>(endAt (J i).E e (J i).ne).map fun k=>(i,k)
def atV:Option (Nat × Nat)→Int × Int
 | some x=>(x.1,x.2)
 | none=>(-1,-1)
theorem jointAt_none {J:Nat→Jt}{e:En}{m:Nat}(h:∀ i,i<m→endAt (J i).E e (J i).ne=none):jointAt J e m=none:=by
 induction m with
 | zero=>rfl
 | succ m ih=>simp [jointAt,ih (fun i hi=>h i (by omega)),h m (by omega)]
theorem jointAt_hit {J:Nat→Jt}{e:En}{m i k:Nat}(h:∀ j,j<i→endAt (J j).E e (J j).ne=none)(hi:i<m)(hk:endAt (J i).E e (J i).ne=some k):jointAt J e m=some (i,k):=by
 induction m with
 | zero=>omega
 | succ m ih=>
  by_cases q:i=m
  ·subst q;simp [jointAt,jointAt_none h,hk]
  ·simp [jointAt,ih (by omega)]
set_option maxHeartbeats 1000000 in
theorem l11at78 (pa:Option Addr)(n pc:Nat)(ja:Option Addr)(m jc:Nat)(J:Nat→Jt)(e:En)(w:World)(hm:m≤1048576)(hJ:JsAt 0 w ja m J)(hne:∀ i,i<m→(J i).ne≤1048576):
 Calls Tryz.prog 57 #[.agg #[.slice pa n pc,.slice ja m jc],.agg #[.int .i64 e.pc,.int .i64 e.sd]] w fun r w'=>r=.returned (.tuple #[.int .i64 (atV (jointAt J e m)).1,.int .i64 (atV (jointAt J e m)).2])∧Below w.heap.size w w':=by
 have Hne:Hid (∀ i,i<m→(J i).ne≤1048576):=hne
 clear hne
 go_enter Tryz.func57,Tryz.ntmps57
 go_wp2_with fail
 go_loopw [13] (fun i wr=>∃ k:Nat,k≤m∧i=.int .i64 k∧Hid (∀ j,j<k→endAt (J j).E e (J j).ne=none)∧Below (w.heap.size+1+1) ((w.alloc (.cells #[.slice pa n pc,.slice ja m jc] 34)).alloc (.cells #[.int .i64 e.pc,.int .i64 e.sd] 112)) wr) (fun i _=>m-(intOf i).toNat)
 case atStart=>exact ⟨0,Nat.zero_le _,rfl,fun j hj=>absurd hj (Nat.not_lt_zero _),Below.refl _ _⟩
 case round=>
  obtain ⟨k,hk,rfl,hall,hbel⟩:=hrel
  have hB:Below w.heap.size w wr:=(bel2 w _ _).trans (hbel.mono (by omega))
  by_cases hlt:k<m
  ·obtain ⟨b,off,rfl,_,hb,hc⟩:=(hJ.mono lr hB lr) (by omega)
   obtain ⟨ea,ec,c0,c1,c2,hE⟩:=hc k hlt
   have hnk:=Hne.out k hlt
   have z1:wr.cell? ⟨w.heap.size+1,0,none⟩=some (.int .i64 e.pc):=by rw [hbel.cell (by show w.heap.size+1 < _;omega)];simp
   have z2:wr.cell? ⟨w.heap.size+1,1,none⟩=some (.int .i64 e.sd):=by rw [hbel.cell (by show w.heap.size+1 < _;omega)];simp
   have zs:w.heap.size+1+1≤wr.heap.size:=by have:=hbel.size;simpa using this
   clear hc
   go_wp2_with fail
   obtain ⟨wo,hwo⟩:∃ wo:World,wo=wr:=⟨_,rfl⟩
   subst hwo
   go_loopw [21] (fun i wr=>∃ q:Nat,q≤(J k).ne∧i=.int .i64 q∧Hid (∀ j,j<q→eqB ((J k).E j) e=false)∧Below wo.heap.size wo wr) (fun i _=>(J k).ne-(intOf i).toNat)
   case atStart=>exact ⟨0,Nat.zero_le _,rfl,fun j hj=>absurd hj (Nat.not_lt_zero _),(Below.refl _ _).alloc lr _⟩
   case round=>
    obtain ⟨q,hq,rfl,hall2,hbel2⟩:=hrel
    have hB2:=hB.trans (hbel2.mono hB.size)
    by_cases hlq:q<(J k).ne
    ·obtain ⟨b2,off2,rfl,_,hb2,hc2⟩:=(hE.mono lr hbel2 lr) (by omega)
     obtain ⟨d0,d1⟩:=hc2 q hlq
     clear hc2
     have y1:wr.cell? ⟨w.heap.size+1,0,none⟩=some (.int .i64 e.pc):=by rw [hbel2.cell (by show w.heap.size+1 < _;omega)];exact z1
     have y2:wr.cell? ⟨w.heap.size+1,1,none⟩=some (.int .i64 e.sd):=by rw [hbel2.cell (by show w.heap.size+1 < _;omega)];exact z2
     have hz3:w.heap.size+1<wr.heap.size:=by have:=hbel2.size;omega
     have HT:Hid (((J k).E q).pc=e.pc→((J k).E q).sd=e.sd→atV (jointAt J e m)=((k:Int),(q:Int))):=fun h1 h2=>by
      rw [jointAt_hit (i:=k) (k:=q) hall.out hlt (firstB_hit (p:=fun j=>eqB ((J k).E j) e) hall2.out hlq (by simp [eqB,h1,h2]))]
      rfl
     have HF1:Hid (¬((J k).E q).pc=e.pc→∀ j,j<q+1→eqB ((J k).E j) e=false):=fun h1=>by
      intro j hj
      by_cases e':j=q
      ·subst e';simp [eqB,h1]
      ·exact hall2.out j (by omega)
     have HF2:Hid (¬((J k).E q).sd=e.sd→∀ j,j<q+1→eqB ((J k).E j) e=false):=fun h1=>by
      intro j hj
      by_cases e':j=q
      ·subst e';simp [eqB,h1]
      ·exact hall2.out j (by omega)
     clear hall2 hall
     by_cases h1:((J k).E q).pc=e.pc
     ·by_cases h2:((J k).E q).sd=e.sd
      ·have Hv:Hid (atV (jointAt J e m)=((k:Int),(q:Int))):=HT.out h1 h2
       rw [h1] at d0
       rw [h2] at d1
       clear HT HF1 HF2 h1 h2
       go_wp2_with fail
       go_ret2
       exact ⟨by rw [Hv.out] <;> rfl,hB2.alloc hB2.size _⟩
      ·have HV:Hid (∀ j,j<q+1→eqB ((J k).E j) e=false):=HF2.out h2
       clear HT HF1 HF2
       go_wp2_with fail
       go_roundw
       case rel=>exact ⟨q+1,by omega,by go_num,HV,hbel2.alloc hbel2.size _⟩
       case measure=>simp [intOf];omega
     ·have HV:Hid (∀ j,j<q+1→eqB ((J k).E j) e=false):=HF1.out h1
      clear HT HF1 HF2
      go_wp2_with fail
      go_roundw
      case rel=>exact ⟨q+1,by omega,by go_num,HV,hbel2.alloc hbel2.size _⟩
      case measure=>simp [intOf];omega
    ·obtain rfl:q=(J k).ne:=by omega
     have HV:Hid (∀ j,j<k+1→endAt (J j).E e (J j).ne=none):=by
      intro j hj
      by_cases e':j=k
      ·subst e';exact firstB_none (p:=fun t=>eqB ((J j).E t) e) hall2.out
      ·exact hall.out j (by omega)
     clear hall hall2
     go_wp2_with fail
     go_roundw
     case rel=>exact ⟨k+1,by omega,by go_num,HV,hbel.trans (hbel2.mono zs)⟩
     case measure=>simp [intOf];omega
  ·obtain rfl:k=m:=by omega
   have Hv:Hid (atV (jointAt J e k)=(-1,-1)):=by
    show atV (jointAt J e k)=_
    rw [jointAt_none hall.out]
    rfl
   clear hall
   go_wp2_with fail
   go_ret2
   exact ⟨by rw [Hv.out] <;> rfl,hB⟩
def pickS (ln:Int)(S:Nat→Pc)(way:Int)(i:Nat):Option Nat→Option Nat
 | none=>some i
 | some b=>if farI ln (S i).sp way<farI ln (S b).sp way then some i else some b
def nextS (ln:Int)(S:Nat→Pc)(p way far:Int):Nat→Option Nat
 | 0=>none
 | i+1=>if (S i).ln=p∧(S i).br=way∧far<farI ln (S i).sp way then pickS ln S way i (nextS ln S p way far i) else nextS ln S p way far i
def bestV:Option Nat→Int
 | none=>-1
 | some b=>b
theorem pickS_le {ln:Int}{S:Nat→Pc}{way:Int}{i b:Nat}{o:Option Nat}(h:pickS ln S way i o=some b)(ho:∀ c,o=some c→c<i):b≤i:=by
 cases o with
 | none=>simp only [pickS,Option.some.injEq] at h;omega
 | some c=>
  have:=ho c rfl
  simp only [pickS] at h
  split at h <;> simp only [Option.some.injEq] at h <;> omega
theorem nextS_lt {ln:Int}{S:Nat→Pc}{p way far:Int}{q b:Nat}(h:nextS ln S p way far q=some b):b<q:=by
 induction q generalizing b with
 | zero=>simp [nextS] at h
 | succ q ih=>
  simp only [nextS] at h
  split at h
  ·have:=pickS_le h (fun c hc=>ih hc);omega
  ·have:=ih h;omega
set_option maxRecDepth 100000 in
set_option maxHeartbeats 4000000 in
theorem l12signal74 (pa:Option Addr)(n pc:Nat)(P:Nat→Pc)(ja:Option Addr)(m jc:Nat)(sa:Option Addr)(k sc:Nat)(S:Nat→Pc)(p:Nat)(way far:Int)(w:World)(hn:n≤1048576)(hp:p<n)(hk:k≤1048576)
 (hP:PsAt 0 w pa n P) (hS:PsAt 0 w sa k S) (hl:1≤(P p).ln∧(P p).ln≤10000000) (hsp:∀ i,i<k→0≤(S i).sp∧(S i).sp≤10000000):
 Calls Tryz.prog 53 #[.agg #[.slice pa n pc,.slice ja m jc],.slice sa k sc,.int .i64 p,.int .i64 way,.int .i64 far] w fun e w'=>e=.returned (.int .i64 (bestV (nextS (P p).ln S p way far k)))∧Below w.heap.size w w':=by
 have Hsp:Hid (∀ i,i<k→0≤(S i).sp∧(S i).sp≤10000000):=hsp
 clear hsp
 go_enter Tryz.func53,Tryz.ntmps53
 go_wp2_with fail
 go_loopw [11,16] (fun bst i wr=>∃ q:Nat,q≤k∧i=.int .i64 q∧bst=.int .i64 (bestV (nextS (P p).ln S p way far q))∧Below (w.heap.size+1) (w.alloc (.cells #[.slice pa n pc,.slice ja m jc] 34)) wr) (fun _ i _=>k-(intOf i).toNat)
 case atStart=>exact ⟨0,Nat.zero_le _,rfl,rfl,Below.refl _ _⟩
 case round=>
  obtain ⟨q,hq,rfl,rfl,hbel⟩:=hrel
  have hB:Below w.heap.size w wr:=(bel1 w _).trans (hbel.mono (by omega))
  by_cases hlq:q<k
  ·have hS1:=hS.mono lr hB lr
   obtain ⟨b,off,rfl,_,hb,hc⟩:=hS1 (by omega)
   obtain ⟨d0,d1,d2,d3⟩:=hc q hlq
   have Hc:Hid (∀ i,i<k→wr.cell? ⟨b,off+i*4+2,none⟩=some (.int .i64 (S i).sp)):=fun i hi=>(hc i hi).2.2.1
   have zz:w.heap.size<wr.heap.size:=by have:=hbel.size;simp at this;omega
   have y0:wr.cell? ⟨w.heap.size,0,none⟩=some (.slice pa n pc):=by rw [hbel.cell (by show w.heap.size < _;omega),World.cell?_alloc_at _ _ _ _ (by simp)];rfl
   have y1:wr.cell? ⟨w.heap.size,1,none⟩=some (.slice ja m jc):=by rw [hbel.cell (by show w.heap.size < _;omega),World.cell?_alloc_at _ _ _ _ (by simp)];rfl
   clear hc
   have hnx:nextS (P p).ln S p way far (q+1)=if (S q).ln=p∧(S q).br=way∧far<farI (P p).ln (S q).sp way then pickS (P p).ln S way q (nextS (P p).ln S p way far q) else nextS (P p).ln S p way far q:=rfl
   have hlt0:=fun b=>@nextS_lt (P p).ln S p way far q b
   generalize nextS (P p).ln S p way far q=o at *
   by_cases h1:(S q).ln=(p:Int)
   ·by_cases h2:(S q).br=way
    ·
     have b3:=bel1 wr (.cells #[.string (S q).nm,.int .i64 (S q).ln,.int .i64 (S q).sp,.int .i64 (S q).br] 56)
     rw [h1] at d1 b3
     rw [h2] at d3 b3
     have hP4:=(hP.mono lr hB lr).mono lr b3 lr
     have hspq:=Hsp.out q hlq
     have Hnx:Hid (nextS (P p).ln S p way far (q+1)=if far<farI (P p).ln (S q).sp way then pickS (P p).ln S way q o else o):=by
      show nextS (P p).ln S p way far (q+1)=_
      rw [hnx]
      simp only [h1,h2,true_and]
     have Hlt0:Hid (∀ b,o=some b→b<q):=hlt0
     clear hnx hlt0 h1 h2
     go_wp2_with fail
     refine (l12far47 pa n pc P ja m jc p (S q).sp way _ hn hp hP4 hl hspq).mono ?_
     rintro e w1 ⟨rfl,hb1⟩
     have s1:wr.heap.size<w1.heap.size:=by have:=hb1.size;simp at this;omega
     have x2:w1.cell? ⟨wr.heap.size,2,none⟩=some (.int .i64 (S q).sp):=by rw [hb1.cell (by show wr.heap.size < _;simp),World.cell?_alloc_at _ _ _ _ rfl];rfl
     have y0:w1.cell? ⟨w.heap.size,0,none⟩=some (.slice pa n pc):=by rw [hb1.cell (by show w.heap.size < _;simp;omega),World.cell?_alloc_past _ _ _ zz];exact y0
     have y1:w1.cell? ⟨w.heap.size,1,none⟩=some (.slice ja m jc):=by rw [hb1.cell (by show w.heap.size < _;simp;omega),World.cell?_alloc_past _ _ _ zz];exact y1
     have Hc1:Hid (∀ i,i<k→w1.cell? ⟨b,off+i*4+2,none⟩=some (.int .i64 (S i).sp)):=fun i hi=>by rw [hb1.cell (by show b < _;simp;omega),World.cell?_alloc_past _ _ _ hb];exact Hc.out i hi
     have hbel1:=(hbel.trans (b3.mono (by omega))).trans (hb1.mono (by simp;omega))
     have hP5:=(hP4.mono lr hb1 lr).mono lr (Below.refl w1.heap.size w1).drew lr
     clear d0 d1 d2 d3 b3 hP4 hb1 Hc zz hbel
     by_cases h3:far<farI (P p).ln (S q).sp way
     ·have h3':decide (farI (P p).ln (S q).sp way≤far)=false:=by simp;omega
      rcases o with _ | bb
      ·have HV:Hid (nextS (P p).ln S p way far (q+1)=some q):=by
        show nextS (P p).ln S p way far (q+1)=_
        rw [Hnx.out,if_pos h3]
        rfl
       clear Hnx h3
       rw [show bestV none=-1 from rfl]
       go_wp2_with fail
       go_quiet (fail)
       go_wp2_with fail
       go_roundw
       case rel=>exact ⟨q+1,by omega,by go_num,by rw [HV.out];rfl,below_drewN hbel1 _⟩
       case measure=>simp [intOf];omega
      ·have hbq:=Hlt0.out bb rfl
       have hc2:=Hc1.out bb (by omega)
       have hspb:=Hsp.out bb (by omega)
       have hb0:(0:Int)≤(bb:Int):=by omega
       have hb0':decide ((bb:Int)<0)=false:=by simp
       have hbk:(bb:Int)<(k:Int):=by omega
       have Hnx1:Hid (nextS (P p).ln S p way far (q+1)=if farI (P p).ln (S q).sp way<farI (P p).ln (S bb).sp way then some q else some bb):=by
        show nextS (P p).ln S p way far (q+1)=_
        rw [Hnx.out,if_pos h3]
        rfl
       clear Hnx h3
       rw [show bestV (some bb)=(bb:Int) from rfl]
       go_wp2_with fail
       have t0:w.heap.size<w1.heap.size:=by have:=hB.size;omega
       have t2:b<w1.heap.size:=by omega
       clear hS hS1 hP Hsp Hlt0 Hc1 hB
       go_region_held3 (fun w'=>w'.cell? ⟨w.heap.size,0,none⟩=some (.slice pa n pc)∧w'.cell? ⟨w.heap.size,1,none⟩=some (.slice ja m jc)∧w'.cell? ⟨wr.heap.size,2,none⟩=some (.int .i64 (S q).sp)∧w'.cell? ⟨b,off+bb*4+2,none⟩=some (.int .i64 (S bb).sp)) (go_keep) (first | (go_at_call_of 23 (S q).sp;refine (l12far47 pa n pc P ja m jc p (S q).sp way _ hn hp hP5 hl hspq).mono ?_;rintro e w7 ⟨rfl,hb7⟩;have k0:=(hb7.cell (p:=⟨w.heap.size,0,none⟩) t0).trans y0;have k1:=(hb7.cell (p:=⟨w.heap.size,1,none⟩) t0).trans y1;have k2:=(hb7.cell (p:=⟨wr.heap.size,2,none⟩) s1).trans x2;have k3:=(hb7.cell (p:=⟨b,off+bb*4+2,none⟩) t2).trans hc2) | (go_at_call_of 23 (S bb).sp;refine (l12far47 pa n pc P ja m jc p (S bb).sp way _ hn hp (hP5.mono lr hb7 lr) hl hspb).mono ?_;rintro e w8 ⟨rfl,hb8⟩;have k0:=(hb8.cell (p:=⟨w.heap.size,0,none⟩) (ltl t0 hb7.size)).trans k0;have k1:=(hb8.cell (p:=⟨w.heap.size,1,none⟩) (ltl t0 hb7.size)).trans k1;have k2:=(hb8.cell (p:=⟨wr.heap.size,2,none⟩) (ltl s1 hb7.size)).trans k2;have k3:=(hb8.cell (p:=⟨b,off+bb*4+2,none⟩) (ltl t2 hb7.size)).trans k3))
       have hbel8:=(hbel1.drew.trans (hb7.mono (show w.heap.size+1≤w1.heap.size by omega))).trans (hb8.mono (Nat.le_trans (show w.heap.size+1≤w1.heap.size by omega) hb7.size))
       clear k0 k1 k2 k3 hb7 hb8 hbel1 hP5 y0 y1 x2 hc2
       by_cases h4:farI (P p).ln (S q).sp way<farI (P p).ln (S bb).sp way
       ·have HV:Hid (nextS (P p).ln S p way far (q+1)=some q):=by
         show nextS (P p).ln S p way far (q+1)=_
         rw [Hnx1.out,if_pos h4]
        have h4':decide (farI (P p).ln (S q).sp way<farI (P p).ln (S bb).sp way)=true:=by simp [h4]
        clear Hnx1
        go_wp2_with fail
        go_roundw
        case rel=>exact ⟨q+1,by omega,by go_num,by rw [HV.out];rfl,hbel8⟩
        case measure=>simp [intOf];omega
       ·have HV:Hid (nextS (P p).ln S p way far (q+1)=some bb):=by
         show nextS (P p).ln S p way far (q+1)=_
         rw [Hnx1.out,if_neg h4]
        have h4':decide (farI (P p).ln (S q).sp way<farI (P p).ln (S bb).sp way)=false:=by simp;omega
        clear Hnx1
        go_wp2_with fail
        go_roundw
        case rel=>exact ⟨q+1,by omega,by go_num,by rw [HV.out];rfl,hbel8⟩
        case measure=>simp [intOf];omega
     ·have h3':decide (farI (P p).ln (S q).sp way≤far)=true:=by simp;omega
      have HV:Hid (nextS (P p).ln S p way far (q+1)=o):=by
       show nextS (P p).ln S p way far (q+1)=_
       rw [Hnx.out,if_neg h3]
      clear Hnx h3
      go_wp2_with fail
      go_roundw
      case rel=>exact ⟨q+1,by omega,by go_num,by rw [HV.out],hbel1⟩
      case measure=>simp [intOf];omega
    ·have HV:Hid (nextS (P p).ln S p way far (q+1)=o):=by
      show nextS (P p).ln S p way far (q+1)=_
      rw [hnx,if_neg (fun h=>h2 h.2.1)]
     have h1':((S q).ln != (p:Int))=false:=by simp [h1]
     have h2':((S q).br != way)=true:=by simp [h2]
     clear hnx h1 h2
     go_wp2_with fail
     go_roundw
     case rel=>exact ⟨q+1,by omega,by go_num,by rw [HV.out],hbel.alloc (by omega) _⟩
     case measure=>simp [intOf];omega
   ·have HV:Hid (nextS (P p).ln S p way far (q+1)=o):=by
     show nextS (P p).ln S p way far (q+1)=_
     rw [hnx,if_neg (fun h=>h1 h.1)]
    have h1':((S q).ln != (p:Int))=true:=by simp [h1]
    clear hnx h1
    go_wp2_with fail
    go_roundw
    case rel=>exact ⟨q+1,by omega,by go_num,by rw [HV.out],hbel.alloc (by omega) _⟩
    case measure=>simp [intOf];omega
  ·obtain rfl:q=k:=by omega
   go_wp2_with fail
   go_ret
   exact ⟨rfl,hB⟩
end Go.Proofs.YtkhaehpobpkkiaaGreat
