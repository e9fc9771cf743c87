import Derived.Test.YtkhaehpobpkkiaaGreatLb
import Derived.Test.YtkhaehpobpkkiaaGreatMb
import Derived.Test.YtkhaehpobpkkiaaGreatMc
import Derived.Test.YtkhaehpobpkkiaaGreatMe
namespace Go.Proofs.YtkhaehpobpkkiaaGreat
open Go.RowKit
structure Ev where
 n:Nat
 P:Nat→Pc
 m:Nat
 J:Nat→Jt
 k:Nat
 S:Nat→Pc
 ov:Int
structure Ev.Ok (v:Ev):Prop where
 n0:0<v.n
 n1:v.n≤100
 m1:v.m≤120
 k1:v.k≤60
 ln:∀ i,i<v.n→1≤(v.P i).ln∧(v.P i).ln≤10000000
 kd:∀ j,j<v.m→1≤(v.J j).kd∧(v.J j).kd≤4∧((v.J j).ne:Int)=(v.J j).kd
 en:∀ j,j<v.m→∀ q,q<(v.J j).ne→0≤((v.J j).E q).pc∧((v.J j).E q).pc<v.n∧(((v.J j).E q).sd=0∨((v.J j).E q).sd=1)
 stand:∀ e:En,0≤e.pc→e.pc<v.n→(e.sd=0∨e.sd=1)→∃ j q,jointAt v.J e v.m=some (j,q)∧j<v.m∧q<(v.J j).ne∧(v.J j).E q=e
 once:∀ j q j' q',j<v.m→q<(v.J j).ne→j'<v.m→q'<(v.J j').ne→(v.J j).E q=(v.J j').E q'→j=j'∧q=q'
 sg:∀ i,i<v.k→0≤(v.S i).ln∧(v.S i).ln<v.n∧((v.S i).br=1∨(v.S i).br=-1)∧1≤(v.S i).sp∧(v.S i).sp≤(v.P (v.S i).ln.toNat).ln-1
 apart:∀ i j,i<v.k→j<v.k→(v.S i).ln=(v.S j).ln→(v.S i).sp=(v.S j).sp→(v.S i).br=(v.S j).br→i=j
 o0:0≤v.ov
 o1:v.ov≤100000
def Ev.at (v:Ev)(e:En):Nat × Nat:=(jointAt v.J e v.m).getD (0,0)
def wayOf (e:En):Int:=if e.sd=1 then -1 else 1
def partR (ln:Int)(p:Nat)(way a b:Int):Rw:=[(p:Int),(partF ln way a b).1,(partF ln way a b).2]
def Ev.bey (v:Ev):Nat→Int→Nat→Int→Int→List Rw
 | 0,_,_,_,_=>[]
 | f+1,left,p,way,far=>
  if left≤0 then [] else
   let e:=if far+left > (v.P p).ln then (v.P p).ln else far+left
   let j:=v.at (headE p way)
   partR (v.P p).ln p way far e ::
    (if left-(e-far)≤0∨(v.J j.1).kd≠2 then [] else
     v.bey f (left-(e-far)) ((v.J j.1).E (1-j.2)).pc.toNat (wayOf ((v.J j.1).E (1-j.2))) 0)
def pickL (ln:Int)(S:Nat→Pc)(way:Int)(i:Nat):Option Nat→Option Nat
 | none=>some i
 | some b=>if farI ln (S i).sp way > farI ln (S b).sp way then some i else some b
def lastS (ln:Int)(S:Nat→Pc)(p way:Int):Nat→Option Nat
 | 0=>none
 | i+1=>if (S i).ln=p∧(S i).br=way then pickL ln S way i (lastS ln S p way i) else lastS ln S p way i
def Ev.fl (v:Ev)(li:List Rw)(at':Int):Nat→List Rw→En→List Rw × List Rw
 | 0,seen,_=>(seen,[])
 | f+1,seen,e=>
  if [e.pc,e.sd] ∈ seen then (seen,[]) else
   let seen':=seen ++ [[e.pc,e.sd]]
   match lastS (v.P e.pc.toNat).ln v.S e.pc (if e.sd=0 then -1 else 1) v.k with
   | some b=>(seen',[[at',2,(b:Int),0]])
   | none=>
    let j:=v.at ⟨e.pc,1-e.sd⟩
    if (v.J j.1).kd=1 then (seen',[[at',1,(j.1:Int),0]])
    else if (v.J j.1).kd=3 then
     (if j.2=0 then
      let r1:=v.fl li at' f seen' ((v.J j.1).E 1)
      let r2:=v.fl li at' f r1.1 ((v.J j.1).E 2)
      (r2.1,r1.2 ++ r2.2)
     else if [(j.1:Int),(j.2:Int)] ∈ li then (seen',[[at',4,(j.1:Int),0]]) else (seen',[[at',3,(j.1:Int),3-(j.2:Int)]]))
    else v.fl li at' f seen' ((v.J j.1).E ((acrossF (v.J j.1).kd.toNat j.2).getD 0 0))
def Ev.fls (v:Ev)(li:List Rw):List Rw→List Rw
 | []=>[]
 | x :: xs=>(v.fl li (x.getD 0 0) (2*v.n+1) [] ((v.J (x.getD 0 0).toNat).E (3-x.getD 1 0).toNat)).2 ++ v.fls li xs
structure Tl where
 st:List Rw
 li:List Rw
 cr:List Rw
 pa:List Rw
structure RtM where
 fr:Int
 to:Int
 t:Tl
 ov:List Rw
 fl:List Rw
def lieF (li:List Rw)(j:Int):Option Int:=(li.find? (fun r=>r.getD 0 0 == j)).map (fun r=>r.getD 1 0)
def Tl.over (t:Tl)(kd:Int)(j q x:Nat):Option Tl:=
 if kd=3 then
  (let lie:Int:=if q=0 then x else q
  match lieF t.li j with
  | some l=>if l=lie then some t else none
  | none=>some { t with li:=t.li ++ [[(j:Int),lie]] })
 else if kd=4 then some { t with cr:=t.cr ++ [[(j:Int)]] }
 else some t
def Ev.fin (v:Ev)(fr:Int)(to:Int)(t:Tl)(ov:List Rw):RtM:=⟨fr,to,t,ov,v.fls t.li t.li⟩
def Ev.walk (v:Ev)(fr:Int):Nat→Tl→Nat→Int→Int→List (Option RtM)
 | 0,_,_,_,_=>[]
 | f+1,t,p,way,far=>
  match nextS (v.P p).ln v.S p way far v.k with
  | some b=>
   let e:=farI (v.P p).ln (v.S b).sp way
   [some (v.fin fr b { t with st:=t.st ++ [[(p:Int),way]],pa:=t.pa ++ [partR (v.P p).ln p way far e] } (v.bey v.ov.toNat v.ov p way e))]
  | none=>
   if [(p:Int),way] ∈ t.st then [none] else
    let t':Tl:={ t with st:=t.st ++ [[(p:Int),way]],pa:=t.pa ++ [partR (v.P p).ln p way far (v.P p).ln] }
    let j:=v.at (headE p way)
    if (v.J j.1).kd=1 then [some (v.fin fr (-1) t' [])] else
     none :: (acrossF (v.J j.1).kd.toNat j.2).flatMap fun x=>
      match t'.over (v.J j.1).kd j.1 j.2 x with
      | none=>[]
      | some t2=>v.walk fr f t2 ((v.J j.1).E x).pc.toNat (wayOf ((v.J j.1).E x)) 0
def Ev.all (v:Ev):Nat→List (Option RtM)
 | 0=>[]
 | i+1=>v.all i ++ v.walk i (2*v.n+1) ⟨[],[],[],[]⟩ (v.S i).ln.toNat (v.S i).br (farI (v.P (v.S i).ln.toNat).ln (v.S i).sp (v.S i).br)
def routesOf (l:List (Option RtM)):List RtM:=l.filterMap id
def fits (l:List (Option RtM)):Prop:=l.length≤20000∧(routesOf l).length≤300
structure Fr (X:Nat→Prop)(w w':World):Prop where
 os:w'.os=w.os
 tape:w'.tape=w.tape
 output:w'.output=w.output
 size:w.heap.size≤w'.heap.size
 block:∀ k,k<w.heap.size→¬X k→w'.heap[k]?=w.heap[k]?
theorem Fr.refl (X:Nat→Prop)(w:World):Fr X w w:=⟨rfl,rfl,rfl,Nat.le_refl _,fun _ _ _=>rfl⟩
theorem Fr.trans {X:Nat→Prop}{a b c:World}(h:Fr X a b)(k:Fr X b c):Fr X a c:=
 ⟨k.os.trans h.os,k.tape.trans h.tape,k.output.trans h.output,Nat.le_trans h.size k.size,fun i hi hx=>(k.block i (ltl hi h.size) hx).trans (h.block i hi hx)⟩
theorem Fr.mono {X Y:Nat→Prop}{a b:World}(h:Fr X a b)(hy:∀ k,k<a.heap.size→X k→Y k):Fr Y a b:=⟨h.os,h.tape,h.output,h.size,fun i hi hx=>h.block i hi fun x=>hx (hy i hi x)⟩
theorem Fr.then {X Y:Nat→Prop}{a b c:World}(h:Fr X a b)(k:Fr Y b c)(hy:∀ i,i<a.heap.size→Y i→X i):Fr X a c:=
 ⟨k.os.trans h.os,k.tape.trans h.tape,k.output.trans h.output,Nat.le_trans h.size k.size,fun i hi hx=>(k.block i (ltl hi h.size) fun y=>hx (hy i hi y)).trans (h.block i hi hx)⟩
theorem Fr.of_below {X:Nat→Prop}{w w':World}(h:Below w.heap.size w w'):Fr X w w':=⟨h.os,h.tape,h.output,h.size,fun k hk _=>h.block k hk⟩
theorem Fr.of_grown {X:Nat→Prop}{w w':World}{row:Option Nat}(h:w.grownBy w' row)(hx:∀ k,row=some k→k<w.heap.size→X k):Fr X w w':=
 ⟨h.os,h.tape,h.output,h.size,fun k hk hn=>h.block k hk fun e=>hn (hx k e.symm hk)⟩
theorem Fr.set {X:Nat→Prop}{w:World}(p:Addr)(v:Value)(hp:X p.block):Fr X w (w.setCell p v):=⟨rfl,rfl,rfl,by rw [size_setc];exact Nat.le_refl _,fun k _ hn=>Below.heap_setCell w p v k fun e=>hn (by rw [e];exact hp)⟩
theorem Fr.alloc {X:Nat→Prop}{w w':World}(h:Fr X w w')(o:Obj):Fr X w (w'.alloc o):=h.trans (Fr.of_below (bel1 w' o))
theorem Fr.drew {X:Nat→Prop}{w w':World}(h:Fr X w w'):Fr X w w'.drew:=⟨h.os,h.tape,h.output,h.size,h.block⟩
theorem Fr.below {X:Nat→Prop}{w w':World}(h:Fr X w w'){B:Nat}(hB:B≤w.heap.size)(hx:∀ k,k<B→¬X k):Below B w w':=⟨h.os,h.tape,h.output,h.size,fun k hk=>h.block k (by omega) (hx k hk)⟩
theorem lieF_hit {li:List Rw}{j:Int}{k:Nat}(hk:k<li.length)(ha:∀ i,i<k→¬fnL li i 0=j)(h:fnL li k 0=j):lieF li j=some (fnL li k 1):=by
 induction li generalizing k with
 | nil=>simp at hk
 | cons r li ih=>
  cases k with
  | zero=>
   simp only [fnL,List.getD_cons_zero] at h ⊢
   simp only [lieF,List.find?_cons,h,beq_self_eq_true,Option.map_some]
  | succ k=>
   have h0:=ha 0 (by omega)
   simp only [fnL,List.getD_cons_zero] at h0
   have:=ih (k:=k) (by simpa using hk) (fun i hi=>by have:=ha (i+1) (by omega);simpa [fnL] using this) (by simpa [fnL] using h)
   simp only [lieF,List.find?_cons,show (r.getD 0 0 == j)=false by simp only [beq_eq_false_iff_ne,ne_eq];exact h0] at this ⊢
   rw [this]
   simp [fnL]
theorem lieF_none {li:List Rw}{j:Int}(ha:∀ i,i<li.length→¬fnL li i 0=j):lieF li j=none:=by
 induction li with
 | nil=>rfl
 | cons r li ih=>
  have h0:=ha 0 (by simp)
  simp only [fnL,List.getD_cons_zero] at h0
  have:=ih (fun i hi=>by have:=ha (i+1) (by simpa using hi);simpa [fnL] using this)
  simp only [lieF,List.find?_cons,show (r.getD 0 0 == j)=false by simp only [beq_eq_false_iff_ne,ne_eq];exact h0] at this ⊢
  exact this
theorem news_at {w:World}{e:TypeId}(r:Rw){q:Nat}(hq:w.heap.size=q):∀ j u,(cellsL [r])[j]?=some u→(w.alloc (.cells (r.map (Value.int .i64)).toArray e)).cell? ((⟨q,0,none⟩:Addr).add j)=some u:=by
 subst hq
 intro j u hj
 have h1:(w.alloc (.cells (r.map (Value.int .i64)).toArray e)).cell? ⟨w.heap.size,j,none⟩=some u:=by
  rw [World.cell?_alloc_at _ _ _ _ rfl]
  simpa [cellsL] using hj
 by_cases h0:j=0
 ·subst h0;simpa [Addr.add] using h1
 ·simpa [Addr.add,h0] using h1
set_option maxRecDepth 100000 in
set_option maxHeartbeats 4000000 in
theorem l12lies60 (B q:Nat)(a0 a1 a2 lv a4 a5 a6 a7:Value)(li:List Rw)(j lie:Int)(w:World)(hq:Box w q 64 #[a0,a1,a2,lv,a4,a5,a6,a7])(hB:B≤w.heap.size)(hl:Own B 136 2 w lv li)(hn:li.length≤1048575):
 Calls Tryz.prog 60 #[.pointer (some ⟨q,0,none⟩),.int .i64 j,.int .i64 lie] w fun e w'=>
  (∃ l,lieF li j=some l∧e=.returned (.bool (decide (l=lie)))∧Below w.heap.size w w') ∨
  (lieF li j=none∧e=.returned (.bool true)∧∃ lv',Own B 136 2 w' lv' (li ++ [[j,lie]])∧Box w' q 64 #[a0,a1,a2,lv',a4,a5,a6,a7]∧Fr (fun k=>k=q∨lv.ownBlock=some k) w w'):=by
 obtain ⟨al,cl,hv⟩:=hl.val
 subst hv
 have hN:=hl.ls.val
 obtain ⟨al',cl',he,hNs⟩:=hN
 simp only [Value.slice.injEq] at he
 obtain ⟨rfl,_,rfl⟩:=he
 have f0:=hq.cell 3
 have HL:Hid (Own B 136 2 w (.slice al li.length cl) li):=hl
 have HQ:Hid (Box w q 64 #[a0,a1,a2,.slice al li.length cl,a4,a5,a6,a7]):=hq
 have hql:=hq.lt
 clear hl hq
 simp only [List.getElem?_toArray,List.getElem?_cons_zero,List.getElem?_cons_succ] at f0
 go_enter Tryz.func60,Tryz.ntmps60
 go_wp2_with fail
 go_loopw [14] (fun i wr=>∃ k:Nat,k≤li.length∧i=.int .i64 k∧Hid (∀ i,i<k→¬fnL li i 0=j)∧Below w.heap.size w wr) (fun i _=>li.length-(intOf i).toNat)
 case atStart=>exact ⟨0,Nat.zero_le _,rfl,fun i hi=>absurd hi (Nat.not_lt_zero _),Below.refl _ _⟩
 case round=>
  obtain ⟨k,hk,rfl,hall,hbel⟩:=hrel
  by_cases hlt:k<li.length
  ·obtain ⟨b,off,rfl,_,hb,hc⟩:=(hNs.mono zl hbel lr) (by omega)
   have c0:wr.cell? ⟨b,off+k*2,none⟩=some (.int .i64 (fnL li k 0)):=hc k hlt 0 (by omega)
   have c1:wr.cell? ⟨b,off+k*2+1,none⟩=some (.int .i64 (fnL li k 1)):=hc k hlt 1 (by omega)
   clear hc
   have hB2:=hbel.alloc hbel.size (.cells #[.int .i64 (fnL li k 0),.int .i64 (fnL li k 1)] 136)
   by_cases h1:fnL li k 0=j
   ·have Hv:Hid (lieF li j=some (fnL li k 1)):=lieF_hit hlt hall.out h1
    have h1':(fnL li k 0 == j)=true:=by simp [h1]
    clear hall h1
    go_wp2_with fail
    go_ret
    exact .inl ⟨_,Hv.out,rfl,hB2⟩
   ·have Hv:Hid (∀ i,i<k+1→¬fnL li i 0=j):=by
     intro i hi
     by_cases e:i=k
     ·subst e;exact h1
     ·exact hall.out i (by omega)
    have h1':(fnL li k 0 == j)=false:=by simp [h1]
    clear hall h1
    go_wp2_with fail
    go_roundw
    case rel=>exact ⟨k+1,by omega,by go_num,Hv,hB2⟩
    case measure=>simp [intOf];omega
  ·obtain rfl:k=li.length:=by omega
   have Hv:Hid (lieF li j=none):=lieF_none hall.out
   have f1:wr.cell? ⟨q,3,none⟩=some (.slice al li.length cl):=(hbel.cell (p:=⟨q,3,none⟩) hql).trans f0
   have HL1:Hid (Own B 136 2 wr (.slice al li.length cl) li):=HL.out.mono lr hbel lr
   obtain ⟨i1,e1,e2,e3,e4⟩:=info_parts infoLie
   have hbs:=hbel.size
   clear hall
   go_wp2_with (at_builtin;go_must (refine wpList_appH _ rfl (.tmp 31) (.tmp 35) 59 rfl B 136 i1 _ 2 16 Tryz.underlying59 e1 e2 e3 e4 rfl (by decide) _ li rfl (HL1.out.alloc _) ⟨wr.heap.size,0,none⟩ 1 1 [[j,lie]] rfl rfl (by decide) (Wide.one rfl) (news_at [j,lie] rfl) (by simp [maxLen];omega) (by omega) (by simp;omega) ?_))
   refine Halt.mk fun v1 w1 ho1 hs1 hap=>?_
   obtain ⟨a1',c1',rfl⟩:=ho1.val
   have q0:Box wr q 64 #[a0,a1,a2,.slice al li.length cl,a4,a5,a6,a7]:=HQ.out.mono hbel lr
   have q1:Box w1 q 64 #[a0,a1,a2,.slice al li.length cl,a4,a5,a6,a7]:=(q0.alloc _).grown hap.fr (fun e=>HL1.out.off q0 (by decide) e rfl)
   have t1:=q1.free 3
   have u1:=q1.cell 3
   simp only [List.getElem?_toArray,List.getElem?_cons_zero,List.getElem?_cons_succ] at u1
   have Q1:Hid (Box w1 q 64 #[a0,a1,a2,.slice al li.length cl,a4,a5,a6,a7]):=q1
   have O1:Hid (Own B 136 2 w1 (.slice a1' (li.length+1) c1') (li ++ [[j,lie]])):=by rw [List.length_append] at ho1;exact ho1
   have F1:Hid (Fr (fun k=>k=q∨(Value.slice al li.length cl).ownBlock=some k) w w1):=(Fr.of_below (X:=fun k=>k=q∨(Value.slice al li.length cl).ownBlock=some k) (hbel.alloc hbel.size _)).trans (Fr.of_grown hap.fr (fun k e _=>.inr e))
   clear ho1 hs1 hap q0 q1
   go_wp2_with fail
   go_ret
   exact .inr ⟨Hv.out,rfl,_,O1.out.set Q1.out (by decide) 3 _,by have:=Q1.out.set 3 (.slice a1' (li.length+1) c1');simpa using this,F1.out.trans (Fr.set _ _ (.inl rfl))⟩
theorem eqB_iff {x e:En}:eqB x e=true↔x=e:=by
 obtain ⟨a,b⟩:=x
 obtain ⟨c,d⟩:=e
 simp [eqB]
theorem cntE_one {E:Nat→En}{e:En}{n q:Nat}(hq:q<n)(h:E q=e):1≤cntE E e n:=by
 induction n with
 | zero=>omega
 | succ n ih=>
  simp only [cntE]
  by_cases hn:q=n
  ·subst hn
   rw [if_pos (eqB_iff.2 h)]
   omega
  ·have:=ih (by omega)
   omega
theorem cntE_two {E:Nat→En}{e:En}{n q q':Nat}(hq:q<q')(hn:q'<n)(h:E q=e)(h':E q'=e):2≤cntE E e n:=by
 induction n with
 | zero=>omega
 | succ n ih=>
  simp only [cntE]
  by_cases hn:q'=n
  ·subst hn
   rw [if_pos (eqB_iff.2 h')]
   have:=cntE_one (n:=q') hq h
   omega
  ·have:=ih (by omega)
   omega
theorem cntJ_one {J:Nat→Jt}{e:En}{m j:Nat}(hj:j<m):cntE (J j).E e (J j).ne≤cntJ J e m:=by
 induction m with
 | zero=>omega
 | succ m ih=>
  simp only [cntJ]
  by_cases hm:j=m
  ·subst hm;omega
  ·have:=ih (by omega)
   omega
theorem cntJ_two {J:Nat→Jt}{e:En}{m j j':Nat}(hj:j<j')(hm:j'<m):cntE (J j).E e (J j).ne+cntE (J j').E e (J j').ne≤cntJ J e m:=by
 induction m with
 | zero=>omega
 | succ m ih=>
  simp only [cntJ]
  by_cases hm':j'=m
  ·subst hm'
   have:=cntJ_one (J:=J) (e:=e) (m:=j') hj
   omega
  ·have:=ih (by omega)
   omega
theorem endAt_some {E:Nat→En}{e:En}{n:Nat}(h:1≤cntE E e n):∃ q,endAt E e n=some q∧q<n∧E q=e:=by
 induction n with
 | zero=>simp [cntE] at h
 | succ n ih=>
  simp only [cntE] at h
  simp only [endAt,firstB]
  by_cases h1:1≤cntE E e n
  ·obtain ⟨q,hq,hl,he⟩:=ih h1
   simp only [endAt] at hq
   rw [hq]
   exact ⟨q,rfl,by omega,he⟩
  ·have hn:firstB (fun k=>eqB (E k) e) n=none:=by
    refine firstB_none fun q hq=>?_
    cases hb:eqB (E q) e with
    | false=>rfl
    | true=>exact absurd (cntE_one hq (eqB_iff.1 hb)) h1
   rw [hn]
   by_cases hb:eqB (E n) e=true
   ·exact ⟨n,by simp [hb],by omega,eqB_iff.1 hb⟩
   ·simp only [Bool.not_eq_true] at hb
    rw [hb] at h
    simp at h
    omega
theorem jointAt_some {J:Nat→Jt}{e:En}{m:Nat}(h:1≤cntJ J e m):∃ j q,jointAt J e m=some (j,q)∧j<m∧q<(J j).ne∧(J j).E q=e:=by
 induction m with
 | zero=>simp [cntJ] at h
 | succ m ih=>
  simp only [cntJ] at h
  simp only [jointAt]
  by_cases h1:1≤cntJ J e m
  ·obtain ⟨j,q,hj,hl,hq,he⟩:=ih h1
   rw [hj]
   exact ⟨j,q,rfl,by omega,hq,he⟩
  ·have hn:jointAt J e m=none:=by
    refine jointAt_none fun i hi=>firstB_none fun q hq=>?_
    cases hb:eqB ((J i).E q) e with
    | false=>rfl
    | true=>
     have a:=cntE_one hq (eqB_iff.1 hb)
     have b:=cntJ_one (J:=J) (e:=e) hi
     omega
   rw [hn]
   obtain ⟨q,hq,hl,he⟩:=endAt_some (E:=(J m).E) (e:=e) (n:=(J m).ne) (by omega)
   simp only [hq]
   exact ⟨m,q,rfl,by omega,hl,he⟩
theorem netF_all {n:Nat}{P:Nat→Pc}{m:Nat}{J:Nat→Jt}(h:(netF n P m J).1=0):¬(n=0∨100<n∨120<m)∧(∀ i,i<n→pieceBad P i=false)∧(∀ j,j<m→endsBad n (J j)=false)∧∀ p,p<n→looseBad J m p=false:=by
 unfold netF at h
 by_cases h0:n=0∨100<n∨120<m
 ·rw [if_pos h0] at h;simp at h
 ·rw [if_neg h0] at h
  unfold stage2 at h
  cases h2:firstB (pieceBad P) n with
  | some i=>rw [h2] at h;simp at h
  | none=>
   rw [h2] at h
   simp only at h
   unfold stage3 at h
   cases h3:firstB (fun j=>endsBad n (J j)) m with
   | some i=>rw [h3] at h;simp at h
   | none=>
    rw [h3] at h
    simp only at h
    unfold stage4 at h
    cases h4:firstB (nameBad J) m with
    | some i=>rw [h4] at h;simp at h
    | none=>
     rw [h4] at h
     simp only at h
     unfold stage5 at h
     cases h5:firstB (looseBad J m) n with
     | some i=>rw [h5] at h;simp at h
     | none=>exact ⟨h0,fun i hi=>firstB_some h2 hi,fun j hj=>firstB_some (p:=fun j=>endsBad n (J j)) h3 hj,fun p hp=>firstB_some h5 hp⟩
theorem evOk {n:Nat}{P:Nat→Pc}{m:Nat}{J:Nat→Jt}{k:Nat}{S:Nat→Pc}{ov:Int}(h:sigF n P m J k S=(0,0))(h0:0≤ov)(h1:ov≤100000):Ev.Ok ⟨n,P,m,J,k,S,ov⟩:=by
 unfold sigF at h
 by_cases hn:(netF n P m J).1=0
 ·rw [if_pos hn] at h
  by_cases hk:60<k
  ·rw [if_pos hk] at h;simp at h
  ·rw [if_neg hk] at h
   obtain ⟨g0,g1,g2,g3⟩:=netF_all hn
   have gl:=(netF_zero hn).2
   have gs:∀ i,i<k→sgBad n P (S i)=false:=by
    unfold sig3 at h
    cases h3:firstB (fun i=>sgBad n P (S i)) k with
    | some i=>rw [h3] at h;simp at h
    | none=>exact fun i hi=>firstB_some (p:=fun i=>sgBad n P (S i)) h3 hi
   have gc:∀ i,i<k→clashB S (S i) i=false:=by
    rw [sig3_none gs] at h
    unfold sig4 at h
    cases h4:firstB (fun i=>clashB S (S i) i) k with
    | some i=>rw [h4] at h;simp at h
    | none=>exact fun i hi=>firstB_some (p:=fun i=>clashB S (S i) i) h4 hi
   have ge:∀ j,j<m→inB (J j).kd 1 4=true∧((J j).ne:Int)=(J j).kd∧∀ q,q<(J j).ne→endB n ((J j).E q)=true:=fun j hj=>by
    have hb:=g2 j hj
    simp only [endsBad,Bool.or_eq_false_iff,Bool.not_eq_eq_eq_not,Bool.not_false,decide_eq_true_eq] at hb
    refine ⟨hb.1.1,hb.1.2,fun q hq=>?_⟩
    cases hx:endB n ((J j).E q)
    ·have:=allE_false (E:=(J j).E) (n:=n) hq hx
     rw [hb.2] at this
     exact this.symm
    ·rfl
   have gn:∀ j,j<m→∀ q,q<(J j).ne→0≤((J j).E q).pc∧((J j).E q).pc<n∧(((J j).E q).sd=0∨((J j).E q).sd=1):=fun j hj q hq=>by
    have:=(ge j hj).2.2 q hq
    simp only [endB,inB,Bool.and_eq_true,decide_eq_true_eq] at this
    omega
   have gcnt:∀ e:En,0≤e.pc→e.pc<n→(e.sd=0∨e.sd=1)→cntJ J e m=1:=fun e a b c=>by
    have hp:=g3 e.pc.toNat (by omega)
    simp only [looseBad,Bool.or_eq_false_iff,Bool.not_eq_eq_eq_not,Bool.not_false,decide_eq_true_eq] at hp
    obtain ⟨ep,es⟩:=e
    simp only at a b c hp
    rw [Int.toNat_of_nonneg a] at hp
    rcases c with rfl | rfl
    ·exact hp.1
    ·exact hp.2
   refine ⟨by show 0<n;omega,by show n≤100;omega,by show m≤120;omega,by show k≤60;omega,gl,fun j hj=>?_,gn,fun e a b c=>jointAt_some (by rw [gcnt e a b c];exact Nat.le_refl _),fun j q j' q' hj hq hj' hq' he=>?_,fun i hi=>?_,fun i j hi hj ha hb hc=>?_,h0,h1⟩
   ·obtain ⟨a,b,_⟩:=ge j hj
    simp only [inB,Bool.and_eq_true,decide_eq_true_eq] at a
    exact ⟨a.1,a.2,b⟩
   ·have hj:j<m:=hj
    have hq:q<(J j).ne:=hq
    have hj':j'<m:=hj'
    have hq':q'<(J j').ne:=hq'
    obtain ⟨a,b,c⟩:=gn j hj q hq
    have hone:=gcnt ((J j).E q) a b c
    have he':(J j).E q=(J j').E q':=he
    have hc1:1≤cntE (J j).E ((J j).E q) (J j).ne:=cntE_one hq rfl
    have hc2:1≤cntE (J j').E ((J j).E q) (J j').ne:=cntE_one hq' he'.symm
    have hj1:j=j':=by
     rcases Nat.lt_trichotomy j j' with hl | hl | hl
     ·have:=cntJ_two (J:=J) (e:=(J j).E q) hl hj';omega
     ·exact hl
     ·have:=cntJ_two (J:=J) (e:=(J j).E q) hl hj;omega
    subst hj1
    refine ⟨rfl,?_⟩
    have hb1:=cntJ_one (J:=J) (e:=(J j).E q) hj
    rcases Nat.lt_trichotomy q q' with hl | hl | hl
    ·have:=cntE_two (E:=(J j).E) hl hq' rfl he'.symm;omega
    ·exact hl
    ·have:=cntE_two (E:=(J j).E) hl hq he'.symm rfl;omega
   ·have hb:=gs i hi
    simp only [sgBad,Bool.or_eq_false_iff,Bool.not_eq_eq_eq_not,Bool.not_false,inB,Bool.and_eq_true,decide_eq_true_eq,Bool.or_eq_true,beq_iff_eq] at hb
    obtain ⟨⟨⟨_,ha⟩,hw⟩,hs⟩:=hb
    exact ⟨ha.1,by show (S i).ln<(n:Int);omega,hw,hs.1,hs.2⟩
   ·have key:∀ a b,a<b→b<k→(S a).ln=(S b).ln→(S a).sp=(S b).sp→(S a).br=(S b).br→False:=fun a b hab hbk h1 h2 h3=>by
     have hs:sameB (S a) (S b)=true:=by simp [sameB,h1,h2,h3]
     have:=clashB_true (S:=S) (s:=S b) hab hs
     rw [gc b hbk] at this
     simp at this
    rcases Nat.lt_trichotomy i j with hl | hl | hl
    ·exact (key i j hl hj ha hb hc).elim
    ·exact hl
    ·exact (key j i hl hi ha.symm hb.symm hc.symm).elim
 ·rw [if_neg hn] at h
  simp at h
set_option maxHeartbeats 1000000 in
theorem lieOf117 (lv:Value)(li:List Rw)(j:Int)(w:World)(hl:LsAt 2 0 w lv li)(hn:li.length≤1048576):
 Calls Tryz.prog 117 #[lv,.int .i64 j] w fun e w'=>e=.returned (.int .i64 ((lieF li j).getD 0))∧Below w.heap.size w w':=by
 obtain ⟨al,cl,rfl,hNs⟩:=hl.val
 clear hl
 go_enter Tryz.func117,Tryz.ntmps117
 go_wp2_with fail
 go_loopw [9] (fun i wr=>∃ k:Nat,k≤li.length∧i=.int .i64 k∧Hid (∀ i,i<k→¬fnL li i 0=j)∧Below w.heap.size w wr) (fun i _=>li.length-(intOf i).toNat)
 case atStart=>exact ⟨0,Nat.zero_le _,rfl,fun i hi=>absurd hi (Nat.not_lt_zero _),Below.refl _ _⟩
 case round=>
  obtain ⟨k,hk,rfl,hall,hbel⟩:=hrel
  by_cases hlt:k<li.length
  ·obtain ⟨b,off,rfl,_,hb,hc⟩:=(hNs.mono zl hbel lr) (by omega)
   have c0:wr.cell? ⟨b,off+k*2,none⟩=some (.int .i64 (fnL li k 0)):=hc k hlt 0 (by omega)
   have c1:wr.cell? ⟨b,off+k*2+1,none⟩=some (.int .i64 (fnL li k 1)):=hc k hlt 1 (by omega)
   clear hc
   have hB2:=hbel.alloc hbel.size (.cells #[.int .i64 (fnL li k 0),.int .i64 (fnL li k 1)] 136)
   by_cases h1:fnL li k 0=j
   ·have Hv:Hid ((lieF li j).getD 0=fnL li k 1):=by
     show (lieF li j).getD 0=_
     rw [lieF_hit hlt hall.out h1]
     rfl
    have h1':(fnL li k 0 == j)=true:=by simp [h1]
    clear hall h1
    go_wp2_with fail
    go_ret
    exact ⟨by rw [Hv.out] <;> rfl,hB2⟩
   ·have Hv:Hid (∀ i,i<k+1→¬fnL li i 0=j):=by
     intro i hi
     by_cases e:i=k
     ·subst e;exact h1
     ·exact hall.out i (by omega)
    have h1':(fnL li k 0 == j)=false:=by simp [h1]
    clear hall h1
    go_wp2_with fail
    go_roundw
    case rel=>exact ⟨k+1,by omega,by go_num,Hv,hB2⟩
    case measure=>simp [intOf];omega
  ·obtain rfl:k=li.length:=by omega
   have Hv:Hid ((lieF li j).getD 0=0):=by
    show (lieF li j).getD 0=_
    rw [lieF_none hall.out]
    rfl
   clear hall
   go_wp2_with fail
   go_ret
   exact ⟨by rw [Hv.out] <;> rfl,hbel⟩
end Go.Proofs.YtkhaehpobpkkiaaGreat
