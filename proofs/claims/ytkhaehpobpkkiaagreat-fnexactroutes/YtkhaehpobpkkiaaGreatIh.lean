import Derived.RangeFuncLeaves
import Derived.Test.YtkhaehpobpkkiaaGreatI17
import Derived.Test.YtkhaehpobpkkiaaGreatI18
import Derived.Test.YtkhaehpobpkkiaaGreatIf
import Derived.Test.YtkhaehpobpkkiaaGreatQd
import Derived.Test.YtkhaehpobpkkiaaGreatRz
namespace Go.Proofs.YtkhaehpobpkkiaaGreat
open Go.RowKit
theorem comeTo67 {v:Ev}(ok:v.Ok){n0:Nat}{wB:World}{bt l:Nat}{fr:Int}{J Jx:Jt'}{pa:Option Addr}{pc:Nat}{ja:Option Addr}{jc:Nat}{sa:Option Addr}{sc:Nat}(hT:TkAt wB bt v pa pc ja jc sa sc)(hbt:wB.heap.size≤n0)(hn0:n0≤wB.heap.size)(hJ:JOk n0 J)(hY:Yd v n0 wB l fr J Jx):∀ f:Nat,CmC v n0 wB bt l fr J Jx f
 | 0=>fun pre w D t sv pv lv xv p way far _ _ _ _ hok _ _ _ _ _ hfu=>by
  have:=hok.st.len
  omega
 | f+1=>fun pre w D t sv pv lv xv p way far hj hb ht hd hok hlk hp hw hf0 hf1 hfu=>by
  cases hnx:nextS (v.P p).ln v.S p way far v.k with
  | some b=>exact comeA ok hT hbt hn0 hJ hY f pre w D t sv pv lv xv p way far hj hb ht hd hok hlk hp hw hf0 hf1 b hnx
  | none=>exact comeB ok hT hbt hn0 hJ hY f pre w D t sv pv lv xv p way far hj hb ht hd hok hlk hp hw hf0 hf1 hnx (comeTo67 ok hT hbt hn0 hJ hY f) hfu
def lpOf (fn:FuncId)(a:Act)(ps:Array Tmp)(assign body:Code)(ld:Nat):Loop:={ state:=.ready,pending:=none,fn:=fn,tmps:=a.tmps,params:=ps,assign:=assign,body:=body,defers:=ld }
theorem wp_rangeJ {P:Program}{g:Operand}{ps:Array Tmp}{assign body:Code}{Q:Exit→Act→World→Prop}{a:Act}{w:World}{gf:Nat}{lb:Array Value}(hg:a.eval g=.func (.func gf) #[] lb)(eg:∀ args w,(callFunc gf args).run P w=.ok (.enter gf args) w)
 (h:∀ fn,Calls P gf (#[.func (.yield (w.heap.size+1)) #[] #[]] ++ lb) ((w.alloc (.deferred (some []))).alloc (.loop (lpOf fn a ps assign body w.heap.size))) (fun e W=>(∃ u,e=.returned u)∧
  ((W.heap[w.heap.size+1]?=some (.loop (lpOf fn a ps assign body w.heap.size))∧Q .normal { a with defers:={ target:=.collected w.heap.size,args:=#[] } :: a.defers } (W.putObj (w.heap.size+1) (.loop { lpOf fn a ps assign body w.heap.size with state:=.exhausted }))) ∨
   (∃ c,W.heap[w.heap.size+1]?=some (.loop { lpOf fn a ps assign body w.heap.size with state:=.done,pending:=some c })∧c.wp P Q { a with defers:={ target:=.collected w.heap.size,args:=#[] } :: a.defers } (W.putObj (w.heap.size+1) (.loop { lpOf fn a ps assign body w.heap.size with state:=.exhausted,pending:=some c })))))):
 (Code.rangeFunc g ps assign body).wp P Q a w:=by
 refine (wpIn_wide (n:=3)).1 (wpIn_rangeFunc fun fn _=>?_)
 refine ⟨w.heap.size+1,[{ target:=.collected w.heap.size,args:=#[] }],(w.alloc (.deferred (some []))).alloc (.loop (lpOf fn a ps assign body w.heap.size)),{ target:=.fn (.func gf) lb,args:=#[.func (.yield (w.heap.size+1)) #[] #[]] },(w.alloc (.deferred (some []))).alloc (.loop (lpOf fn a ps assign body w.heap.size)),gf,#[.func (.yield (w.heap.size+1)) #[] #[]] ++ lb,(w.alloc (.deferred (some []))).alloc (.loop (lpOf fn a ps assign body w.heap.size)),?_,?_,fun _ _=>trivial,?_,fun e=>by simp [Fence.wide] at e,?_⟩
 ·exact run_enterLoop_outer _ _ _ _ _
 ·simp only [resolve,hg]
  simp [go_sem]
 ·simp [invoke,go_sem,eg]
 ·refine callsIn_wide.2 ((h fn).mono ?_)
  rintro e W ⟨⟨u,rfl⟩,hh⟩
  rcases hh with ⟨hl,hq⟩ | ⟨c,hl,hq⟩
  ·exact ⟨none,_,run_endLoop hl (by simp [lpOf]),hq⟩
  ·exact ⟨some c,_,run_endLoop hl (by simp),(wpIn_wide (n:=3)).2 hq⟩
theorem Fr.same {X:Nat→Prop}{w:World}{b:Nat}{T:TypeId}{u:Value}(hb:Box w b T #[u]):Fr X w (w.setCell ⟨b,0,none⟩ u):=
 ⟨rfl,rfl,rfl,by rw [size_setc];exact Nat.le_refl _,fun k _ _=>by
  by_cases e:k=b
  ·subst e
   have h1:Box (w.setCell ⟨k,0,none⟩ u) k T (#[u].setIfInBounds 0 u):=hb.set 0 u
   have h2:(w.setCell ⟨k,0,none⟩ u).heap[k]?=some (.cells #[u] T (0,0)):=h1
   have h3:w.heap[k]?=some (.cells #[u] T (0,0)):=hb
   rw [h2,h3]
  ·exact Below.heap_setCell w _ u k e⟩
theorem Fr.putO {X:Nat→Prop}(w:World){l:Nat}(o:Obj)(hl:X l):Fr X w (w.putObj l o):=⟨rfl,rfl,rfl,by simp,fun k _ hn=>World.putObj_heap_other fun e=>hn (by rw [e];exact hl)⟩
section
variable {n0 bt bo bc b7 b10 l ld:Nat} {fr:Int} {lp:Loop} {pre:List (Option RtM)} {W W3:World} {D:Nat→Prop}
theorem JR.nl (h:JR n0 bt bo bc b7 b10 l ld fr lp pre W D){b:Nat}{T:TypeId}{vs:Array Value}(hb:Box W b T vs):b≠l:=fun e=>by
 subst e
 have hb':W.heap[b]?=some (.cells vs T (0,0)):=hb
 rw [h.r] at hb'
 simp at hb'
theorem JR.ndl (h:JR n0 bt bo bc b7 b10 l ld fr lp pre W D):ld≠l:=fun e=>by
 have:=h.d
 rw [e,h.r] at this
 simp at this
theorem JR.nd (h:JR n0 bt bo bc b7 b10 l ld fr lp pre W D){b:Nat}{T:TypeId}{vs:Array Value}(hb:Box W b T vs):b≠ld:=fun e=>by
 subst e
 have hb':W.heap[b]?=some (.cells vs T (0,0)):=hb
 rw [h.d] at hb'
 simp at hb'
theorem JR.ret {P:Program}{it:Option RtM}(h:JR n0 bt bo bc b7 b10 l ld fr lp pre W D)(hf:Fr (fun k=>k=bc∨k=l) W W3)(hl:W3.heap[l]?=some (.loop { lp with state:=.busy }))(hx:20000<pre.length+1∨300<(routesOf (pre ++ [it])).length):
 ∃ u w',(Instr.endRound l (some .ret)).run P W3=.ok u w'∧YPost (JR n0 bt bo bc b7 b10 l ld fr lp) (JX n0 l ld lp) pre it W D (.returned u) w':=by
 obtain ⟨o1,o2,o3,o4,o5,o6⟩:=h.own
 refine ⟨_,_,run_endRound (some .ret) hl,D,?_,fun k hk=>.inl hk,.inr ⟨rfl,?_⟩⟩
 ·refine (hf.mono fun k _ hk=>?_).trans (Fr.putO _ _ o5)
  rcases hk with rfl | rfl
  ·exact o2
  ·exact o5
 ·have hlW:=(Array.getElem?_eq_some_iff.1 hl).1
  refine ⟨World.putObj_heap_same hlW,(World.putObj_heap_other h.ndl).trans ((hf.block ld (h.lt _ o6).2 fun e=>?_).trans h.d),⟨o5,o6⟩,fun k hk=>⟨(h.lt k hk).1,?_⟩,?_⟩
  ·rcases e with e | e
   ·exact h.nd h.c e.symm
   ·exact h.ndl e
  ·rw [World.putObj_size]
   exact ltl (h.lt k hk).2 hf.size
  ·rcases hx with hx | hx
   ·exact .inl (by simpa using hx)
   ·exact .inr hx
theorem JR.none {P:Program}{it:Option RtM}(h:JR n0 bt bo bc b7 b10 l ld fr lp pre W D)(hlp:lp.state=.ready∧lp.pending=Option.none)(hne:bo≠bc∧b7≠bc∧b10≠bc)(hf:Fr (fun k=>k=bc∨k=l) W W3)(hc:Box W3 bc 3 #[.int .i64 ((pre.length:Int)+1)])(hl:W3.heap[l]?=some (.loop { lp with state:=.busy }))(hx:pre.length+1≤20000)(hit:it=Option.none):
 ∃ u w',(Instr.endRound l Option.none).run P W3=.ok u w'∧YPost (JR n0 bt bo bc b7 b10 l ld fr lp) (JX n0 l ld lp) pre it W D (.returned u) w':=by
 subst hit
 obtain ⟨o1,o2,o3,o4,o5,o6⟩:=h.own
 obtain ⟨out,b1,b2⟩:=h.o
 have hlW:=(Array.getElem?_eq_some_iff.1 hl).1
 have er:routesOf (pre ++ [Option.none])=routesOf pre:=by simp [routesOf]
 have kp:∀ k,D k→k≠bc→k≠l→∀ o,(W3.putObj l o).heap[k]?=W.heap[k]?:=fun k hk e1 e2 o=>(World.putObj_heap_other e2).trans (hf.block k (h.lt k hk).2 (fun e=>by rcases e with e | e;exact e1 e;exact e2 e))
 refine ⟨_,_,run_endRound Option.none hl,D,?_,fun k hk=>.inl hk,.inl ⟨rfl,⟨⟨out,b1.keep (kp _ o1 hne.1 (h.nl b1) _),?_⟩,?_,h.t.keep (kp _ o3 hne.2.1 (h.nl h.t) _),h.f.keep (kp _ o4 hne.2.2 (h.nl h.f) _),?_,(kp _ o6 (h.nd h.c).symm h.ndl _).trans h.d,by simpa using hx,by rw [er];exact h.k,h.own,fun k hk=>⟨(h.lt k hk).1,?_⟩⟩⟩⟩
 ·refine (hf.mono fun k _ hk=>?_).trans (Fr.putO _ _ o5)
  rcases hk with rfl | rfl
  ·exact o2
  ·exact o5
 ·rw [er]
  exact b2.keep fun k hk=>kp k hk.1 hk.2.2.1 hk.2.2.2.2.2.1 _
 ·have:Box (W3.putObj l (.loop { lp with state:=.ready,pending:=Option.none })) bc 3 #[.int .i64 ((pre.length:Int)+1)]:=hc.keep (World.putObj_heap_other (h.nl h.c))
  simpa using this
 ·refine (World.putObj_heap_same hlW).trans ?_
  obtain ⟨e1,e2⟩:=hlp
  cases lp
  simp only at e1 e2
  subst e1
  subst e2
  rfl
 ·rw [World.putObj_size]
  exact ltl (h.lt k hk).2 hf.size
end
theorem RtIs.kind {B:Nat}{w:World}{row:List Value}{r:RtM}{sv lv xv qv ov fv:Value}(h:RtIs B w row r sv lv xv qv ov fv){k:Nat}(hk:Tr6 sv lv xv qv ov fv k):∃ cur e,w.heap[k]?=some (.cells cur e (0,0))∧e≠64:=by
 have go:∀ {e:TypeId} {c:Nat} {u:Value} {l:List Rw},Own B e c w u l→u.ownBlock=some k→e≠64→∃ cur e,w.heap[k]?=some (.cells cur e (0,0))∧e≠64:=fun {e c u l} ho hu he=>by
  rcases ho.shape with ⟨rfl,_⟩ | ⟨g,cap,cur,rfl,_,h3,_⟩
  ·simp [Value.ownBlock] at hu
  ·simp only [Value.ownBlock,Option.some.injEq] at hu
   subst hu
   exact ⟨cur,e,h3,he⟩
 rcases hk with hk | hk | hk | hk | hk | hk
 ·exact go h.s hk (by decide)
 ·exact go h.l hk (by decide)
 ·exact go h.x hk (by decide)
 ·exact go h.q hk (by decide)
 ·exact go h.o hk (by decide)
 ·exact go h.f hk (by decide)
theorem RtIs.tlt {B:Nat}{w:World}{row:List Value}{r:RtM}{sv lv xv qv ov fv:Value}(h:RtIs B w row r sv lv xv qv ov fv){k:Nat}(hk:Tr6 sv lv xv qv ov fv k):B≤k∧k<w.heap.size:=by
 rcases hk with hk | hk | hk | hk | hk | hk
 ·exact h.s.lt hk
 ·exact h.l.lt hk
 ·exact h.x.lt hk
 ·exact h.q.lt hk
 ·exact h.o.lt hk
 ·exact h.f.lt hk
theorem ownsRow_blk {B:Nat}{w:World}{u:Value}{n:Nat}{xs:List Value}(h:w.ownsRow B 64 8 u n xs){g:Nat}(hg:u.ownBlock=some g):B≤g∧g<w.heap.size:=by
 obtain ⟨_,⟨rfl,_⟩ | ⟨g',cap,cur,rfl,r2,r3,_⟩⟩:=h
 ·simp [Value.ownBlock] at hg
 ·simp only [Value.ownBlock,Option.some.injEq] at hg
  subst hg
  exact ⟨r2,(Array.getElem?_eq_some_iff.1 r3).1⟩
theorem JR.some {P:Program}{n0 bt bo bc b7 b10 l ld:Nat}{fr:Int}{lp:Loop}{pre:List (Option RtM)}{W W3 w5 w7:World}{D:Nat→Prop}{it:Option RtM}{r:RtM}{out out' r1 r2 r3 r4 r5 r6:Value}{rows:List (List Value)}{row:List Value}{o6:Obj}
 (h:JR n0 bt bo bc b7 b10 l ld fr lp pre W D) (hlp:lp.state=.ready∧lp.pending=Option.none) (hne:bo≠bc∧b7≠bc∧b10≠bc) (hno:b7≠bo∧b10≠bo) (hf:Fr (fun k=>k=bc∨k=l) W W3) (hc:Box W3 bc 3 #[.int .i64 ((pre.length:Int)+1)]) (hl:W3.heap[l]?=Option.some (.loop { lp with state:=.busy })) (hx:pre.length+1≤20000) (hx2:(routesOf pre).length+1≤300) (hit:it=Option.some r)
 (hbo:Box W bo 29 #[out]) (hod:OutD (Dx D bo bc b7 b10 l ld) n0 W out (routesOf pre)) (hrl:rows.length=(routesOf pre).length) (hrs:∀ (i:Nat) (r:RtM),(routesOf pre)[i]?=Option.some r→∃ row sv lv xv qv ov fv,rows[i]?=Option.some row∧RtIs n0 W row r sv lv xv qv ov fv∧∀ k,Tr6 sv lv xv qv ov fv k→Dx D bo bc b7 b10 l ld k)
 (hapt:Apart rows∧∀ r,r ∈ routesOf pre→RtB r) (hrb:RtB r) (hr45:∀ k,r4.ownBlock=Option.some k→r5.ownBlock≠Option.some k)
 (hb5:Below W3.heap.size W3 w5) (hr:RtIs W3.heap.size w5 row r r1 r2 r3 r4 r5 r6) (ha:Appd (w5.alloc o6) w7 out out') (ho:w7.ownsRow n0 64 8 out' ((routesOf pre).length+1) (rows.flatten ++ row)):
 ∃ u w',(Instr.endRound l Option.none).run P (w7.setCell ⟨bo,0,Option.none⟩ out')=.ok u w'∧YPost (JR n0 bt bo bc b7 b10 l ld fr lp) (JX n0 l ld lp) pre it W D (.returned u) w':=by
 subst hit
 obtain ⟨o1,o2,o3,o4,o5,o6'⟩:=h.own
 have s1:W.heap.size≤W3.heap.size:=hf.size
 have s2:W3.heap.size≤w5.heap.size:=hb5.size
 have s3:w5.heap.size+1≤w7.heap.size:=by have:=ha.fr.size;rwa [World.size_alloc] at this
 have hn3:n0≤W3.heap.size:=by have:=(h.lt _ o1);omega
 have hnl:bo≠l:=h.nl hbo
 have hD0:∀ k,out.ownBlock=Option.some k→Dx D bo bc b7 b10 l ld k:=hod.1
 have k37:∀ k,k<W3.heap.size→out.ownBlock≠Option.some k→w7.heap[k]?=W3.heap[k]?:=fun k hk hn=>(ha.fr.block k (by rw [World.size_alloc];omega) (fun e=>hn e.symm)).trans ((Below.heap_alloc w5 o6 k (by omega)).trans (hb5.block k hk))
 have k79:∀ k,k≠bo→k≠l→∀ o,((w7.setCell ⟨bo,0,Option.none⟩ out').putObj l o).heap[k]?=w7.heap[k]?:=fun k e1 e2 o=>(World.putObj_heap_other e2).trans (Below.heap_setCell w7 _ out' k e1)
 have kp:∀ k,D k→out.ownBlock≠Option.some k→k≠bo→k≠bc→k≠l→∀ o,((w7.setCell ⟨bo,0,Option.none⟩ out').putObj l o).heap[k]?=W.heap[k]?:=fun k hk hn e0 e1 e2 o=>(k79 k e0 e2 o).trans ((k37 k (by have:=(h.lt k hk).2;omega) hn).trans (hf.block k (h.lt k hk).2 (fun e=>by rcases e with e | e;exact e1 e;exact e2 e)))
 have nbo:out.ownBlock≠Option.some bo:=fun e=>(hD0 _ e).2.1 rfl
 have nbc:out.ownBlock≠Option.some bc:=fun e=>(hD0 _ e).2.2.1 rfl
 have nb7:out.ownBlock≠Option.some b7:=fun e=>(hD0 _ e).2.2.2.1 rfl
 have nb10:out.ownBlock≠Option.some b10:=fun e=>(hD0 _ e).2.2.2.2.1 rfl
 have nbl:out.ownBlock≠Option.some l:=fun e=>(hD0 _ e).2.2.2.2.2.1 rfl
 have nbd:out.ownBlock≠Option.some ld:=fun e=>(hD0 _ e).2.2.2.2.2.2 rfl
 have z1:=(h.lt _ o1).2
 have z2:=(h.lt _ o2).2
 have z3:=(h.lt _ o3).2
 have z4:=(h.lt _ o4).2
 have z5:=(h.lt _ o5).2
 have z6:=(h.lt _ o6').2
 have bo3:Box W3 bo 29 #[out]:=hbo.keep (hf.block bo z1 (fun e=>by rcases e with e | e;exact hne.1 e;exact hnl e))
 have bo7:Box w7 bo 29 #[out]:=bo3.keep (k37 bo (by omega) nbo)
 have hl7:(w7.setCell ⟨bo,0,Option.none⟩ out').heap[l]?=Option.some (.loop { lp with state:=.busy }):=(Below.heap_setCell w7 _ out' l hnl.symm).trans ((k37 l (by omega) nbl).trans hl)
 have er:routesOf (pre ++ [Option.some r])=routesOf pre ++ [r]:=by simp [routesOf]
 have hnew:∀ k,Dx D bo bc b7 b10 l ld k∨W.heap.size≤k→k≠bo∧k≠bc∧k≠b7∧k≠b10∧k≠l∧k≠ld:=fun k hk=>by
  rcases hk with hk | hk
  ·exact hk.2
  ·refine ⟨?_,?_,?_,?_,?_,?_⟩ <;> omega
 have hmv:∀ k,out'.ownBlock=Option.some k→Dx D bo bc b7 b10 l ld k∨W.heap.size≤k:=fun k hk=>by
  rcases ha.moved k hk with e | e
  ·exact .inl (hD0 k e)
  ·rw [World.size_alloc] at e
   exact .inr (by omega)
 have htr:∀ k,Tr6 r1 r2 r3 r4 r5 r6 k→W3.heap.size≤k∧k<w5.heap.size:=fun k hk=>hr.tlt hk
 refine ⟨_,_,run_endRound Option.none hl7,fun k=>D k∨out'.ownBlock=Option.some k∨Tr6 r1 r2 r3 r4 r5 r6 k,?_,fun k hk=>?_,.inl ⟨rfl,⟨⟨out',?_,?_⟩,?_,h.t.keep (kp _ o3 nb7 hno.1 hne.2.1 (h.nl h.t) _),h.f.keep (kp _ o4 nb10 hno.2 hne.2.2 (h.nl h.f) _),?_,(kp _ o6' nbd (h.nd hbo).symm (h.nd h.c).symm h.ndl _).trans h.d,by simpa using hx,by rw [er];simpa using hx2,⟨.inl o1,.inl o2,.inl o3,.inl o4,.inl o5,.inl o6'⟩,fun k hk=>?_⟩⟩⟩
 ·have f1:Fr D W W3:=hf.mono fun k _ hk=>by
   rcases hk with rfl | rfl
   ·exact o2
   ·exact o5
  have f2:Fr D W (w5.alloc o6):=(f1.trans (Fr.of_below hb5)).alloc o6
  have f3:Fr D W w7:=f2.then (Fr.of_grown (X:=fun k=>out.ownBlock=Option.some k) ha.fr (fun k e _=>e)) (fun k _ e=>(hD0 k e).1)
  exact (f3.trans (Fr.set ⟨bo,0,Option.none⟩ out' o1)).trans (Fr.putO _ _ o5)
 ·rcases hk with hk | hk | hk
  ·exact .inl hk
  ·rcases hmv k hk with e | e
   ·exact .inl e.1
   ·exact .inr e
  ·exact .inr (by have:=htr k hk;omega)
 ·exact (bo7.set 0 out').keep (World.putObj_heap_other hnl)
 ·rw [er]
  have hdx:∀ k,(out'.ownBlock=Option.some k∨Tr6 r1 r2 r3 r4 r5 r6 k)→Dx D bo bc b7 b10 l ld k∨W.heap.size≤k:=fun k hk=>by
   rcases hk with hk | hk
   ·exact hmv k hk
   ·exact .inr (by have:=htr k hk;omega)
  refine ⟨fun k hk=>⟨.inr (.inl hk),hnew k (hmv k hk)⟩,rows ++ [row],by simp [hrl],?_,fun i r' hi=>?_,hapt.1.snoc (fun i a hi k hk hk2=>?_) (fun k hk=>?_),fun r' hr'=>?_⟩
  ·have:w7.ownsRow n0 64 8 out' (routesOf pre ++ [r]).length (rows ++ [row]).flatten:=by simpa using ho
   exact ownsRow_keep this fun g hg=>k79 g (hnew g (hmv g hg)).1 (hnew g (hmv g hg)).2.2.2.2.1 _
  ·by_cases hlt:i<(routesOf pre).length
   ·rw [List.getElem?_append_left hlt] at hi
    obtain ⟨row',a,b,c,d,e,f,k1,k2,k3⟩:=hrs i r' hi
    refine ⟨row',a,b,c,d,e,f,by rw [List.getElem?_append_left (by omega)];exact k1,k2.keepD fun k hk=>?_,fun k hk=>⟨.inl (k3 k hk).1,(k3 k hk).2⟩⟩
    refine kp k (k3 k hk).1 (fun e=>?_) (k3 k hk).2.1 (k3 k hk).2.2.1 (k3 k hk).2.2.2.2.2.1 _
    obtain ⟨cur,e1,q1,q2⟩:=k2.kind hk
    obtain ⟨_,cur',q3⟩:=hod.out.block e
    rw [q1] at q3
    simp only [Option.some.injEq,Obj.cells.injEq] at q3
    exact q2 q3.2.1
   ·have hlt2:i=(routesOf pre).length:=by
     have:=(List.getElem?_eq_some_iff.1 hi).1
     simp at this
     omega
    subst hlt2
    simp at hi
    subst hi
    refine ⟨row,r1,r2,r3,r4,r5,r6,by rw [← hrl];simp,?_,fun k hk=>⟨.inr (.inr hk),hnew k (hdx k (.inr hk))⟩⟩
    have hr0:RtIs n0 w5 row r r1 r2 r3 r4 r5 r6:=⟨hr.row,hr.s.keep hn3 fun _ _=>rfl,hr.l.keep hn3 fun _ _=>rfl,hr.x.keep hn3 fun _ _=>rfl,hr.q.keep hn3 fun _ _=>rfl,hr.o.keep hn3 fun _ _=>rfl,hr.f.keep hn3 fun _ _=>rfl⟩
    refine hr0.keepD fun k hk=>?_
    have zz:=htr k hk
    refine (k79 k (by omega) (by omega) _).trans ((ha.fr.block k (by rw [World.size_alloc];omega) (fun e=>?_)).trans (Below.heap_alloc w5 o6 k zz.2))
    have:=(h.lt k (hD0 k e.symm).1).2
    omega
  ·have hil:i<(routesOf pre).length:=by rw [← hrl];exact (List.getElem?_eq_some_iff.1 hi).1
   obtain ⟨row',a1,b1,c1,d1,e1,f1,k1,k2,k3⟩:=hrs i ((routesOf pre)[i]) (List.getElem?_eq_getElem hil)
   rw [hi] at k1
   cases k1
   have q1:=(h.lt k (k3 k (k2.blk hk)).1).2
   have q2:=(htr k (hr.blk hk2)).1
   omega
  ·rw [hr.row] at hk ⊢
   exact hr45 k hk
  ·rcases List.mem_append.1 hr' with e | e
   ·exact hapt.2 r' e
   ·rw [List.mem_singleton.1 e]
    exact hrb
 ·have c7:Box w7 bc 3 #[.int .i64 ((pre.length:Int)+1)]:=hc.keep (k37 bc (by omega) nbc)
  have:Box ((w7.setCell ⟨bo,0,Option.none⟩ out').putObj l (.loop { lp with state:=.ready,pending:=Option.none })) bc 3 #[.int .i64 ((pre.length:Int)+1)]:=c7.keep (k79 bc hne.1.symm (h.nl h.c) _)
  simpa using this
 ·refine (World.putObj_heap_same (Array.getElem?_eq_some_iff.1 hl7).1).trans ?_
  obtain ⟨e1,e2⟩:=hlp
  cases lp
  simp only at e1 e2
  subst e1
  subst e2
  rfl
 ·rw [World.putObj_size,size_setc]
  rcases hk with hk | hk | hk
  ·have:=h.lt k hk
   omega
  ·exact ownsRow_blk ho hk
  ·have:=htr k hk
   omega
structure MkOk (n0:Nat)(D:Nat→Prop)(ds:List Deferred)(W:World):Prop where
 ks:∃ ks:List Nat,ds=ks.map (fun k=>{ target:=.collected k,args:=#[] })∧ks.Nodup∧∀ k,k ∈ ks→W.heap[k]?=some (.deferred (some []))∧n0≤k∧¬D k
structure RS (v:Ev)(n0 bt:Nat)(wB:World)(i:Nat)(ds:List Deferred)(W:World)(D:Nat→Prop)(out:Value):Prop where
 bel:Below n0 wB W
 o:Box W (n0+1) 29 #[out]
 od:OutD (fun k=>D k∧k≠n0∧k≠n0+1∧k≠n0+2) n0 W out (routesOf (v.all i))
 t:Box W n0 72 #[.pointer (some ⟨bt,0,none⟩)]
 c:Box W (n0+2) 3 #[.int .i64 ((v.all i).length:Int)]
 m:(v.all i).length≤20000
 k:(routesOf (v.all i)).length≤300
 lt:∀ k,D k→n0≤k∧k<W.heap.size
 own:D n0∧D (n0+1)∧D (n0+2)
 mks:MkOk n0 D ds W
def noDef (ops:Array Oper):Bool:=ops.all fun o=>match o.op with
 | .defer _=>false
 | _=>true
theorem noDef_of {ops:Array Oper}(h:noDef ops=true):∀ (i:Nat) (o:Oper),ops[i]?=some o→∀ c,o.op≠.defer c:=fun i o ho c e=>by
 have hm:=Array.mem_of_getElem? ho
 have:=(Array.all_eq_true_iff_forall_mem.1 h) o hm
 rw [e] at this
 simp at this
theorem res9 {tmps:Array Value}{b:Nat}(h6:tmps.getD 6 undef=.pointer (some ⟨b,0,none⟩)){w:World}{a:Option Addr}{n c:Nat}(hx:w.cell? ⟨b,0,none⟩=some (.slice a n c)):(results Tryz.f9 tmps).run Tryz.prog w=.ok (.slice a n c) w:=by
 have hr:Tryz.f9.results=#[.cell 6 29]:=rfl
 have h6':tmps[6]?.getD undef=.pointer (some ⟨b,0,none⟩):=by simpa using h6
 simp [results,Sem.run_bind,Result.andThen,h6',asAddr,loadVar,hx]
theorem leaves_marks {F:Fence}{n:Nat}{P:Program}{fn:Func}{tmps:Array Value}{R:Ending→World→Prop}:∀ (ks:List Nat) (w:World),ks.Nodup→(∀ k,k ∈ ks→w.heap[k]?=some (.deferred (some [])))→
 (∀ w',Fr (fun k=>k ∈ ks) w w'→∃ v,(results fn tmps).run P w'=.ok v w'∧R (.returned v) w')→LeavesInM F n P fn tmps R (ks.map fun k=>{ target:=.collected k,args:=#[] }) .returning w
 | [],w,_,_,h=>h w (Fr.refl _ _)
 | k :: ks,w,hn,hk,h=>by
  refine ⟨by simp,.inl ⟨k,_,rfl,run_takeDeferred (hk k (by simp)),leaves_marks ks _ (List.nodup_cons.1 hn).2 (fun j hj=>(World.putObj_heap_other (fun e=>?_)).trans (hk j (by simp [hj]))) (fun w' hw'=>h w' ?_)⟩⟩
  ·subst e
   exact (List.nodup_cons.1 hn).1 hj
  ·exact (Fr.putO w _ (by simp)).trans (hw'.mono fun j _ hj=>by simp [hj])
theorem all_prefix (v:Ev){i:Nat}:∀ {j:Nat},i≤j→v.all i <+: v.all j
 | 0,h=>by
  have:i=0:=by omega
  subst this
  exact List.prefix_refl _
 | j+1,h=>by
  by_cases e:i=j+1
  ·subst e
   exact List.prefix_refl _
  ·exact (all_prefix v (by omega:i≤j)).trans ⟨_,rfl⟩
theorem routesF_none {v:Ev}{i:Nat}{q:List (Option RtM)}(hi:i<v.k)(hq:q <+: v.walk i (2*v.n+1) ⟨[],[],[],[]⟩ (v.S i).ln.toNat (v.S i).br (farI (v.P (v.S i).ln.toNat).ln (v.S i).sp (v.S i).br))(hx:20000<(v.all i ++ q).length∨300<(routesOf (v.all i ++ q)).length):routesF v=[]:=by
 have h1:v.all i ++ q <+: v.all v.k:=by
  refine List.IsPrefix.trans ?_ (all_prefix v (show i+1≤v.k by omega))
  obtain ⟨z,hz⟩:=hq
  exact ⟨z,by rw [List.append_assoc,hz];rfl⟩
 have h2:=h1.length_le
 have h3:(routesOf (v.all i ++ q)).length≤(routesOf (v.all v.k)).length:=(h1.filterMap id).length_le
 unfold routesF
 rw [if_neg]
 rintro ⟨e1,e2⟩
 rcases hx with hx | hx <;> omega
theorem RS.start {v:Ev}{n0 bt:Nat}{wB:World}{i:Nat}{ds:List Deferred}{W Wl:World}{D:Nat→Prop}{out:Value}{lp:Loop}(h:RS v n0 bt wB i ds W D out)(hb:Below W.heap.size W Wl)(hs:Wl.heap.size=W.heap.size+5)(h1:Box Wl W.heap.size 3 #[.int .i64 (i:Int)])(h2:Wl.heap[W.heap.size+1+1+1]?=some (.deferred (some [])))(h3:Wl.heap[W.heap.size+1+1+1+1]?=some (.loop lp)):
 JR n0 bt (n0+1) (n0+1+1) n0 W.heap.size (W.heap.size+1+1+1+1) (W.heap.size+1+1+1) (i:Int) lp (v.all i) Wl (fun k=>D k∨k=W.heap.size∨k=W.heap.size+1+1+1+1∨k=W.heap.size+1+1+1):=by
 have z:=(h.lt _ h.own.1)
 refine ⟨⟨out,h.o.mono hb lr,?_⟩,h.c.mono hb lr,h.t.mono hb lr,h1,h3,h2,h.m,h.k,⟨.inl h.own.2.1,.inl h.own.2.2,.inl h.own.1,.inr (.inl rfl),.inr (.inr (.inl rfl)),.inr (.inr (.inr rfl))⟩,fun k hk=>?_⟩
 ·refine (h.od.keep (fun k hk=>hb.block k (h.lt k hk.1).2)).mono fun k hk=>?_
  have:=(h.lt k hk.1).2
  exact ⟨.inl hk.1,hk.2.2.1,hk.2.2.2,hk.2.1,by omega,by omega,by omega⟩
 ·rcases hk with hk | hk | hk | hk
  ·have:=h.lt k hk
   omega
  ·omega
  ·omega
  ·omega
theorem RS.next {v:Ev}{n0 bt:Nat}{wB:World}{i:Nat}{ds:List Deferred}{W Wl W':World}{D D':Nat→Prop}{out:Value}{lp:Loop}(h:RS v n0 bt wB i ds W D out)(hb:Below W.heap.size W Wl)(hs:Wl.heap.size=W.heap.size+5)
 (hd:∀ k,D' k→(D k∨k=W.heap.size∨k=W.heap.size+1+1+1+1∨k=W.heap.size+1+1+1)∨Wl.heap.size≤k) (hf:Fr (fun k=>D k∨k=W.heap.size∨k=W.heap.size+1+1+1+1∨k=W.heap.size+1+1+1) Wl W')
 (hj:JR n0 bt (n0+1) (n0+1+1) n0 W.heap.size (W.heap.size+1+1+1+1) (W.heap.size+1+1+1) (i:Int) lp (v.all (i+1)) W' D') (o:Obj):
 ∃ out',RS v n0 bt wB (i+1) ({ target:=.collected (W.heap.size+1+1+1),args:=#[] } :: ds) (W'.putObj (W.heap.size+1+1+1+1) o) (fun k=>D' k∧k≠W.heap.size∧k≠W.heap.size+1+1+1+1∧k≠W.heap.size+1+1+1) out':=by
 obtain ⟨out',b1,b2⟩:=hj.o
 have z:=h.c.lt
 have z0:=(h.lt _ h.own.1).1
 have po:∀ k,k≠W.heap.size+1+1+1+1→(W'.putObj (W.heap.size+1+1+1+1) o).heap[k]?=W'.heap[k]?:=fun k hk=>World.putObj_heap_other hk
 refine ⟨out',⟨?_,b1.keep (po _ (by omega)),?_,hj.t.keep (po _ (by omega)),hj.c.keep (po _ (by omega)),hj.m,hj.k,fun k hk=>⟨(hj.lt k hk.1).1,by rw [World.putObj_size];exact (hj.lt k hk.1).2⟩,⟨⟨hj.own.2.2.1,by omega,by omega,by omega⟩,⟨hj.own.1,by omega,by omega,by omega⟩,⟨hj.own.2.1,by omega,by omega,by omega⟩⟩,?_⟩⟩
 ·have f1:Below n0 wB W':=(h.bel.trans (hb.mono (by omega))).trans (hf.below (by omega) (fun k hk e=>by rcases e with e | e | e | e;exact absurd (h.lt k e).1 (by omega);omega;omega;omega))
  exact f1.trans ((Fr.putO (X:=fun k=>k=W.heap.size+1+1+1+1) W' o rfl).below (by have:=(hj.lt _ hj.own.1);omega) (fun k hk e=>by omega))
 ·refine (b2.keep (fun k hk=>po k hk.2.2.2.2.2.1)).mono fun k hk=>⟨⟨hk.1,hk.2.2.2.2.1,hk.2.2.2.2.2.1,hk.2.2.2.2.2.2⟩,hk.2.2.2.1,hk.2.1,hk.2.2.1⟩
 ·obtain ⟨ks,rfl,k2,k3⟩:=h.mks.ks
  have hlt:∀ k,k ∈ ks→k<W.heap.size:=fun k hk=>(Array.getElem?_eq_some_iff.1 (k3 k hk).1).1
  refine ⟨(W.heap.size+1+1+1) :: ks,rfl,List.nodup_cons.2 ⟨fun e=>by have:=hlt _ e;omega,k2⟩,fun k hk=>?_⟩
  rcases List.mem_cons.1 hk with rfl | hk
  ·exact ⟨(po _ (by omega)).trans hj.d,by omega,fun e=>e.2.2.2 rfl⟩
  ·have q:=hlt k hk
   have nd0:¬(D k∨k=W.heap.size∨k=W.heap.size+1+1+1+1∨k=W.heap.size+1+1+1):=fun e=>by
    rcases e with e | e | e | e
    ·exact (k3 k hk).2.2 e
    ·omega
    ·omega
    ·omega
   refine ⟨(po k (by omega)).trans ((hf.block k (by omega) nd0).trans ((hb.block k q).trans (k3 k hk).1)),(k3 k hk).2.1,fun e=>?_⟩
   rcases hd k e.1 with x | x
   ·exact nd0 x
   ·omega
theorem RS.stop {v:Ev}{n0 bt:Nat}{wB:World}{i:Nat}{ds:List Deferred}{W Wl W':World}{D D':Nat→Prop}{out:Value}{lp:Loop}{pre:List (Option RtM)}(h:RS v n0 bt wB i ds W D out)(hb:Below W.heap.size W Wl)(hs:Wl.heap.size=W.heap.size+5)
 (hf:Fr (fun k=>D k∨k=W.heap.size∨k=W.heap.size+1+1+1+1∨k=W.heap.size+1+1+1) Wl W') (hj:JX n0 (W.heap.size+1+1+1+1) (W.heap.size+1+1+1) lp pre W' D') (o:Obj):
 Below n0 wB (W'.putObj (W.heap.size+1+1+1+1) o)∧∃ ks:List Nat,({ target:=.collected (W.heap.size+1+1+1),args:=#[] } :: ds:List Deferred)=ks.map (fun k=>{ target:=.collected k,args:=#[] })∧ks.Nodup∧∀ k,k ∈ ks→(W'.putObj (W.heap.size+1+1+1+1) o).heap[k]?=some (.deferred (some []))∧n0≤k:=by
 have z:=h.c.lt
 have z0:=(h.lt _ h.own.1).1
 have po:∀ k,k≠W.heap.size+1+1+1+1→(W'.putObj (W.heap.size+1+1+1+1) o).heap[k]?=W'.heap[k]?:=fun k hk=>World.putObj_heap_other hk
 refine ⟨?_,?_⟩
 ·have f1:Below n0 wB W':=(h.bel.trans (hb.mono (by omega))).trans (hf.below (by omega) (fun k hk e=>by rcases e with e | e | e | e;exact absurd (h.lt k e).1 (by omega);omega;omega;omega))
  exact f1.trans ((Fr.putO (X:=fun k=>k=W.heap.size+1+1+1+1) W' o rfl).below (by have:=hf.size;omega) (fun k hk e=>by omega))
 ·obtain ⟨ks,rfl,k2,k3⟩:=h.mks.ks
  have hlt:∀ k,k ∈ ks→k<W.heap.size:=fun k hk=>(Array.getElem?_eq_some_iff.1 (k3 k hk).1).1
  refine ⟨(W.heap.size+1+1+1) :: ks,rfl,List.nodup_cons.2 ⟨fun e=>by have:=hlt _ e;omega,k2⟩,fun k hk=>?_⟩
  rcases List.mem_cons.1 hk with rfl | hk
  ·exact ⟨(po _ (by omega)).trans hj.d,by omega⟩
  ·have q:=hlt k hk
   have nd0:¬(D k∨k=W.heap.size∨k=W.heap.size+1+1+1+1∨k=W.heap.size+1+1+1):=fun e=>by
    rcases e with e | e | e | e
    ·exact (k3 k hk).2.2 e
    ·omega
    ·omega
    ·omega
   exact ⟨(po k (by omega)).trans ((hf.block k (by omega) nd0).trans ((hb.block k q).trans (k3 k hk).1)),(k3 k hk).2.1⟩
end Go.Proofs.YtkhaehpobpkkiaaGreat
