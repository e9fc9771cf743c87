import Derived.TacticsInMore
import Derived.OwnWalkIn
import Derived.RangeFuncBound
import Derived.Test.YtkhaehpobpkkiaaGreatI28
import Derived.Test.YtkhaehpobpkkiaaGreatLa
import Derived.Test.YtkhaehpobpkkiaaGreatMl
namespace Go.Proofs.YtkhaehpobpkkiaaGreat
open Go.RowKit
attribute [local go_sem] Oper.semAt_some
set_option maxRecDepth 100000 in
set_option maxHeartbeats 8000000 in
theorem routes9_bad (pa:Option Addr)(n pc:Nat)(P:Nat→Pc)(ja:Option Addr)(m jc:Nat)(J:Nat→Jt)(sa:Option Addr)(k sc:Nat)(S:Nat→Pc)(ov:Int)(w:World)(hn:n≤1048576)(hm:m≤1048576)(hpc:n≤pc)(hpm:pc≤maxLen)(hjc:m≤jc)(hjm:jc≤maxLen)
 (hP:PsAt 0 w pa n P) (hJ:JsAt 0 w ja m J) (hps:∀ i,i<n→(P i).nm.size≤maxLen) (hjs:∀ i,i<m→(J i).ne≤1048576∧(J i).nm.size≤maxLen)
 (hk:k≤1048576) (hsc:k≤sc) (hsm:sc≤maxLen) (hS:PsAt 0 w sa k S) (hss:∀ i,i<k→(S i).nm.size≤maxLen) (hbad:¬(sigF n P m J k S).1=0∨¬(0≤ov∧ov≤100000)):
 Calls Tryz.prog 9 #[.agg #[.slice pa n pc,.slice ja m jc],.slice sa k sc,.int .i64 ov] w fun r w'=>r=.returned (.slice none 0 0)∧Below w.heap.size w w':=by
 have HCS:Hid (∀ W,Below w.heap.size w W→Calls Tryz.prog 27 #[.agg #[.slice pa n pc,.slice ja m jc],.slice sa k sc] W fun r w'=>r=.returned (.agg #[.int .i64 (sigF n P m J k S).1,.int .i64 (sigF n P m J k S).2])∧Below W.heap.size W w'):=fun W hW=>
  impl14 pa n pc P ja m jc J sa k sc S W hn hm hpc hpm hjc hjm (hP.mono lr hW lr) (hJ.mono lr hW lr) hps hjs hk hsc hsm (hS.mono lr hW lr) hss
 have hbad2:¬(sigF n P m J k S).1=0∨((sigF n P m J k S).1=0∧inB ov 0 100000=false):=by
  by_cases h:(sigF n P m J k S).1=0
  ·refine .inr ⟨h,?_⟩
   rcases hbad with x | x
   ·exact absurd h x
   ·have:¬inB ov 0 100000=true:=fun e=>x (by simpa [inB] using e)
    simpa using this
  ·exact .inl h
 clear hbad hP hJ hS hps hjs hss hpc hpm hjc hjm hsc hsm
 generalize (sigF n P m J k S).1=c1 at HCS hbad2
 generalize (sigF n P m J k S).2=c2 at HCS
 refine callsIn_wide.1 (callsIn_of_wp_marks (F:=Fence.wide) (n:=3) Tryz.func9 rfl trivial ((wpIn_wide (n:=3)).2 ?_))
 simp only [Tryz.ntmps9,List.size_toArray,List.length_cons,List.length_nil,Nat.reduceAdd,Nat.reduceSub,Array.replicate_succ,Array.replicate_zero,List.push_toArray,List.append_toArray,List.nil_append,List.cons_append]
 go_wp2_with fail
 have HB0:Hid (Below w.heap.size w (((w.alloc (.cells #[.slice pa n pc,.slice ja m jc] 34)).alloc (.cells #[.int .i64 ov] 3)).alloc (.cells #[.slice none 0 0] 29))∧Box (((w.alloc (.cells #[.slice pa n pc,.slice ja m jc] 34)).alloc (.cells #[.int .i64 ov] 3)).alloc (.cells #[.slice none 0 0] 29)) w.heap.size 34 #[.slice pa n pc,.slice ja m jc]∧Box (((w.alloc (.cells #[.slice pa n pc,.slice ja m jc] 34)).alloc (.cells #[.int .i64 ov] 3)).alloc (.cells #[.slice none 0 0] 29)) (w.heap.size+1) 3 #[.int .i64 ov]∧Box (((w.alloc (.cells #[.slice pa n pc,.slice ja m jc] 34)).alloc (.cells #[.int .i64 ov] 3)).alloc (.cells #[.slice none 0 0] 29)) (w.heap.size+1+1) 29 #[.slice none 0 0]):=⟨(bel2 w _ _).al _,((Box.new w 34 _).alloc _).alloc _,Box.alloc (by have:=Box.new (w.alloc (.cells #[.slice pa n pc,.slice ja m jc] 34)) 3 #[.int .i64 ov];rwa [World.size_alloc] at this) _,by have:=Box.new ((w.alloc (.cells #[.slice pa n pc,.slice ja m jc] 34)).alloc (.cells #[.int .i64 ov] 3)) 29 #[.slice none 0 0];rwa [World.size_alloc,World.size_alloc] at this⟩
 generalize (((w.alloc (.cells #[.slice pa n pc,.slice ja m jc] 34)).alloc (.cells #[.int .i64 ov] 3)).alloc (.cells #[.slice none 0 0] 29))=w0 at HB0 ⊢
 refine (HCS.out _ HB0.out.1).mono ?_
 rintro e w1 ⟨rfl,hb1⟩
 clear HCS
 have HB1:Hid (Below w.heap.size w w1∧Box w1 (w.heap.size+1+1) 29 #[.slice none 0 0]):=⟨HB0.out.1.trans (hb1.mono HB0.out.1.size),HB0.out.2.2.2.mono hb1 lr⟩
 have x2:w1.cell? ⟨w.heap.size+1,0,none⟩=some (.int .i64 ov):=(HB0.out.2.2.1.mono hb1 lr).cell 0
 have x3:w1.cell? ⟨w.heap.size+1+1,0,none⟩=some (.slice none 0 0):=HB1.out.2.cell 0
 have g3:=HB1.out.2.free 0
 clear hb1 HB0
 have hfin:∀ (tm:Array Value),tm.getD 6 undef=.pointer (some ⟨w.heap.size+1+1,0,none⟩)→LeavesInM Fence.wide 3 Tryz.prog Tryz.f9 tm (fun r w'=>r=.returned (.slice none 0 0)∧Below w.heap.size w w') [] .returning (w1.setCell ⟨w.heap.size+1+1,0,none⟩ (.slice none 0 0)):=fun tm h6=>
  ⟨_,res9 h6 ((HB1.out.2.set 0 (.slice none 0 0)).cell 0),rfl,HB1.out.1.setCell (p:=⟨w.heap.size+1+1,0,none⟩) (show w.heap.size≤w.heap.size+1+1 by omega) _⟩
 have HFIN:Hid _:=hfin
 clear hfin
 rcases hbad2 with h1 | ⟨h1,h2⟩
 ·go_wp2_with (go_at_call 28;refine (within43 ov 0 100000 _).mono ?_;rintro e w1 ⟨rfl,rfl⟩)
  all_goals exact HFIN.out _ rfl
 ·by_cases h3:c2=0
  ·go_wp2_with (go_at_call 28;refine (within43 ov 0 100000 _).mono ?_;rintro e w1 ⟨rfl,rfl⟩;rw [h2])
   all_goals exact HFIN.out _ rfl
  ·go_wp2_with (go_at_call 28;refine (within43 ov 0 100000 _).mono ?_;rintro e w1 ⟨rfl,rfl⟩;rw [h2])
   all_goals exact HFIN.out _ rfl
theorem sigF_zero {n:Nat}{P:Nat→Pc}{m:Nat}{J:Nat→Jt}{k:Nat}{S:Nat→Pc}(h:(sigF n P m J k S).1=0):sigF n P m J k S=(0,0):=by
 by_cases h1:(netF n P m J).1=0
 ·by_cases h2:60<k
  ·simp [sigF,h1,h2] at h
  ·rw [sigF,if_pos h1,if_neg h2] at h ⊢
   cases h3:firstB (fun i=>sgBad n P (S i)) k with
   | some i=>simp [sig3,h3] at h
   | none=>
    cases h4:firstB (fun i=>clashB S (S i) i) k with
    | some i=>simp [sig3,h3,sig4,h4] at h
    | none=>simp [sig3,h3,sig4,h4]
 ·simp [sigF,h1] at h
def toRt (r:RtM):Rt:=⟨r.fr,r.to,r.t.st.length,fnL r.t.st,r.t.li.length,fnL r.t.li,r.t.cr.length,fnL r.t.cr,r.t.pa.length,fnL r.t.pa,r.ov.length,fnL r.ov,r.fl.length,fnL r.fl⟩
def rtOf (rs:List RtM)(i:Nat):Rt:=match rs[i]? with
 | some r=>toRt r
 | none=>toRt ⟨0,0,⟨[],[],[],[]⟩,[],[]⟩
theorem flat8_at:∀ {rows:List (List Value)} (_:∀ r,r ∈ rows→r.length=8) {i j:Nat} {row:List Value} (_:rows[i]?=some row) (_:j<8),rows.flatten[i*8+j]?=row[j]?
 | [],_,i,j,row,hi,_=>by simp at hi
 | r :: rows,h,0,j,row,hi,hj=>by
  simp at hi
  subst hi
  have:=h r (by simp)
  rw [List.flatten_cons,List.getElem?_append_left (by omega),Nat.zero_mul,Nat.zero_add]
 | r :: rows,h,i+1,j,row,hi,hj=>by
  have h8:=h r (by simp)
  have hi':rows[i]?=some row:=by simpa using hi
  rw [List.flatten_cons,List.getElem?_append_right (by omega),show (i+1)*8+j-r.length=i*8+j by omega]
  exact flat8_at (fun q hq=>h q (by simp [hq])) hi' hj
theorem OutAt.rs {B:Nat}{w:World}{v:Value}{rs:List RtM}(h:OutAt B w v rs):∃ a cap,v=.slice a rs.length cap∧RsAt B w a rs.length (rtOf rs):=by
 obtain ⟨rows,hl,⟨_,⟨rfl,h2⟩ | ⟨g,cap,cur,rfl,h2,h3,h4,h5,h6,h7⟩⟩,hr⟩:=h
 ·exact ⟨none,0,by rw [h2],fun h0=>by omega⟩
 ·refine ⟨_,cap,rfl,fun _=>⟨g,0,rfl,h2,(Array.getElem?_eq_some_iff.1 h3).1,fun i hi=>?_⟩⟩
  have hw:∀ r,r ∈ rows→r.length=8:=fun r hm=>by
   obtain ⟨j,hj,rfl⟩:=List.mem_iff_getElem.1 hm
   obtain ⟨row,sv,lv,xv,qv,ov,fv,k1,k2⟩:=hr j (rs[j]'(by omega)) (List.getElem?_eq_getElem (by omega))
   rw [List.getElem?_eq_getElem hj] at k1
   simp only [Option.some.injEq] at k1
   rw [k1,k2.row]
   rfl
  obtain ⟨row,sv,lv,xv,qv,ov,fv,k1,k2⟩:=hr i (rs[i]'hi) (List.getElem?_eq_getElem hi)
  have er:rtOf rs i=toRt (rs[i]'hi):=by simp only [rtOf,List.getElem?_eq_getElem hi]
  have hb:Box w g 64 cur:=h3
  have cc:∀ j u,j<8→row[j]?=some u→w.cell? ⟨g,0+i*8+j,none⟩=some u:=fun j u hj hu=>by
   rw [Nat.zero_add]
   refine (hb.cell _).trans ?_
   have e1:=flat8_at hw k1 hj
   rw [hu,← h7,List.getElem?_take_of_lt (by omega)] at e1
   simpa using e1
  rw [er]
  obtain ⟨sa,sc,rfl,n1⟩:=k2.s.ls.val
  obtain ⟨la,lc,rfl,n2⟩:=k2.l.ls.val
  obtain ⟨xa,xc,rfl,n3⟩:=k2.x.ls.val
  obtain ⟨qa,qc,rfl,n4⟩:=k2.q.ls.val
  obtain ⟨oa,oc,rfl,n5⟩:=k2.o.ls.val
  obtain ⟨fa,fc,rfl,n6⟩:=k2.f.ls.val
  refine ⟨sa,sc,la,lc,xa,xc,qa,qc,oa,oc,fa,fc,cc 0 _ (by omega) (by rw [k2.row];rfl),cc 1 _ (by omega) (by rw [k2.row];rfl),cc 2 _ (by omega) (by rw [k2.row];rfl),cc 3 _ (by omega) (by rw [k2.row];rfl),cc 4 _ (by omega) (by rw [k2.row];rfl),cc 5 _ (by omega) (by rw [k2.row];rfl),cc 6 _ (by omega) (by rw [k2.row];rfl),cc 7 _ (by omega) (by rw [k2.row];rfl),⟨n1,n2,n3,n4,n5,n6⟩⟩
theorem OutP.small {B:Nat}{w:World}{v:Value}{rs:List RtM}(h:OutP B w v rs):∀ i,i<rs.length→(rtOf rs i).small:=fun i hi=>by
 obtain ⟨_,_,_,_,_,hb⟩:=h
 have er:rtOf rs i=toRt (rs[i]'hi):=by simp only [rtOf,List.getElem?_eq_getElem hi]
 obtain ⟨a,b,c,d,e,f⟩:=hb (rs[i]'hi) (List.getElem_mem hi)
 rw [er]
 refine ⟨?_,?_,?_,?_,?_,?_⟩ <;> simp only [toRt] <;> omega
def kN (r:Rt):Nat:=2+r.ns*2+r.nl*2+r.nx*1+r.np*3+r.no*3+r.nf*4
def kAt (R:Nat→Rt):Nat→Nat
 | 0=>1
 | i+1=>kAt R i+kN (R i)
def mkOf (r:Rt)(k:Nat):Rt:=⟨(k:Int),(k:Int)+1,
 r.ns,fun a b=>((k+2+a*2+b:Nat):Int),
 r.nl,fun a b=>((k+2+r.ns*2+a*2+b:Nat):Int),
 r.nx,fun a b=>((k+2+r.ns*2+r.nl*2+a*1+b:Nat):Int),
 r.np,fun a b=>((k+2+r.ns*2+r.nl*2+r.nx*1+a*3+b:Nat):Int),
 r.no,fun a b=>((k+2+r.ns*2+r.nl*2+r.nx*1+r.np*3+a*3+b:Nat):Int),
 r.nf,fun a b=>((k+2+r.ns*2+r.nl*2+r.nx*1+r.np*3+r.no*3+a*4+b:Nat):Int)⟩
def mkRt (R:Nat→Rt)(i:Nat):Rt:=mkOf (R i) (kAt R i)
theorem kAt_le {R:Nat→Rt}{n:Nat}(hs:∀ i,i<n→(R i).small):∀ {q:Nat},q≤n→kAt R q≤1+q*15728642
 | 0,_=>by simp [kAt]
 | q+1,h=>by
  have h1:=kAt_le hs (show q≤n by omega)
  obtain ⟨a,b,c,d,e,f⟩:=hs q (by omega)
  simp only [kAt,kN]
  omega
theorem NsAt.ex {c C:Nat}{w:World}{a:Option Addr}{n:Nat}{F:Nat→Nat→Int}(h:NsAt c C w a n F):∃ b off,(0<n→a=some ⟨b,off,none⟩)∧∀ i,i<n→∀ j,j<c→w.cell? ⟨b,off+i*c+j,none⟩=some (.int .i64 (F i j)):=by
 by_cases h0:0<n
 ·obtain ⟨b,off,h1,_,_,h2⟩:=h h0
  exact ⟨b,off,fun _=>h1,h2⟩
 ·exact ⟨0,0,fun h1=>absurd h1 h0,fun i hi=>by omega⟩
set_option maxRecDepth 100000 in
set_option maxHeartbeats 8000000 in
theorem heldRouteS16 (a:Option Addr)(n cap:Nat)(R:Nat→Rt)(w:World)(hn:n≤1048576)(hs:∀ i,i<n→(R i).small)(h:RsAt 0 w a n (mkRt R)):
 Calls Tryz.prog 16 #[.slice a n cap,.int .i64 1] w fun e w'=>e=.returned (.int .i64 (kAt R n:Int))∧w'=w:=by
 have HS:Hid (∀ i,i<n→(R i).small):=hs
 have HR:Hid (RsAt 0 w a n (mkRt R)):=h
 have HK:Hid (∀ q,q≤n→kAt R q≤1+q*15728642):=fun q hq=>kAt_le hs hq
 clear hs h
 go_enter Tryz.func16,Tryz.ntmps16
 go_wp2_with fail
 go_loop [1,5] (fun m i=>∃ q kk:Nat,q≤n∧i=.int .i64 q∧m=.int .i64 (kk:Int)∧Hid (kk=kAt R q)) (fun _ i=>n-(intOf i).toNat)
 case atStart=>exact ⟨0,1,Nat.zero_le _,rfl,rfl,rfl⟩
 case round=>
  obtain ⟨q,kk,hq,rfl,rfl,HKQ⟩:=hrel
  by_cases hlt:q<n
  ·obtain ⟨b,off,rfl,_,hb,hc⟩:=HR.out (by omega)
   obtain ⟨sa,sc,la,lc,xa,xc,qa,qc,oa,oc,fa,fc,c0,c1,c2,c3,c4,c5,c6,c7,g⟩:=hc q hlt
   obtain ⟨t1,t2,t3,t4,t5,t6⟩:=HS.out q hlt
   have hlt':(q:Int)<(n:Int):=by omega
   have hk0:(0:Int)≤(q:Int):=by omega
   have hkb:kk≤1+q*15728642:=by rw [HKQ.out];exact HK.out q hq
   have e0:mkRt R q=mkOf (R q) kk:=by rw [mkRt,HKQ.out]
   rw [e0] at c0 c1 c2 c3 c4 c5 c6 c7 g
   simp only [mkOf] at c0 c1 c2 c3 c4 c5 c6 c7
   have HN:Hid (kk+kN (R q)=kAt R (q+1)):=by rw [HKQ.out];rfl
   have G:Hid (RtIn 0 w (mkOf (R q) kk) sa la xa qa oa fa):=g
   clear hc g e0 HKQ
   go_wp2_with fail
   obtain ⟨k0,hk0'⟩:∃ k0:Nat,Hid (k0=kk+2):=⟨_,rfl⟩
   have hkz:(kk:Int)+1+1=(k0:Int):=by have:=hk0'.out;omega
   have hkl:k0≤3+q*15728642:=by have:=hk0'.out;omega
   rw [hkz]
   clear hkz
   obtain ⟨b0,o0,u0,v0⟩:=G.out.s.ex
   refine (heldStepS57 sa (R q).ns sc k0 b0 o0 _ t1 (by omega) u0 (fun i hi j hj=>(v0 i hi j hj).trans (by simp only [mkOf];rw [hk0'.out]))).mono ?_
   rintro e w1 ⟨he,rfl⟩
   obtain ⟨k1,hk1'⟩:∃ k1:Nat,Hid (k1=kk+2+(R q).ns*2):=⟨_,rfl⟩
   have he0:k0+(R q).ns*2=k1:=by have:=hk0'.out;have:=hk1'.out;omega
   rw [he0] at he
   have hkl0:k1≤3+q*15728642+2*1048576:=by have:=hk1'.out;omega
   subst he
   clear he0 u0 v0
   have hneg0:¬(k1:Int)<0:=by omega
   go_wp2_with fail
   obtain ⟨b1,o1,u1,v1⟩:=G.out.l.ex
   refine (heldLieS58 la (R q).nl lc k1 b1 o1 _ t2 (by omega) u1 (fun i hi j hj=>(v1 i hi j hj).trans (by simp only [mkOf];rw [hk1'.out]))).mono ?_
   rintro e w2 ⟨he,rfl⟩
   obtain ⟨k2,hk2'⟩:∃ k2:Nat,Hid (k2=kk+2+(R q).ns*2+(R q).nl*2):=⟨_,rfl⟩
   have he1:k1+(R q).nl*2=k2:=by have:=hk1'.out;have:=hk2'.out;omega
   rw [he1] at he
   have hkl1:k2≤3+q*15728642+4*1048576:=by have:=hk2'.out;omega
   subst he
   clear he1 u1 v1
   have hneg1:¬(k2:Int)<0:=by omega
   go_wp2_with fail
   obtain ⟨b2,o2,u2,v2⟩:=G.out.x.ex
   refine (heldIntS59 xa (R q).nx xc k2 b2 o2 _ t3 (by omega) u2 (fun i hi j hj=>(v2 i hi j hj).trans (by simp only [mkOf];rw [hk2'.out]))).mono ?_
   rintro e w3 ⟨he,rfl⟩
   obtain ⟨k3,hk3'⟩:∃ k3:Nat,Hid (k3=kk+2+(R q).ns*2+(R q).nl*2+(R q).nx*1):=⟨_,rfl⟩
   have he2:k2+(R q).nx*1=k3:=by have:=hk2'.out;have:=hk3'.out;omega
   rw [he2] at he
   have hkl2:k3≤3+q*15728642+5*1048576:=by have:=hk3'.out;omega
   subst he
   clear he2 u2 v2
   have hneg2:¬(k3:Int)<0:=by omega
   go_wp2_with fail
   obtain ⟨b3,o3,u3,v3⟩:=G.out.q.ex
   refine (heldPartS60 qa (R q).np qc k3 b3 o3 _ t4 (by omega) u3 (fun i hi j hj=>(v3 i hi j hj).trans (by simp only [mkOf];rw [hk3'.out]))).mono ?_
   rintro e w4 ⟨he,rfl⟩
   obtain ⟨k4,hk4'⟩:∃ k4:Nat,Hid (k4=kk+2+(R q).ns*2+(R q).nl*2+(R q).nx*1+(R q).np*3):=⟨_,rfl⟩
   have he3:k3+(R q).np*3=k4:=by have:=hk3'.out;have:=hk4'.out;omega
   rw [he3] at he
   have hkl3:k4≤3+q*15728642+8*1048576:=by have:=hk4'.out;omega
   subst he
   clear he3 u3 v3
   have hneg3:¬(k4:Int)<0:=by omega
   go_wp2_with fail
   obtain ⟨b4,o4,u4,v4⟩:=G.out.o.ex
   refine (heldPartS60 oa (R q).no oc k4 b4 o4 _ t5 (by omega) u4 (fun i hi j hj=>(v4 i hi j hj).trans (by simp only [mkOf];rw [hk4'.out]))).mono ?_
   rintro e w5 ⟨he,rfl⟩
   obtain ⟨k5,hk5'⟩:∃ k5:Nat,Hid (k5=kk+2+(R q).ns*2+(R q).nl*2+(R q).nx*1+(R q).np*3+(R q).no*3):=⟨_,rfl⟩
   have he4:k4+(R q).no*3=k5:=by have:=hk4'.out;have:=hk5'.out;omega
   rw [he4] at he
   have hkl4:k5≤3+q*15728642+11*1048576:=by have:=hk5'.out;omega
   subst he
   clear he4 u4 v4
   have hneg4:¬(k5:Int)<0:=by omega
   go_wp2_with fail
   obtain ⟨b5,o5,u5,v5⟩:=G.out.f.ex
   refine (heldFlankS61 fa (R q).nf fc k5 b5 o5 _ t6 (by omega) u5 (fun i hi j hj=>(v5 i hi j hj).trans (by simp only [mkOf];rw [hk5'.out]))).mono ?_
   rintro e w6 ⟨he,rfl⟩
   obtain ⟨k6,hk6'⟩:∃ k6:Nat,Hid (k6=kk+2+(R q).ns*2+(R q).nl*2+(R q).nx*1+(R q).np*3+(R q).no*3+(R q).nf*4):=⟨_,rfl⟩
   have he5:k5+(R q).nf*4=k6:=by have:=hk5'.out;have:=hk6'.out;omega
   rw [he5] at he
   have hkl5:k6≤3+q*15728642+15*1048576:=by have:=hk6'.out;omega
   subst he
   clear he5 u5 v5
   have hneg5:¬(k6:Int)<0:=by omega
   go_wp2_with fail
   go_round
   case rel=>exact ⟨q+1,k6,by omega,by go_num,rfl,by show k6=kAt R (q+1);have h1:=HN.out;have h2:=hk6'.out;unfold kN at h1;omega⟩
   case measure=>simp [intOf];omega
  ·obtain rfl:q=n:=by omega
   go_wp2_with fail
   go_ret
   exact ⟨congrArg (fun z:Nat=>Ending.returned (Value.int .i64 (z:Int))) HKQ.out,rfl⟩
def ob (a:Option Addr):Option Nat:=a.map (·.block)
theorem ob_slice (a:Option Addr)(n cap:Nat):(Value.slice a n cap).ownBlock=ob a:=by cases a <;> rfl
theorem Own.oblt {B:Nat}{e:TypeId}{c:Nat}{w:World}{a:Option Addr}{n cap:Nat}{l:List Rw}(h:Own B e c w (.slice a n cap) l){k:Nat}(hk:ob a=some k):B≤k∧k<w.heap.size:=h.lt (by rw [ob_slice];exact hk)
theorem Own.obne {B B':Nat}{e e':TypeId}{c c':Nat}{w:World}{a a':Option Addr}{n n' cap cap':Nat}{l l':List Rw}(h:Own B e c w (.slice a n cap) l)(h':Own B' e' c' w (.slice a' n' cap') l')(hne:e≠e')(k:Nat)(hk:Go.Proofs.YtkhaehpobpkkiaaGreat.ob a=some k):Go.Proofs.YtkhaehpobpkkiaaGreat.ob a'≠some k:=by
 have:=h.ne h' hne (g:=k) (by rw [ob_slice];exact hk)
 rwa [ob_slice] at this
theorem Own.oboff {B:Nat}{e:TypeId}{c:Nat}{w:World}{a:Option Addr}{n cap:Nat}{l:List Rw}(h:Own B e c w (.slice a n cap) l){g:Nat}{T:TypeId}{vs:Array Value}(hb:Box w g T vs)(hT:T≠e):Go.Proofs.YtkhaehpobpkkiaaGreat.ob a≠some g:=fun hk=>h.off hb hT (g:=g) (by rw [ob_slice];exact hk) rfl
theorem Own.markable {B:Nat}{e:TypeId}{c:Nat}{w:World}{a:Option Addr}{n cap:Nat}{l:List Rw}(h:Own B e c w (.slice a n cap) l):
 ∃ g,(0<n→a=some ⟨g,0,none⟩)∧(∀ o,0≤o→o<0+n*c→(∃ v,w.cell? ⟨g,o,none⟩=some v)∧w.frozen? ⟨g,o,none⟩=false)∧(a=some ⟨g,0,none⟩∧g<w.heap.size∨n=0∧a=none∧g=w.heap.size):=by
 rcases h.shape with ⟨h1,_⟩ | ⟨g,cp,cur,h1,h2,h3,h4,h5,h6,h7⟩
 ·simp only [Value.slice.injEq] at h1
  obtain ⟨rfl,rfl,rfl⟩:=h1
  exact ⟨w.heap.size,fun h=>absurd h (Nat.lt_irrefl _),fun o _ ho=>absurd ho (by omega),.inr ⟨rfl,rfl,rfl⟩⟩
 ·have hl:g<w.heap.size:=(Array.getElem?_eq_some_iff.1 h3).1
  have hb:Box w g e cur:=h3
  simp only [Value.slice.injEq] at h1
  obtain ⟨rfl,rfl,rfl⟩:=h1
  refine ⟨g,fun _=>rfl,fun o _ ho=>?_,.inl ⟨rfl,hl⟩⟩
  have hlt:o<cur.size:=by
   have:=Nat.mul_le_mul_right c h4
   omega
  exact ⟨⟨cur[o],by rw [hb.cell];exact Array.getElem?_eq_getElem hlt⟩,hb.free o⟩
structure Mk1 (c k:Nat)(a:Option Addr)(n:Nat)(w w':World):Prop where
 os:w'.os=w.os
 tape:w'.tape=w.tape
 output:w'.output=w.output
 size:w'.heap.size=w.heap.size
 other:∀ g,ob a≠some g→w'.heap[g]?=w.heap[g]?
 ns:NsAt c 0 w' a n (fun i j=>((k+i*c+j:Nat):Int))
theorem Mk1.of {c k n g:Nat}{a:Option Addr}{w w':World}(h:Within g 0 (0+n*c) w w')(hm:∀ i,i<n→∀ j,j<c→w'.cell? ⟨g,0+i*c+j,none⟩=some (.int .i64 ((k+i*c+j:Nat):Int)))
 (hg:a=some ⟨g,0,none⟩∧g<w.heap.size∨n=0∧a=none∧g=w.heap.size):Mk1 c k a n w w':=by
 refine ⟨h.os,h.tape,h.output,h.size,fun i hi=>?_,fun h0=>?_⟩
 ·rcases hg with ⟨rfl,_⟩ | ⟨_,_,rfl⟩
  ·exact h.other i fun e=>hi (by rw [e];rfl)
  ·by_cases e:i=w.heap.size
   ·have e1:w'.heap[i]?=none:=Array.getElem?_eq_none (by rw [h.size];omega)
    have e2:w.heap[i]?=none:=Array.getElem?_eq_none (by omega)
    rw [e1,e2]
   ·exact h.other i e
 ·rcases hg with ⟨rfl,hl⟩ | ⟨rfl,_⟩
  ·exact ⟨g,0,rfl,Nat.zero_le _,by rw [h.size];exact hl,hm⟩
  ·omega
theorem NsAt.keepA {c C:Nat}{w w':World}{a:Option Addr}{n:Nat}{F:Nat→Nat→Int}(h:NsAt c C w a n F)(hs:w.heap.size≤w'.heap.size)(hk:∀ g,ob a=some g→w'.heap[g]?=w.heap[g]?):NsAt c C w' a n F:=by
 intro h0
 obtain ⟨b,off,rfl,hge,hlt,hc⟩:=h h0
 exact ⟨b,off,rfl,hge,by omega,fun i hi j hj=>(World.cell?_of_block (w:=w) (hk b rfl)).trans (hc i hi j hj)⟩
theorem RtIn.keepA {C:Nat}{w w':World}{r:Rt}{sa la xa qa oa fa:Option Addr}(h:RtIn C w r sa la xa qa oa fa)(hs:w.heap.size≤w'.heap.size)(hk:∀ g,(ob sa=some g∨ob la=some g∨ob xa=some g∨ob qa=some g∨ob oa=some g∨ob fa=some g)→w'.heap[g]?=w.heap[g]?):RtIn C w' r sa la xa qa oa fa:=
 ⟨h.s.keepA hs fun g e=>hk g (.inl e),h.l.keepA hs fun g e=>hk g (.inr (.inl e)),h.x.keepA hs fun g e=>hk g (.inr (.inr (.inl e))),h.q.keepA hs fun g e=>hk g (.inr (.inr (.inr (.inl e)))),h.o.keepA hs fun g e=>hk g (.inr (.inr (.inr (.inr (.inl e))))),h.f.keepA hs fun g e=>hk g (.inr (.inr (.inr (.inr (.inr e)))))⟩
def Lies (rows:List (List Value))(R:Nat→Rt)(q:Nat)(cur:Array Value):Prop:=
 ∀ (i:Nat) (row:List Value),rows[i]?=some row→(∀ j,2≤j→j<8→cur[i*8+j]?=row[j]?)∧(∃ u,cur[i*8]?=some u)∧(∃ u,cur[i*8+1]?=some u)∧(i<q→cur[i*8]?=some (.int .i64 (kAt R i:Int))∧cur[i*8+1]?=some (.int .i64 ((kAt R i:Int)+1)))
theorem Lies.next {rows:List (List Value)}{R:Nat→Rt}{q:Nat}{cur:Array Value}(h:Lies rows R q cur):Lies rows R (q+1) ((cur.setIfInBounds (q*8) (.int .i64 (kAt R q:Int))).setIfInBounds (q*8+1) (.int .i64 ((kAt R q:Int)+1))):=by
 intro i row hr
 obtain ⟨h1,⟨u,h2⟩,⟨v,h3⟩,h4⟩:=h i row hr
 have l2:=(Array.getElem?_eq_some_iff.1 h2).1
 have l3:=(Array.getElem?_eq_some_iff.1 h3).1
 by_cases e:i=q
 ·subst e
  refine ⟨fun j z1 z2=>?_,⟨.int .i64 (kAt R i:Int),?_⟩,⟨.int .i64 ((kAt R i:Int)+1),?_⟩,fun _=>⟨?_,?_⟩⟩
  ·simp only [Array.getElem?_setIfInBounds,show ¬i*8=i*8+j by omega,show ¬i*8+1=i*8+j by omega,if_false]
   exact h1 j z1 z2
  ·simp [l2]
  ·simp [l3]
  ·simp [l2]
  ·simp [l3]
 ·have ev:∀ p,(p<q*8∨q*8+1<p)→((cur.setIfInBounds (q*8) (.int .i64 (kAt R q:Int))).setIfInBounds (q*8+1) (.int .i64 ((kAt R q:Int)+1)))[p]?=cur[p]?:=fun p hp=>by
   simp only [Array.getElem?_setIfInBounds,show ¬q*8=p by omega,show ¬q*8+1=p by omega,if_false]
  exact ⟨fun j z1 z2=>(ev _ (by omega)).trans (h1 j z1 z2),⟨u,(ev _ (by omega)).trans h2⟩,⟨v,(ev _ (by omega)).trans h3⟩,fun hq=>⟨(ev _ (by omega)).trans (h4 (by omega)).1,(ev _ (by omega)).trans (h4 (by omega)).2⟩⟩
def RowMk (w:World)(row:List Value)(r:Rt):Prop:=
 ∃ sa sc la lc xa xc qa qc oa oc fa fc,row[2]?=some (.slice sa r.ns sc)∧row[3]?=some (.slice la r.nl lc)∧row[4]?=some (.slice xa r.nx xc)∧row[5]?=some (.slice qa r.np qc)∧row[6]?=some (.slice oa r.no oc)∧row[7]?=some (.slice fa r.nf fc)∧RtIn 0 w r sa la xa qa oa fa
theorem rowBlk_at {row:List Value}{j:Nat}{a:Option Addr}{n cap k:Nat}(h:row[j]?=some (.slice a n cap))(hk:ob a=some k):rowBlk row k:=⟨_,List.mem_of_getElem? h,by rw [ob_slice];exact hk⟩
theorem RowMk.keep {w w':World}{row:List Value}{r:Rt}(h:RowMk w row r)(hs:w.heap.size≤w'.heap.size)(hk:∀ g,rowBlk row g→w'.heap[g]?=w.heap[g]?):RowMk w' row r:=by
 obtain ⟨sa,sc,la,lc,xa,xc,qa,qc,oa,oc,fa,fc,h1,h2,h3,h4,h5,h6,h7⟩:=h
 refine ⟨sa,sc,la,lc,xa,xc,qa,qc,oa,oc,fa,fc,h1,h2,h3,h4,h5,h6,h7.keepA hs fun g e=>hk g ?_⟩
 rcases e with e | e | e | e | e | e
 ·exact rowBlk_at h1 e
 ·exact rowBlk_at h2 e
 ·exact rowBlk_at h3 e
 ·exact rowBlk_at h4 e
 ·exact rowBlk_at h5 e
 ·exact rowBlk_at h6 e
structure MI (B g:Nat)(rows:List (List Value))(rs:List RtM)(q:Nat)(w:World):Prop where
 box:∃ cur,Box w g 64 cur∧Lies rows (rtOf rs) q cur
 ge:B≤g
 off:∀ (i:Nat) (row:List Value),rows[i]?=some row→∀ k,rowBlk row k→k≠g
 todo:∀ (i:Nat) (r:RtM),q≤i→rs[i]?=some r→∃ row sv lv xv qv ov fv,rows[i]?=some row∧RtIs B w row r sv lv xv qv ov fv
 done:∀ (i:Nat) (row:List Value),i<q→rows[i]?=some row→RowMk w row (mkRt (rtOf rs) i)
theorem RtIs.blk6 {B:Nat}{w:World}{row:List Value}{r:RtM}{sv lv xv qv ov fv:Value}(h:RtIs B w row r sv lv xv qv ov fv){k:Nat}(hk:Tr6 sv lv xv qv ov fv k):rowBlk row k:=by
 rcases hk with e | e | e | e | e | e
 ·exact ⟨sv,by rw [h.row];simp,e⟩
 ·exact ⟨lv,by rw [h.row];simp,e⟩
 ·exact ⟨xv,by rw [h.row];simp,e⟩
 ·exact ⟨qv,by rw [h.row];simp,e⟩
 ·exact ⟨ov,by rw [h.row];simp,e⟩
 ·exact ⟨fv,by rw [h.row];simp,e⟩
set_option maxHeartbeats 4000000 in
theorem MI.next {B g:Nat}{rows:List (List Value)}{rs:List RtM}{q:Nat}{wr w0 w1 w2 w3 w4 w5 w6:World}(h:MI B g rows rs q wr)(ap:Apart rows){r:RtM}{row:List Value}(hr:rs[q]?=some r)(hrow:rows[q]?=some row){kk:Nat}(hkk:kk=kAt (rtOf rs) q)
 {sa la xa qa oa fa:Option Addr} {sc lc xc qc oc fc:Nat} (is:RtIs B wr row r (.slice sa r.t.st.length sc) (.slice la r.t.li.length lc) (.slice xa r.t.cr.length xc) (.slice qa r.t.pa.length qc) (.slice oa r.ov.length oc) (.slice fa r.fl.length fc))
 (hw0:w0=(wr.setCell ⟨g,q*8,none⟩ (.int .i64 (kk:Int))).setCell ⟨g,q*8+1,none⟩ (.int .i64 ((kk:Int)+1)))
 (M1:Mk1 2 (kk+2) sa r.t.st.length w0 w1)
 (M2:Mk1 2 (kk+2+r.t.st.length*2) la r.t.li.length w1 w2)
 (M3:Mk1 1 (kk+2+r.t.st.length*2+r.t.li.length*2) xa r.t.cr.length w2 w3)
 (M4:Mk1 3 (kk+2+r.t.st.length*2+r.t.li.length*2+r.t.cr.length*1) qa r.t.pa.length w3 w4)
 (M5:Mk1 3 (kk+2+r.t.st.length*2+r.t.li.length*2+r.t.cr.length*1+r.t.pa.length*3) oa r.ov.length w4 w5)
 (M6:Mk1 4 (kk+2+r.t.st.length*2+r.t.li.length*2+r.t.cr.length*1+r.t.pa.length*3+r.ov.length*3) fa r.fl.length w5 w6):
 MI B g rows rs (q+1) w6∧w6.heap.size=wr.heap.size∧Below B wr w6:=by
 obtain ⟨cur,hb,hl⟩:=h.box
 have er:rtOf rs q=toRt r:=by simp only [rtOf,hr]
 have hg0:∀ k,k≠g→w0.heap[k]?=wr.heap[k]?:=fun k hk=>by rw [hw0,Below.heap_setCell _ _ _ _ hk,Below.heap_setCell _ _ _ _ hk]
 have hs0:w0.heap.size=wr.heap.size:=by rw [hw0];simp [World.setCell]
 have hb0:Box w0 g 64 ((cur.setIfInBounds (q*8) (.int .i64 (kk:Int))).setIfInBounds (q*8+1) (.int .i64 ((kk:Int)+1))):=by rw [hw0];exact (hb.set _ _).set _ _
 have n0:ob sa≠some g:=is.s.oboff hb (by decide)
 have n1:ob la≠some g:=is.l.oboff hb (by decide)
 have n2:ob xa≠some g:=is.x.oboff hb (by decide)
 have n3:ob qa≠some g:=is.q.oboff hb (by decide)
 have n4:ob oa≠some g:=is.o.oboff hb (by decide)
 have n5:ob fa≠some g:=is.f.oboff hb (by decide)
 have all6:∀ k,ob sa≠some k→ob la≠some k→ob xa≠some k→ob qa≠some k→ob oa≠some k→ob fa≠some k→w6.heap[k]?=w0.heap[k]?:=fun k e0 e1 e2 e3 e4 e5=>(M6.other k e5).trans ((M5.other k e4).trans ((M4.other k e3).trans ((M3.other k e2).trans ((M2.other k e1).trans (M1.other k e0)))))
 have hsz:w6.heap.size=wr.heap.size:=by rw [M6.size,M5.size,M4.size,M3.size,M2.size,M1.size,hs0]
 have hb6:Box w6 g 64 _:=hb0.keep (all6 g n0 n1 n2 n3 n4 n5)
 have rq:∀ k,¬rowBlk row k→k≠g→w6.heap[k]?=wr.heap[k]?:=fun k hk hg=>by
  have c:∀ (a:Option Addr) (m cp:Nat),Value.slice a m cp ∈ row→ob a≠some k:=fun a m cp hm e=>hk ⟨_,hm,by rw [ob_slice];exact e⟩
  refine (all6 k ?_ ?_ ?_ ?_ ?_ ?_).trans (hg0 k hg)
  ·exact c _ r.t.st.length sc (by rw [is.row];simp)
  ·exact c _ r.t.li.length lc (by rw [is.row];simp)
  ·exact c _ r.t.cr.length xc (by rw [is.row];simp)
  ·exact c _ r.t.pa.length qc (by rw [is.row];simp)
  ·exact c _ r.ov.length oc (by rw [is.row];simp)
  ·exact c _ r.fl.length fc (by rw [is.row];simp)
 have q56:∀ k,ob qa=some k→ob oa≠some k:=fun k e=>by
  have:=ap.2 q row hrow k (by rw [is.row];simpa [ob_slice] using e)
  rw [is.row] at this
  simpa [ob_slice] using this
 refine ⟨⟨⟨_,hb6,by rw [hkk];exact hl.next⟩,h.ge,h.off,fun i r' hi hr'=>?_,fun i row' hi hr'=>?_⟩,hsz,⟨?_,?_,?_,by rw [hsz];exact Nat.le_refl _,fun k hk=>?_⟩⟩
 ·obtain ⟨row',sv,lv,xv,qv,ov,fv,e1,e2⟩:=h.todo i r' (by omega) hr'
  refine ⟨row',sv,lv,xv,qv,ov,fv,e1,e2.keepD fun k hk=>?_⟩
  have hk':=e2.blk6 hk
  exact rq k (fun hx=>ap.1 q i row row' (by omega) hrow e1 k hx hk') (h.off i row' e1 k hk')
 ·by_cases e:i=q
  ·subst e
   obtain rfl:row=row':=by rw [hrow] at hr';simpa using hr'
   refine ⟨sa,sc,la,lc,xa,xc,qa,qc,oa,oc,fa,fc,?_,?_,?_,?_,?_,?_,⟨?_,?_,?_,?_,?_,?_⟩⟩
   ·rw [is.row,mkRt,er];rfl
   ·rw [is.row,mkRt,er];rfl
   ·rw [is.row,mkRt,er];rfl
   ·rw [is.row,mkRt,er];rfl
   ·rw [is.row,mkRt,er];rfl
   ·rw [is.row,mkRt,er];rfl
   ·have:=M1.ns.keepA (w':=w6) (by rw [M6.size,M5.size,M4.size,M3.size,M2.size];exact Nat.le_refl _) fun g e=>(M6.other g (is.s.obne is.f (by decide) g e)).trans ((M5.other g (is.s.obne is.o (by decide) g e)).trans ((M4.other g (is.s.obne is.q (by decide) g e)).trans ((M3.other g (is.s.obne is.x (by decide) g e)).trans (M2.other g (is.s.obne is.l (by decide) g e)))))
    rw [mkRt,er,← hkk]
    exact this
   ·have:=M2.ns.keepA (w':=w6) (by rw [M6.size,M5.size,M4.size,M3.size];exact Nat.le_refl _) fun g e=>(M6.other g (is.l.obne is.f (by decide) g e)).trans ((M5.other g (is.l.obne is.o (by decide) g e)).trans ((M4.other g (is.l.obne is.q (by decide) g e)).trans (M3.other g (is.l.obne is.x (by decide) g e))))
    rw [mkRt,er,← hkk]
    exact this
   ·have:=M3.ns.keepA (w':=w6) (by rw [M6.size,M5.size,M4.size];exact Nat.le_refl _) fun g e=>(M6.other g (is.x.obne is.f (by decide) g e)).trans ((M5.other g (is.x.obne is.o (by decide) g e)).trans (M4.other g (is.x.obne is.q (by decide) g e)))
    rw [mkRt,er,← hkk]
    exact this
   ·have:=M4.ns.keepA (w':=w6) (by rw [M6.size,M5.size];exact Nat.le_refl _) fun g e=>(M6.other g (is.q.obne is.f (by decide) g e)).trans (M5.other g (q56 g e))
    rw [mkRt,er,← hkk]
    exact this
   ·have:=M5.ns.keepA (w':=w6) (by rw [M6.size];exact Nat.le_refl _) fun g e=>M6.other g (is.o.obne is.f (by decide) g e)
    rw [mkRt,er,← hkk]
    exact this
   ·have:=M6.ns.keepA (w':=w6) lr fun g e=>rfl
    rw [mkRt,er,← hkk]
    exact this
  ·exact (h.done i row' (by omega) hr').keep (by rw [hsz];exact Nat.le_refl _) fun k hk=>rq k (fun hx=>ap.1 i q row' row (by omega) hr' hrow k hk hx) (h.off i row' hr' k hk)
 ·rw [M6.os,M5.os,M4.os,M3.os,M2.os,M1.os,hw0];rfl
 ·rw [M6.tape,M5.tape,M4.tape,M3.tape,M2.tape,M1.tape,hw0];rfl
 ·rw [M6.output,M5.output,M4.output,M3.output,M2.output,M1.output,hw0];rfl
 ·have hg:=h.ge
  have c:∀ (a:Option Addr),(∀ k,ob a=some k→B≤k)→ob a≠some k:=fun a ha e=>by have:=ha k e;omega
  exact (all6 k (c _ fun k e=>(is.s.oblt e).1) (c _ fun k e=>(is.l.oblt e).1) (c _ fun k e=>(is.x.oblt e).1) (c _ fun k e=>(is.q.oblt e).1) (c _ fun k e=>(is.o.oblt e).1) (c _ fun k e=>(is.f.oblt e).1)).trans (hg0 k (by omega))
theorem MI.rs {B g:Nat}{rows:List (List Value)}{rs:List RtM}{w:World}(hl:rows.length=rs.length)(h:MI B g rows rs rs.length w):RsAt 0 w (some ⟨g,0,none⟩) rs.length (mkRt (rtOf rs)):=by
 intro _
 obtain ⟨cur,hb,hc⟩:=h.box
 refine ⟨g,0,rfl,Nat.zero_le _,hb.lt,fun i hi=>?_⟩
 have hr:rows[i]?=some (rows[i]'(by omega)):=List.getElem?_eq_getElem (by omega)
 obtain ⟨c1,_,_,c2⟩:=hc i _ hr
 obtain ⟨d1,d2⟩:=c2 hi
 obtain ⟨sa,sc,la,lc,xa,xc,qa,qc,oa,oc,fa,fc,h1,h2,h3,h4,h5,h6,h7⟩:=h.done i _ hi hr
 have cc:∀ j u,cur[i*8+j]?=some u→w.cell? ⟨g,0+i*8+j,none⟩=some u:=fun j u hu=>by
  rw [Nat.zero_add]
  exact (hb.cell _).trans hu
 exact ⟨sa,sc,la,lc,xa,xc,qa,qc,oa,oc,fa,fc,cc 0 _ d1,cc 1 _ d2,cc 2 _ ((c1 2 (by omega) (by omega)).trans h1),cc 3 _ ((c1 3 (by omega) (by omega)).trans h2),cc 4 _ ((c1 4 (by omega) (by omega)).trans h3),cc 5 _ ((c1 5 (by omega) (by omega)).trans h4),cc 6 _ ((c1 6 (by omega) (by omega)).trans h5),cc 7 _ ((c1 7 (by omega) (by omega)).trans h6),h7⟩
theorem Own.mk1 {B:Nat}{e:TypeId}{c:Nat}{w w':World}{a a':Option Addr}{n cap n' c' k:Nat}{l:List Rw}(h:Own B e c w (.slice a n cap) l)(M:Mk1 c' k a' n' w w')(hd:∀ g,ob a=some g→ob a'≠some g):Own B e c w' (.slice a n cap) l:=
 h.keep lr fun g hg=>M.other g (hd g (by rwa [ob_slice] at hg))
theorem MI.start {B:Nat}{w:World}{a:Option Addr}{cap:Nat}{rs:List RtM}{rows:List (List Value)}(hl:rows.length=rs.length)(ho:w.ownsRow B 64 8 (.slice a rs.length cap) rs.length rows.flatten)(hr:∀ (i:Nat) (r:RtM),rs[i]?=some r→∃ row sv lv xv qv ov fv,rows[i]?=some row∧RtIs B w row r sv lv xv qv ov fv)(h0:0<rs.length):
 ∃ g,a=some ⟨g,0,none⟩∧MI B g rows rs 0 w:=by
 obtain ⟨_,⟨e,h2⟩ | ⟨g,cap',cur,e,h2,h3,h4,h5,h6,h7⟩⟩:=ho
 ·omega
 simp only [Value.slice.injEq] at e
 obtain ⟨rfl,_,rfl⟩:=e
 have hb:Box w g 64 cur:=h3
 have hw:∀ r,r ∈ rows→r.length=8:=fun r hm=>by
  obtain ⟨j,hj,rfl⟩:=List.mem_iff_getElem.1 hm
  obtain ⟨row,sv,lv,xv,qv,ov,fv,k1,k2⟩:=hr j (rs[j]'(by omega)) (List.getElem?_eq_getElem (by omega))
  rw [List.getElem?_eq_getElem hj] at k1
  simp only [Option.some.injEq] at k1
  rw [k1,k2.row]
  rfl
 have at':∀ (i:Nat) (row:List Value),rows[i]?=some row→∃ r sv lv xv qv ov fv,i<rs.length∧RtIs B w row r sv lv xv qv ov fv:=fun i row hrow=>by
  have hi:=(List.getElem?_eq_some_iff.1 hrow).1
  obtain ⟨row',sv,lv,xv,qv,ov,fv,k1,k2⟩:=hr i (rs[i]'(by omega)) (List.getElem?_eq_getElem (by omega))
  rw [hrow] at k1
  simp only [Option.some.injEq] at k1
  subst k1
  exact ⟨_,sv,lv,xv,qv,ov,fv,by omega,k2⟩
 have cc:∀ (i:Nat) (row:List Value),rows[i]?=some row→∀ j,j<8→cur[i*8+j]?=row[j]?:=fun i row hrow j hj=>by
  obtain ⟨r,sv,lv,xv,qv,ov,fv,hi,_⟩:=at' i row hrow
  have e1:=flat8_at hw hrow hj
  rw [← h7,List.getElem?_take_of_lt (by omega)] at e1
  simpa using e1
 refine ⟨g,rfl,⟨cur,hb,fun i row hrow=>?_⟩,h2,fun i row hrow k hk=>?_,fun i r _ hi=>hr i r hi,fun i row hi=>by omega⟩
 ·obtain ⟨r,sv,lv,xv,qv,ov,fv,hi,is⟩:=at' i row hrow
  exact ⟨fun j _ hj=>cc i row hrow j hj,⟨.int .i64 r.fr,(cc i row hrow 0 (by omega)).trans (by rw [is.row];rfl)⟩,⟨.int .i64 r.to,(cc i row hrow 1 (by omega)).trans (by rw [is.row];rfl)⟩,fun h=>by omega⟩
 ·obtain ⟨r,sv,lv,xv,qv,ov,fv,hi,is⟩:=at' i row hrow
  rcases is.blk hk with e | e | e | e | e | e
  ·exact is.s.off hb (by decide) e
  ·exact is.l.off hb (by decide) e
  ·exact is.x.off hb (by decide) e
  ·exact is.q.off hb (by decide) e
  ·exact is.o.off hb (by decide) e
  ·exact is.f.off hb (by decide) e
structure MO (B:Nat)(a:Option Addr)(rows:List (List Value))(rs:List RtM)(w:World)(q:Nat)(wr:World):Prop where
 size:wr.heap.size=w.heap.size
 bel:Below B w wr
 mi:0<rs.length→∃ g,a=some ⟨g,0,none⟩∧MI B g rows rs q wr
set_option maxRecDepth 100000 in
set_option maxHeartbeats 8000000 in
theorem markRouteS15 (a:Option Addr)(n cap B:Nat)(rs:List RtM)(w:World)(hn:n≤300)(hnn:n=rs.length)(h:OutP B w (.slice a n cap) rs):
 Calls Tryz.prog 15 #[.slice a n cap,.int .i64 1] w fun e w'=>e=.returned (.int .i64 (kAt (rtOf rs) n:Int))∧RsAt 0 w' a n (mkRt (rtOf rs))∧Below B w w'∧w'.heap.size=w.heap.size:=by
 have HK:Hid (∀ q,q≤n→kAt (rtOf rs) q≤1+q*15728642):=fun q hq=>kAt_le (n:=n) (fun i hi=>h.small i (by omega)) hq
 obtain ⟨rows,hl,ho,hr,ap,hB⟩:=h
 have HM0:Hid (MO B a rows rs w 0 w):=⟨rfl,Below.refl _ _,fun h0=>MI.start hl (hnn ▸ ho) hr h0⟩
 have HAP:Hid (Apart rows):=ap
 have HB:Hid (∀ r,r ∈ rs→RtB r):=hB
 have HN:Hid (n=rs.length):=hnn
 have HL:Hid (rows.length=rs.length):=hl
 clear ap hB hr ho hnn hl
 go_enter Tryz.func15,Tryz.ntmps15
 go_wp2_with fail
 go_loopw [1,5] (fun m i wr=>∃ q kk:Nat,q≤n∧i=.int .i64 q∧m=.int .i64 (kk:Int)∧Hid (kk=kAt (rtOf rs) q)∧Hid (MO B a rows rs w q wr)) (fun _ i _=>n-(intOf i).toNat)
 case atStart=>exact ⟨0,1,Nat.zero_le _,rfl,rfl,rfl,HM0⟩
 case round=>
  obtain ⟨q,kk,hq,rfl,rfl,HKQ,HM⟩:=hrel
  by_cases hlt:q<n
  ·obtain ⟨g,rfl,hmi⟩:=HM.out.mi (by have:=HN.out;omega)
   obtain ⟨r,hrr⟩:∃ r,rs[q]?=some r:=⟨_,List.getElem?_eq_getElem (by have:=HN.out;omega)⟩
   obtain ⟨row,sv,lv,xv,qv,ov,fv,hrow,is⟩:=hmi.todo q r lr hrr
   obtain ⟨sa,sc,rfl⟩:=is.s.val
   obtain ⟨la,lc,rfl⟩:=is.l.val
   obtain ⟨xa,xc,rfl⟩:=is.x.val
   obtain ⟨qa,qc,rfl⟩:=is.q.val
   obtain ⟨oa,oc,rfl⟩:=is.o.val
   obtain ⟨fa,fc,rfl⟩:=is.f.val
   obtain ⟨cur,hb,hlies⟩:=hmi.box
   obtain ⟨c1,⟨u0,c2⟩,⟨u1,c3⟩,_⟩:=hlies q row hrow
   have x0:=(hb.cell (q*8)).trans c2
   have x1:=(hb.cell (q*8+1)).trans c3
   have x2:wr.cell? ⟨g,q*8+2,none⟩=some (.slice sa r.t.st.length sc):=(hb.cell _).trans ((c1 2 (by omega) (by omega)).trans (by rw [is.row];rfl))
   have x3:wr.cell? ⟨g,q*8+3,none⟩=some (.slice la r.t.li.length lc):=(hb.cell _).trans ((c1 3 (by omega) (by omega)).trans (by rw [is.row];rfl))
   have x4:wr.cell? ⟨g,q*8+4,none⟩=some (.slice xa r.t.cr.length xc):=(hb.cell _).trans ((c1 4 (by omega) (by omega)).trans (by rw [is.row];rfl))
   have x5:wr.cell? ⟨g,q*8+5,none⟩=some (.slice qa r.t.pa.length qc):=(hb.cell _).trans ((c1 5 (by omega) (by omega)).trans (by rw [is.row];rfl))
   have x6:wr.cell? ⟨g,q*8+6,none⟩=some (.slice oa r.ov.length oc):=(hb.cell _).trans ((c1 6 (by omega) (by omega)).trans (by rw [is.row];rfl))
   have x7:wr.cell? ⟨g,q*8+7,none⟩=some (.slice fa r.fl.length fc):=(hb.cell _).trans ((c1 7 (by omega) (by omega)).trans (by rw [is.row];rfl))
   have f0:=hb.free (q*8)
   have f1:=hb.free (q*8+1)
   have hkb:kk≤1+q*15728642:=by rw [HKQ.out];exact HK.out q hq
   obtain ⟨t1,t4,t2,t3,t5,t6⟩:=HB.out r (List.mem_of_getElem? hrr)
   obtain ⟨cur',HB0,Y⟩:∃ cur',Hid (Box ((wr.setCell ⟨g,q*8,none⟩ (.int .i64 (kk:Int))).setCell ⟨g,q*8+1,none⟩ (.int .i64 ((kk:Int)+1))) g 64 cur')∧Hid (∀ j v,2≤j→j<8→row[j]?=some v→cur'[q*8+j]?=some v):=by
    refine ⟨_,(hb.set _ _).set _ _,fun j v z1 z2 z3=>?_⟩
    simp only [Array.getElem?_setIfInBounds,show ¬q*8=q*8+j by omega,show ¬q*8+1=q*8+j by omega,if_false]
    exact (c1 j z1 z2).trans z3
   have HG0:Hid (ob sa≠some g):=is.s.oboff hb (by decide)
   have HG1:Hid (ob la≠some g):=is.l.oboff hb (by decide)
   have HG2:Hid (ob xa≠some g):=is.x.oboff hb (by decide)
   have HG3:Hid (ob qa≠some g):=is.q.oboff hb (by decide)
   have HG4:Hid (ob oa≠some g):=is.o.oboff hb (by decide)
   have HG5:Hid (ob fa≠some g):=is.f.oboff hb (by decide)
   have D1_0:Hid (∀ k,ob la=some k→ob sa≠some k):=fun k e=>is.l.obne is.s (by decide) k e
   have D2_0:Hid (∀ k,ob xa=some k→ob sa≠some k):=fun k e=>is.x.obne is.s (by decide) k e
   have D2_1:Hid (∀ k,ob xa=some k→ob la≠some k):=fun k e=>is.x.obne is.l (by decide) k e
   have D3_0:Hid (∀ k,ob qa=some k→ob sa≠some k):=fun k e=>is.q.obne is.s (by decide) k e
   have D3_1:Hid (∀ k,ob qa=some k→ob la≠some k):=fun k e=>is.q.obne is.l (by decide) k e
   have D3_2:Hid (∀ k,ob qa=some k→ob xa≠some k):=fun k e=>is.q.obne is.x (by decide) k e
   have D4_0:Hid (∀ k,ob oa=some k→ob sa≠some k):=fun k e=>is.o.obne is.s (by decide) k e
   have D4_1:Hid (∀ k,ob oa=some k→ob la≠some k):=fun k e=>is.o.obne is.l (by decide) k e
   have D4_2:Hid (∀ k,ob oa=some k→ob xa≠some k):=fun k e=>is.o.obne is.x (by decide) k e
   have D4_3:Hid (∀ k,ob oa=some k→ob qa≠some k):=fun k e e2=>by
    have:=HAP.out.2 q row hrow k (by rw [is.row];simpa [ob_slice] using e2)
    rw [is.row] at this
    exact absurd e (by simpa [ob_slice] using this)
   have D5_0:Hid (∀ k,ob fa=some k→ob sa≠some k):=fun k e=>is.f.obne is.s (by decide) k e
   have D5_1:Hid (∀ k,ob fa=some k→ob la≠some k):=fun k e=>is.f.obne is.l (by decide) k e
   have D5_2:Hid (∀ k,ob fa=some k→ob xa≠some k):=fun k e=>is.f.obne is.x (by decide) k e
   have D5_3:Hid (∀ k,ob fa=some k→ob qa≠some k):=fun k e=>is.f.obne is.q (by decide) k e
   have D5_4:Hid (∀ k,ob fa=some k→ob oa≠some k):=fun k e=>is.f.obne is.o (by decide) k e
   have P0_0:Hid (Own B 100 2 ((wr.setCell ⟨g,q*8,none⟩ (.int .i64 (kk:Int))).setCell ⟨g,q*8+1,none⟩ (.int .i64 ((kk:Int)+1))) (.slice sa r.t.st.length sc) r.t.st):=(is.s.set hb (by decide) _ _).set (hb.set _ _) (by decide) _ _
   have P0_1:Hid (Own B 136 2 ((wr.setCell ⟨g,q*8,none⟩ (.int .i64 (kk:Int))).setCell ⟨g,q*8+1,none⟩ (.int .i64 ((kk:Int)+1))) (.slice la r.t.li.length lc) r.t.li):=(is.l.set hb (by decide) _ _).set (hb.set _ _) (by decide) _ _
   have P0_2:Hid (Own B 3 1 ((wr.setCell ⟨g,q*8,none⟩ (.int .i64 (kk:Int))).setCell ⟨g,q*8+1,none⟩ (.int .i64 ((kk:Int)+1))) (.slice xa r.t.cr.length xc) r.t.cr):=(is.x.set hb (by decide) _ _).set (hb.set _ _) (by decide) _ _
   have P0_3:Hid (Own B 104 3 ((wr.setCell ⟨g,q*8,none⟩ (.int .i64 (kk:Int))).setCell ⟨g,q*8+1,none⟩ (.int .i64 ((kk:Int)+1))) (.slice qa r.t.pa.length qc) r.t.pa):=(is.q.set hb (by decide) _ _).set (hb.set _ _) (by decide) _ _
   have P0_4:Hid (Own B 104 3 ((wr.setCell ⟨g,q*8,none⟩ (.int .i64 (kk:Int))).setCell ⟨g,q*8+1,none⟩ (.int .i64 ((kk:Int)+1))) (.slice oa r.ov.length oc) r.ov):=(is.o.set hb (by decide) _ _).set (hb.set _ _) (by decide) _ _
   have P0_5:Hid (Own B 155 4 ((wr.setCell ⟨g,q*8,none⟩ (.int .i64 (kk:Int))).setCell ⟨g,q*8+1,none⟩ (.int .i64 ((kk:Int)+1))) (.slice fa r.fl.length fc) r.fl):=(is.f.set hb (by decide) _ _).set (hb.set _ _) (by decide) _ _
   have HIS:Hid (RtIs B wr row r (.slice sa r.t.st.length sc) (.slice la r.t.li.length lc) (.slice xa r.t.cr.length xc) (.slice qa r.t.pa.length qc) (.slice oa r.ov.length oc) (.slice fa r.fl.length fc)):=is
   have HRR:Hid (rs[q]?=some r):=hrr
   have HRW:Hid (rows[q]?=some row):=hrow
   have HMI:Hid (MI B g rows rs q wr):=hmi
   clear is hmi hb hlies c1 c2 c3 hrr hrow
   obtain ⟨w0,hw0⟩:∃ w0,Hid (w0=((wr.setCell ⟨g,q*8,none⟩ (.int .i64 (kk:Int))).setCell ⟨g,q*8+1,none⟩ (.int .i64 ((kk:Int)+1)))):=⟨_,rfl⟩
   go_wp2_with fail
   clear x0 x1 x2 x3 x4 x5 x6 x7 f0 f1
   obtain ⟨k0,hk0'⟩:∃ k0:Nat,Hid (k0=kk+2):=⟨_,rfl⟩
   have hkz:(kk:Int)+1+1=(k0:Int):=by have:=hk0'.out;omega
   have hkl:k0≤3+q*15728642:=by have:=hk0'.out;omega
   rw [hkz]
   clear hkz
   rw [← hw0.out]
   rw [← hw0.out] at P0_0
   rw [← hw0.out] at P0_1
   rw [← hw0.out] at P0_2
   rw [← hw0.out] at P0_3
   rw [← hw0.out] at P0_4
   rw [← hw0.out] at P0_5
   rw [← hw0.out] at HB0
   obtain ⟨b0,u0,v0,z0⟩:=P0_0.out.markable
   refine (markStepS52 sa r.t.st.length sc k0 b0 0 _ (by omega) (by omega) u0 v0).mono ?_
   rintro e w1 ⟨he,hW,hm⟩
   have M1:Hid (Mk1 2 k0 sa r.t.st.length w0 w1):=Mk1.of hW hm z0
   clear hW hm u0 v0 z0
   obtain ⟨k1,hk1'⟩:∃ k1:Nat,Hid (k1=kk+2+r.t.st.length*2):=⟨_,rfl⟩
   have he0:k0+r.t.st.length*2=k1:=by have:=hk0'.out;have:=hk1'.out;omega
   rw [he0] at he
   have hkl0:k1≤3+q*15728642+2*1048576:=by have:=hk1'.out;omega
   subst he
   clear he0
   have HB1:Hid (Box w1 g 64 cur'):=HB0.out.keep (M1.out.other g HG0.out)
   have P1_1:Hid (Own B 136 2 w1 (.slice la r.t.li.length lc) r.t.li):=P0_1.out.mk1 M1.out D1_0.out
   have P1_2:Hid (Own B 3 1 w1 (.slice xa r.t.cr.length xc) r.t.cr):=P0_2.out.mk1 M1.out D2_0.out
   have P1_3:Hid (Own B 104 3 w1 (.slice qa r.t.pa.length qc) r.t.pa):=P0_3.out.mk1 M1.out D3_0.out
   have P1_4:Hid (Own B 104 3 w1 (.slice oa r.ov.length oc) r.ov):=P0_4.out.mk1 M1.out D4_0.out
   have P1_5:Hid (Own B 155 4 w1 (.slice fa r.fl.length fc) r.fl):=P0_5.out.mk1 M1.out D5_0.out
   have x0:w1.cell? ⟨g,q*8+3,none⟩=some (.slice la r.t.li.length lc):=(HB1.out.cell _).trans (Y.out 3 _ (by omega) (by omega) (by rw [HIS.out.row];rfl))
   clear HB0 P0_0 P0_1 P0_2 P0_3 P0_4 P0_5
   go_wp2_with fail
   clear x0
   obtain ⟨b1,u1,v1,z1⟩:=P1_1.out.markable
   refine (markLieS53 la r.t.li.length lc k1 b1 0 _ (by omega) (by omega) u1 v1).mono ?_
   rintro e w2 ⟨he,hW,hm⟩
   have M2:Hid (Mk1 2 k1 la r.t.li.length w1 w2):=Mk1.of hW hm z1
   clear hW hm u1 v1 z1
   obtain ⟨k2,hk2'⟩:∃ k2:Nat,Hid (k2=kk+2+r.t.st.length*2+r.t.li.length*2):=⟨_,rfl⟩
   have he1:k1+r.t.li.length*2=k2:=by have:=hk1'.out;have:=hk2'.out;omega
   rw [he1] at he
   have hkl1:k2≤3+q*15728642+4*1048576:=by have:=hk2'.out;omega
   subst he
   clear he1
   have HB2:Hid (Box w2 g 64 cur'):=HB1.out.keep (M2.out.other g HG1.out)
   have P2_2:Hid (Own B 3 1 w2 (.slice xa r.t.cr.length xc) r.t.cr):=P1_2.out.mk1 M2.out D2_1.out
   have P2_3:Hid (Own B 104 3 w2 (.slice qa r.t.pa.length qc) r.t.pa):=P1_3.out.mk1 M2.out D3_1.out
   have P2_4:Hid (Own B 104 3 w2 (.slice oa r.ov.length oc) r.ov):=P1_4.out.mk1 M2.out D4_1.out
   have P2_5:Hid (Own B 155 4 w2 (.slice fa r.fl.length fc) r.fl):=P1_5.out.mk1 M2.out D5_1.out
   have x1:w2.cell? ⟨g,q*8+4,none⟩=some (.slice xa r.t.cr.length xc):=(HB2.out.cell _).trans (Y.out 4 _ (by omega) (by omega) (by rw [HIS.out.row];rfl))
   clear HB1 P1_1 P1_2 P1_3 P1_4 P1_5
   go_wp2_with fail
   clear x1
   obtain ⟨b2,u2,v2,z2⟩:=P2_2.out.markable
   refine (markIntS54 xa r.t.cr.length xc k2 b2 0 _ (by omega) (by omega) u2 v2).mono ?_
   rintro e w3 ⟨he,hW,hm⟩
   have M3:Hid (Mk1 1 k2 xa r.t.cr.length w2 w3):=Mk1.of hW hm z2
   clear hW hm u2 v2 z2
   obtain ⟨k3,hk3'⟩:∃ k3:Nat,Hid (k3=kk+2+r.t.st.length*2+r.t.li.length*2+r.t.cr.length*1):=⟨_,rfl⟩
   have he2:k2+r.t.cr.length*1=k3:=by have:=hk2'.out;have:=hk3'.out;omega
   rw [he2] at he
   have hkl2:k3≤3+q*15728642+5*1048576:=by have:=hk3'.out;omega
   subst he
   clear he2
   have HB3:Hid (Box w3 g 64 cur'):=HB2.out.keep (M3.out.other g HG2.out)
   have P3_3:Hid (Own B 104 3 w3 (.slice qa r.t.pa.length qc) r.t.pa):=P2_3.out.mk1 M3.out D3_2.out
   have P3_4:Hid (Own B 104 3 w3 (.slice oa r.ov.length oc) r.ov):=P2_4.out.mk1 M3.out D4_2.out
   have P3_5:Hid (Own B 155 4 w3 (.slice fa r.fl.length fc) r.fl):=P2_5.out.mk1 M3.out D5_2.out
   have x2:w3.cell? ⟨g,q*8+5,none⟩=some (.slice qa r.t.pa.length qc):=(HB3.out.cell _).trans (Y.out 5 _ (by omega) (by omega) (by rw [HIS.out.row];rfl))
   clear HB2 P2_2 P2_3 P2_4 P2_5
   go_wp2_with fail
   clear x2
   obtain ⟨b3,u3,v3,z3⟩:=P3_3.out.markable
   refine (markPartS55 qa r.t.pa.length qc k3 b3 0 _ (by omega) (by omega) u3 v3).mono ?_
   rintro e w4 ⟨he,hW,hm⟩
   have M4:Hid (Mk1 3 k3 qa r.t.pa.length w3 w4):=Mk1.of hW hm z3
   clear hW hm u3 v3 z3
   obtain ⟨k4,hk4'⟩:∃ k4:Nat,Hid (k4=kk+2+r.t.st.length*2+r.t.li.length*2+r.t.cr.length*1+r.t.pa.length*3):=⟨_,rfl⟩
   have he3:k3+r.t.pa.length*3=k4:=by have:=hk3'.out;have:=hk4'.out;omega
   rw [he3] at he
   have hkl3:k4≤3+q*15728642+8*1048576:=by have:=hk4'.out;omega
   subst he
   clear he3
   have HB4:Hid (Box w4 g 64 cur'):=HB3.out.keep (M4.out.other g HG3.out)
   have P4_4:Hid (Own B 104 3 w4 (.slice oa r.ov.length oc) r.ov):=P3_4.out.mk1 M4.out D4_3.out
   have P4_5:Hid (Own B 155 4 w4 (.slice fa r.fl.length fc) r.fl):=P3_5.out.mk1 M4.out D5_3.out
   have x3:w4.cell? ⟨g,q*8+6,none⟩=some (.slice oa r.ov.length oc):=(HB4.out.cell _).trans (Y.out 6 _ (by omega) (by omega) (by rw [HIS.out.row];rfl))
   clear HB3 P3_3 P3_4 P3_5
   go_wp2_with fail
   clear x3
   obtain ⟨b4,u4,v4,z4⟩:=P4_4.out.markable
   refine (markPartS55 oa r.ov.length oc k4 b4 0 _ (by omega) (by omega) u4 v4).mono ?_
   rintro e w5 ⟨he,hW,hm⟩
   have M5:Hid (Mk1 3 k4 oa r.ov.length w4 w5):=Mk1.of hW hm z4
   clear hW hm u4 v4 z4
   obtain ⟨k5,hk5'⟩:∃ k5:Nat,Hid (k5=kk+2+r.t.st.length*2+r.t.li.length*2+r.t.cr.length*1+r.t.pa.length*3+r.ov.length*3):=⟨_,rfl⟩
   have he4:k4+r.ov.length*3=k5:=by have:=hk4'.out;have:=hk5'.out;omega
   rw [he4] at he
   have hkl4:k5≤3+q*15728642+11*1048576:=by have:=hk5'.out;omega
   subst he
   clear he4
   have HB5:Hid (Box w5 g 64 cur'):=HB4.out.keep (M5.out.other g HG4.out)
   have P5_5:Hid (Own B 155 4 w5 (.slice fa r.fl.length fc) r.fl):=P4_5.out.mk1 M5.out D5_4.out
   have x4:w5.cell? ⟨g,q*8+7,none⟩=some (.slice fa r.fl.length fc):=(HB5.out.cell _).trans (Y.out 7 _ (by omega) (by omega) (by rw [HIS.out.row];rfl))
   clear HB4 P4_4 P4_5
   go_wp2_with fail
   clear x4
   obtain ⟨b5,u5,v5,z5⟩:=P5_5.out.markable
   refine (markFlankS56 fa r.fl.length fc k5 b5 0 _ (by omega) (by omega) u5 v5).mono ?_
   rintro e w6 ⟨he,hW,hm⟩
   have M6:Hid (Mk1 4 k5 fa r.fl.length w5 w6):=Mk1.of hW hm z5
   clear hW hm u5 v5 z5
   obtain ⟨k6,hk6'⟩:∃ k6:Nat,Hid (k6=kk+2+r.t.st.length*2+r.t.li.length*2+r.t.cr.length*1+r.t.pa.length*3+r.ov.length*3+r.fl.length*4):=⟨_,rfl⟩
   have he5:k5+r.fl.length*4=k6:=by have:=hk5'.out;have:=hk6'.out;omega
   rw [he5] at he
   have hkl5:k6≤3+q*15728642+15*1048576:=by have:=hk6'.out;omega
   subst he
   clear he5
   have HB6:Hid (Box w6 g 64 cur'):=HB5.out.keep (M6.out.other g HG5.out)
   clear HB5 P5_5
   go_wp2_with fail
   go_roundw
   case rel=>
    have e6:=hk6'.out
    refine ⟨q+1,k6,by omega,by go_num,rfl,?_,?_⟩
    ·have er:rtOf rs q=toRt r:=by simp only [rtOf,HRR.out]
     show k6=kAt (rtOf rs) q+kN (rtOf rs q)
     rw [← HKQ.out,er,e6]
     simp only [kN,toRt]
     omega
    ·obtain rfl:=hk0'.out
     obtain rfl:=hk1'.out
     obtain rfl:=hk2'.out
     obtain rfl:=hk3'.out
     obtain rfl:=hk4'.out
     obtain rfl:=hk5'.out
     obtain ⟨m1,m2,m3⟩:=HMI.out.next HAP.out HRR.out HRW.out HKQ.out HIS.out hw0.out M1.out M2.out M3.out M4.out M5.out M6.out
     exact ⟨m2.trans HM.out.size,HM.out.bel.trans m3,fun _=>⟨g,rfl,m1⟩⟩
   case measure=>simp [intOf];omega
  ·obtain rfl:q=n:=by omega
   go_wp2_with fail
   go_ret
   refine ⟨congrArg (fun z:Nat=>Ending.returned (Value.int .i64 (z:Int))) HKQ.out,?_,HM.out.bel,HM.out.size⟩
   intro h0
   have hN:=HN.out
   obtain ⟨g,rfl,hmi⟩:=HM.out.mi (by omega)
   rw [hN] at hmi h0 ⊢
   exact hmi.rs HL.out h0
end Go.Proofs.YtkhaehpobpkkiaaGreat
