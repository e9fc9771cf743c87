import Derived.Deep.RegionWith
import Derived.Test.YtkhaehpobpkkiaaGreatIi
import Derived.Test.YtkhaehpobpkkiaaGreatMk
import Derived.Test.YtkhaehpobpkkiaaGreatQd
namespace Go.Proofs.YtkhaehpobpkkiaaGreat
open Go.RowKit
theorem OutP.keep {B:Nat}{w w':World}{u:Value}{rs:List RtM}(h:OutP B w u rs)(hk:∀ k,B≤k→k<w.heap.size→w'.heap[k]?=w.heap[k]?):OutP B w' u rs:=by
 obtain ⟨rows,h1,h2,h3,h4⟩:=h
 refine ⟨rows,h1,?_,fun i r hr=>?_,h4⟩
 ·obtain ⟨e,⟨rfl,e2⟩ | ⟨g,cap,cur,rfl,e2,e3,e4⟩⟩:=h2
  ·exact ⟨e,.inl ⟨rfl,e2⟩⟩
  ·exact ⟨e,.inr ⟨g,cap,cur,rfl,e2,(hk g e2 (Array.getElem?_eq_some_iff.1 e3).1).trans e3,e4⟩⟩
 ·obtain ⟨row,sv,lv,xv,qv,ov,fv,k1,k2⟩:=h3 i r hr
  refine ⟨row,sv,lv,xv,qv,ov,fv,k1,k2.row,?_,?_,?_,?_,?_,?_⟩
  ·exact k2.s.keep lr fun g hg=>hk g (k2.s.lt hg).1 (k2.s.lt hg).2
  ·exact k2.l.keep lr fun g hg=>hk g (k2.l.lt hg).1 (k2.l.lt hg).2
  ·exact k2.x.keep lr fun g hg=>hk g (k2.x.lt hg).1 (k2.x.lt hg).2
  ·exact k2.q.keep lr fun g hg=>hk g (k2.q.lt hg).1 (k2.q.lt hg).2
  ·exact k2.o.keep lr fun g hg=>hk g (k2.o.lt hg).1 (k2.o.lt hg).2
  ·exact k2.f.keep lr fun g hg=>hk g (k2.f.lt hg).1 (k2.f.lt hg).2
theorem routesF_le (v:Ev):(routesF v).length≤300:=by
 unfold routesF
 split
 ·next h=>exact h.2
 ·simp
theorem bothR (n:Nat)(P:Nat→Pc)(m:Nat)(J:Nat→Jt)(k:Nat)(S:Nat→Pc)(ov:Int)(hn:n≤1048576)(hm:m≤1048576)(hk:k≤1048576)
 (hps:∀ i,i<n→(P i).nm.size≤maxLen) (hjs:∀ i,i<m→(J i).ne≤1048576∧(J i).nm.size≤maxLen) (hss:∀ i,i<k→(S i).nm.size≤maxLen):
 ∃ (rs:List RtM) (nr:Nat),Hid (nr=rs.length)∧nr≤300∧
  Hid (∀ (W:World) (pa ja sa:Option Addr),PsAt 0 W pa n P→JsAt 0 W ja m J→PsAt 0 W sa k S→Calls Tryz.prog 6 #[.agg #[.slice pa n n,.slice ja m m],.slice sa k k,.int .i64 ov] W fun r w'=>∃ a cap,r=.returned (.slice a nr cap)∧RsAt 0 w' a nr (rtOf rs)∧Below W.heap.size W w')∧
  Hid (∀ (W:World) (pa ja sa:Option Addr),PsAt 0 W pa n P→JsAt 0 W ja m J→PsAt 0 W sa k S→Calls Tryz.prog 9 #[.agg #[.slice pa n n,.slice ja m m],.slice sa k k,.int .i64 ov] W fun r w'=>∃ a cap,r=.returned (.slice a nr cap)∧OutP W.heap.size w' (.slice a nr cap) rs∧Below W.heap.size W w'):=by
 have mx:(1048576:Nat)≤maxLen:=by simp [maxLen]
 by_cases hg:(sigF n P m J k S).1=0∧0≤ov∧ov≤100000
 ·obtain ⟨h1,h2,h3⟩:=hg
  have ok:=evOk (sigF_zero h1) h2 h3
  refine ⟨routesF ⟨n,P,m,J,k,S,ov⟩,_,rfl,routesF_le _,fun W pa ja sa hP hJ hS=>?_,fun W pa ja sa hP hJ hS=>?_⟩
  ·refine (routes6_ok pa n ja m sa k ⟨n,P,m,J,k,S,ov⟩ ok W h1 hP hJ hps hjs hS hss).mono ?_
   rintro r w' ⟨out,rfl,ho,hb⟩
   obtain ⟨a,cap,rfl,hR⟩:=ho.rs
   exact ⟨a,cap,rfl,hR.keep zl lr fun _ _ _=>rfl,hb⟩
  ·refine (routes9_ok pa n ja m sa k ⟨n,P,m,J,k,S,ov⟩ ok W (sigF_zero h1) lr (Nat.le_trans hn mx) lr (Nat.le_trans hm mx) lr (Nat.le_trans hk mx) hP hJ hps hjs hS hss).mono ?_
   rintro r w' ⟨out,rfl,ho,hb⟩
   obtain ⟨a,cap,rfl⟩:=ho.out.val
   exact ⟨a,cap,rfl,ho,hb⟩
 ·have hbad:¬(sigF n P m J k S).1=0∨¬(0≤ov∧ov≤100000):=by
   by_cases h1:(sigF n P m J k S).1=0
   ·exact .inr fun h=>hg ⟨h1,h⟩
   ·exact .inl h1
  refine ⟨[],0,rfl,by omega,fun W pa ja sa hP hJ hS=>?_,fun W pa ja sa hP hJ hS=>?_⟩
  ·refine (routes6_bad pa n n P ja m m J sa k k S ov W hn hm hP hJ hps hjs hk hS hss hbad).mono ?_
   rintro r w' ⟨rfl,hb⟩
   exact ⟨none,0,rfl,fun h=>absurd h (by omega),hb⟩
  ·refine (routes9_bad pa n n P ja m m J sa k k S ov W hn hm lr (Nat.le_trans hn mx) lr (Nat.le_trans hm mx) hP hJ hps hjs hk lr (Nat.le_trans hk mx) hS hss hbad).mono ?_
   rintro r w' ⟨rfl,hb⟩
   exact ⟨none,0,rfl,OutP.nil _ _,hb⟩
set_option maxHeartbeats 400000 in
theorem toSignalS13x (a:Option Addr)(n cap:Nat)(P:Nat→Pc)(w:World)(hn:n≤1048576)(hP:PsAt 0 w a n P):
 Calls Tryz.prog 8 #[.slice a n cap] w fun e w'=>
  e=.returned (.slice (some ⟨w.heap.size,0,none⟩) n n)∧SsTo w' w.heap.size n n P∧Below w.heap.size w w':=by
 have hmk:=make_rows (P:=Tryz.prog) 36 56 _ 40 4 Tryz.underlying36 info69 n (by omega) (by omega)
 have hf0:SsTo (w.alloc (.cells (mk0 (.agg #[.string ⟨#[]⟩,.int .i64 0,.int .i64 0,.int .i64 0]) (n*4)) 56)) w.heap.size n 0 P:=by
  obtain ⟨f0,hf0⟩:=row_mk0 w (.agg #[.string ⟨#[]⟩,.int .i64 0,.int .i64 0,.int .i64 0]) (n*4) 56
  exact ⟨f0,hf0,fun j hj=>absurd hj (Nat.not_lt_zero _)⟩
 go_enter Tryz.func8,Tryz.ntmps8
 go_wp2_with fail
 go_loopw [4] (fun i wr=>∃ (k:Nat),k≤n∧i=.int .i64 k∧SsTo wr w.heap.size n k P∧Below w.heap.size w wr)
  (fun i _=>n-(intOf i).toNat)
 case atStart=>exact ⟨0,Nat.zero_le _,rfl,hf0,bel1 _ _⟩
 case round=>
  obtain ⟨k,hk,rfl,hto,hbel⟩:=hrel
  clear hf0 hmk
  by_cases hlt:k<n
  ·obtain ⟨b,off,rfl,_,hb,hc⟩:=(hP.mono lr hbel lr) (by omega)
   obtain ⟨c0,c1,c2,c3⟩:=hc k hlt
   clear hc
   go_wp2_with fail
   refine (toSignal33 (P k) _).mono ?_
   rintro e w1 ⟨rfl,hb1⟩
   have hto1:SsTo w1 w.heap.size n k P:=by
    obtain ⟨f,hr,hf⟩:=hto
    exact ⟨f,rowBel hr hb1 hr.lt,hf⟩
   have hbel1:=hbel.trans (hb1.mono hbel.size)
   have hR:=hto1.step
   obtain ⟨f,hr1,_⟩:=hto1
   have d0:=hr1.cell (i:=k*4) (by omega)
   have d1:=hr1.cell (i:=k*4+1) (by omega)
   have d2:=hr1.cell (i:=k*4+2) (by omega)
   have d3:=hr1.cell (i:=k*4+3) (by omega)
   have e0:=hr1.frozen (k*4)
   have e1:=hr1.frozen (k*4+1)
   have e2:=hr1.frozen (k*4+2)
   have e3:=hr1.frozen (k*4+3)
   clear c0 c1 c2 c3 hto hr1
   go_wp2_with fail
   go_roundw
   case rel=>exact ⟨k+1,by omega,by go_num,hR,(((hbel1.setCell lr _).setCell lr _).setCell lr _).setCell lr _⟩
   case measure=>simp [intOf];omega
  ·obtain rfl:k=n:=by omega
   go_wp2
   go_ret
   exact ⟨rfl,hto,hbel⟩
set_option maxHeartbeats 1000000 in
theorem markNet20x (pb n jb m k D:Nat)(N bs:Nat→Nat)(w:World)(hn:n≤1048576)(hm:m≤1048576)(hk:k≤1000000)(hr:∃ f,w.rowIs pb 108 (n*4) f)(hsh:JsSh w jb D m N bs)(hsame:∀ i j,i<m→j<m→bs j=bs i→N j=N i)(hlt:pb<jb)(hD:jb<D)(hDs:D≤w.heap.size):
 Calls Tryz.prog 13 #[.agg #[.slice (some ⟨pb,0,none⟩) n n,.slice (some ⟨jb,0,none⟩) m m],.int .i64 k] w fun e w'=>∃ k':Nat,e=.returned (.int .i64 k')∧k'≤4398046511104∧Amid pb D w w':=by
 have HS:Hid (∀ i j,i<m→j<m→bs j=bs i→N j=N i):=hsame
 have HSH:Hid (JsSh w jb D m N bs):=hsh
 clear hsame hsh
 go_enter Tryz.func13,Tryz.ntmps13
 go_wp2_with fail
 have b0:=bel1 w (.cells #[.slice (some ⟨pb,0,none⟩) n n,.slice (some ⟨jb,0,none⟩) m m] 34)
 have hr1:∃ f,(w.alloc (.cells #[.slice (some ⟨pb,0,none⟩) n n,.slice (some ⟨jb,0,none⟩) m m] 34)).rowIs pb 108 (n*4) f:=by
  obtain ⟨f,hr⟩:=hr
  exact ⟨f,hr.alloc _⟩
 refine (markPieceS49 pb n k _ hn (by omega) hr1).mono ?_
 rintro e w1 ⟨rfl,ha1,_⟩
 have HSH1:Hid (JsSh w1 jb D m N bs):=(HSH.out.below b0).amid2 ha1 (by omega)
 have HA1:Hid (Amid pb D w w1):=(Amid.ofBelow b0).trans (ha1.wide lr (by omega))
 have a1:w1.cell? ⟨w.heap.size,1,none⟩=some (.slice (some ⟨jb,0,none⟩) m m):=by
  rw [World.cell?_of_block (w:=w.alloc (.cells #[.slice (some ⟨pb,0,none⟩) n n,.slice (some ⟨jb,0,none⟩) m m] 34)) (ha1.block w.heap.size (by simp) (by omega))]
  simp
 clear HSH hr hr1 ha1 b0
 go_wp2_with fail
 refine (markJointS50 jb D m (k+n*4) N bs _ hm (by omega) HSH1.out HS.out).mono ?_
 rintro e w2 ⟨k',rfl,hk',ha2⟩
 have hA2:=HA1.out.trans (ha2.wide (by omega) lr)
 clear HA1 HSH1 HS
 go_wp2_with fail
 go_ret
 exact ⟨k',rfl,by omega,hA2⟩
theorem _root_.Go.RowKit.Below.nz {B:Nat}{w X Y:World}(h:Below B w X)(hb:Below X.heap.size X Y)(hB:B≤w.heap.size):Below B w Y:=h.trans (hb.mono (Nat.le_trans hB h.size))
set_option maxRecDepth 100000 in
set_option maxHeartbeats 8000000 in
theorem law3 (pa:Option Addr)(n pc:Nat)(P:Nat→Pc)(ja:Option Addr)(m jc:Nat)(J:Nat→Jt)(sa:Option Addr)(k sc:Nat)(S:Nat→Pc)(ov:Int)(w:World)(hn:n≤maxLen)(hm:m≤maxLen)(hk:k≤maxLen)
 (hP:PsAt 0 w pa n P) (hJ:JsAt 0 w ja m J) (hS:PsAt 0 w sa k S) (hps:∀ i,i<n→(P i).nm.size≤maxLen) (hjs:∀ i,i<m→(J i).nm.size≤maxLen∧(J i).ne≤maxLen) (hss:∀ i,i<k→(S i).nm.size≤maxLen):
 Calls Tryz.prog 3 #[.agg #[.slice pa n pc,.slice ja m jc],.slice sa k sc,.int .i64 ov] w fun e w'=>e=.returned (.bool true)∧Below w.heap.size w w':=by
 have Hjs:Hid (∀ i,i<m→(J i).nm.size≤maxLen∧(J i).ne≤maxLen):=hjs
 have Hps:Hid (∀ i,i<n→(P i).nm.size≤maxLen):=hps
 have Hss:Hid (∀ i,i<k→(S i).nm.size≤maxLen):=hss
 have HA:Hid (PsAt 0 w pa n P∧JsAt 0 w ja m J∧PsAt 0 w sa k S):=⟨hP,hJ,hS⟩
 clear hjs hps hss hP hJ hS
 go_enter Tryz.func3,Tryz.ntmps3
 go_wp2_with fail
 have b0:=bel1 w (.cells #[.slice pa n pc,.slice ja m jc] 25)
 have a0:(w.alloc (.cells #[.slice pa n pc,.slice ja m jc] 25)).cell? ⟨w.heap.size,0,none⟩=some (.slice pa n pc):=by simp
 have a1:(w.alloc (.cells #[.slice pa n pc,.slice ja m jc] 25)).cell? ⟨w.heap.size,1,none⟩=some (.slice ja m jc):=by simp
 have s0:w.heap.size<(w.alloc (.cells #[.slice pa n pc,.slice ja m jc] 25)).heap.size:=by simp
 refine (szNet5 pa n pc P ja m jc J 1048576 _ hn hm (by omega) (by omega) (HA.out.1.mono lr b0 lr) (HA.out.2.1.mono lr b0 lr) Hps.out Hjs.out).mono ?_
 rintro e w1 ⟨r,rfl,hr1,hr2,hb1⟩
 have B1:=b0.trans (hb1.mono b0.size)
 have a0:=cell_keep hb1 s0 a0
 have a1:=cell_keep hb1 s0 a1
 have s1:w.heap.size<w1.heap.size:=ltl s0 hb1.size
 clear s0 b0 hb1
 by_cases hneg:r<0
 ·clear hr2
  go_wp2_with fail
  go_ret
  exact ⟨rfl,B1⟩
 obtain ⟨hn2,hm2,hne2⟩:=hr2 (by omega)
 have hn':n≤1048576:=by omega
 have hm':m≤1048576:=by omega
 have Hne:Hid (∀ i,i<m→(J i).ne≤1048576):=fun i hi=>by have:=hne2 i hi;omega
 have Hjs2:Hid (∀ i,i<m→(J i).ne≤1048576∧(J i).nm.size≤maxLen):=fun i hi=>⟨Hne.out i hi,(Hjs.out i hi).1⟩
 clear hr2 hne2 hn2 hm2
 go_wp2_with fail
 refine (szSignalS11 sa k sc S r _ hk (by omega) (by omega) (HA.out.2.2.mono lr B1 lr) Hss.out).mono ?_
 rintro e w2 ⟨r',rfl,hr3,hr4,hb2⟩
 have B2:=B1.trans (hb2.mono B1.size)
 have a0:=cell_keep hb2 s1 a0
 have a1:=cell_keep hb2 s1 a1
 have s2:w.heap.size<w2.heap.size:=ltl s1 hb2.size
 clear s1 B1 hb2
 by_cases hneg2:r'<0
 ·clear hr4
  go_wp2_with fail
  go_ret
  exact ⟨rfl,B2⟩
 have hk':k≤1048576:=by have:=hr4 (by omega);omega
 clear hr4 hr3
 obtain ⟨rs,nr,Hnr,hnr,HS,HI⟩:=bothR n P m J k S ov hn' hm' hk' Hps.out Hjs2.out Hss.out
 go_wp2_with fail
 refine (toNet7 pa n pc P ja m jc J _ hn' hm' (HA.out.1.mono lr B2 lr) (HA.out.2.1.mono lr B2 lr) Hne.out).mono ?_
 rintro e w3 ⟨pa1,ja1,rfl,hP3,hJ3,hb3⟩
 have B3:=B2.trans (hb3.mono B2.size)
 have a0:=cell_keep hb3 s2 a0
 have a1:=cell_keep hb3 s2 a1
 have s3:w.heap.size<w3.heap.size:=ltl s2 hb3.size
 clear s2 B2 hb3
 go_wp2_with fail
 refine (toSignalS13 sa k sc S _ hk' (HA.out.2.2.mono lr B3 lr)).mono ?_
 rintro e w4 ⟨rfl,hS4,hb4⟩
 have B4:=B3.trans (hb4.mono B3.size)
 have a0:=cell_keep hb4 s3 a0
 have a1:=cell_keep hb4 s3 a1
 have s4:w.heap.size<w4.heap.size:=ltl s3 hb4.size
 have hP4:=hP3.mono zl hb4 lr
 have hJ4:=hJ3.mono zl hb4 lr
 have hS4':PsAt 0 w4 (some ⟨w3.heap.size,0,none⟩) k S:=hS4.keep zl lr fun _ _ _=>rfl
 clear s3 B3 hb4 hP3 hJ3 hS4
 go_wp2_with fail
 refine (HS.out _ pa1 ja1 _ hP4 hJ4 hS4').mono ?_
 rintro e w5 ⟨ra,rc,rfl,hR5,hb5⟩
 have HR5:Hid (RsAt 0 w5 ra nr (rtOf rs)):=hR5
 have HB5:Hid (Below w.heap.size w w5):=B4.trans (hb5.mono B4.size)
 have HA5:Hid (w5.cell? ⟨w.heap.size,0,none⟩=some (.slice pa n pc)∧w5.cell? ⟨w.heap.size,1,none⟩=some (.slice ja m jc)∧w.heap.size<w5.heap.size):=⟨cell_keep hb5 s4 a0,cell_keep hb5 s4 a1,ltl s4 hb5.size⟩
 have HAW:Hid (∀ W,Below w5.heap.size w5 W→PsAt 0 W pa n P∧JsAt 0 W ja m J∧PsAt 0 W sa k S):=fun W hW=>by
  have hb:=HB5.out.trans (hW.mono HB5.out.size)
  exact ⟨HA.out.1.mono lr hb lr,HA.out.2.1.mono lr hb lr,HA.out.2.2.mono lr hb lr⟩
 have HAC:Hid (∀ W,Below w5.heap.size w5 W→W.cell? ⟨w.heap.size,0,none⟩=some (.slice pa n pc)∧W.cell? ⟨w.heap.size,1,none⟩=some (.slice ja m jc)):=fun W hW=>⟨cell_keep hW HA5.out.2.2 HA5.out.1,cell_keep hW HA5.out.2.2 HA5.out.2.1⟩
 have a0:=HA5.out.1
 have a1:=HA5.out.2.1
 clear s4 B4 hb5 hP4 hJ4 hS4' hR5
 go_wp2_with fail
 clear a0 a1
 have N5:Hid (Below w5.heap.size w5 w5):=Below.refl _ _
 refine (toNet7x pa n pc P ja m jc J _ hn' hm' (HAW.out _ N5.out).1 (HAW.out _ N5.out).2.1 Hne.out).mono ?_
 rintro e w7 ⟨pb,jb,hpb,hjb,hpj,rfl,hP7,hJ7,hb7⟩
 have HP7:Hid (PsTo w7 pb n n P∧JsTo w7 jb m m J):=⟨hP7,hJ7⟩
 have N7:Hid (Below w5.heap.size w5 w7):=hb7
 clear hP7 hJ7 hb7
 obtain ⟨a0,a1⟩:=HAC.out _ N7.out
 go_wp2_with fail
 clear a0 a1
 have b8:=bel1 w7 (.cells #[.slice (some ⟨pb,0,none⟩) n n,.slice (some ⟨jb,0,none⟩) m m] 34)
 have hN8:=N7.out.nz b8 lr
 refine (toSignalS13x sa k sc S _ hk' (HAW.out _ hN8).2.2).mono ?_
 rintro e w9 ⟨rfl,hS9,hb9⟩
 have e8:(w7.alloc (.cells #[.slice (some ⟨pb,0,none⟩) n n,.slice (some ⟨jb,0,none⟩) m m] 34)).heap.size=w7.heap.size+1:=by simp
 rw [e8] at hS9
 have HS9:Hid (SsTo w9 (w7.heap.size+1) k k S):=hS9
 have x0:(w7.alloc (.cells #[.slice (some ⟨pb,0,none⟩) n n,.slice (some ⟨jb,0,none⟩) m m] 34)).cell? ⟨w7.heap.size,0,none⟩=some (.slice (some ⟨pb,0,none⟩) n n):=by simp
 have x1:(w7.alloc (.cells #[.slice (some ⟨pb,0,none⟩) n n,.slice (some ⟨jb,0,none⟩) m m] 34)).cell? ⟨w7.heap.size,1,none⟩=some (.slice (some ⟨jb,0,none⟩) m m):=by simp
 have HX9:Hid (w9.cell? ⟨w7.heap.size,0,none⟩=some (.slice (some ⟨pb,0,none⟩) n n)∧w9.cell? ⟨w7.heap.size,1,none⟩=some (.slice (some ⟨jb,0,none⟩) m m)):=⟨cell_keep hb9 (by simp) x0,cell_keep hb9 (by simp) x1⟩
 have N9:Hid (Below w5.heap.size w5 w9):=hN8.nz hb9 lr
 have N79:Hid (Below w7.heap.size w7 w9):=b8.nz hb9 lr
 have z9:w7.heap.size+1<w9.heap.size:=by
  obtain ⟨f,hr,_⟩:=hS9
  exact hr.lt
 have zjb:jb<w7.heap.size:=by
  obtain ⟨f,hr,_⟩:=HP7.out.2
  exact hr.lt
 rw [e8]
 have HXW:Hid (∀ W,Below w9.heap.size w9 W→W.cell? ⟨w7.heap.size,0,none⟩=some (.slice (some ⟨pb,0,none⟩) n n)∧W.cell? ⟨w7.heap.size,1,none⟩=some (.slice (some ⟨jb,0,none⟩) m m)):=fun W hW=>⟨cell_keep hW (by omega) HX9.out.1,cell_keep hW (by omega) HX9.out.2⟩
 have HX0:Hid (∀ W,Below w9.heap.size w9 W→PsAt 0 W (some ⟨pb,0,none⟩) n P∧JsAt 0 W (some ⟨jb,0,none⟩) m J∧PsAt 0 W (some ⟨w7.heap.size+1,0,none⟩) k S):=fun W hW=>by
  have h7:=N79.out.trans (hW.mono (by omega))
  exact ⟨HP7.out.1.at.mono zl h7 lr,HP7.out.2.at.mono zl h7 lr,HS9.out.at.mono zl hW lr⟩
 clear b8 hN8 hS9 hb9 x0 x1 e8
 obtain ⟨x0,x1⟩:=HX9.out
 go_wp2_with fail
 clear x0 x1
 obtain ⟨h1,h2,h3⟩:=HX0.out w9 (Below.refl _ _)
 refine (HI.out _ _ _ _ h1 h2 h3).mono ?_
 rintro e wa ⟨ga,gc,rfl,hG,hba⟩
 have HG:Hid (OutP w9.heap.size wa (.slice ga nr gc) rs):=hG
 have HSM:Hid (∀ i,i<nr→(rtOf rs i).small):=fun i hi=>hG.small i (by rw [← Hnr.out];exact hi)
 have MA:Hid (Below w9.heap.size w9 wa):=hba
 have NA:Hid (Below w5.heap.size w5 wa):=N9.out.nz hba lr
 have HGR:Hid (∀ W,OutP w9.heap.size W (.slice ga nr gc) rs→RsAt 0 W ga nr (rtOf rs)):=fun W h=>by
  obtain ⟨a,cap,e,hR⟩:=h.out.rs
  simp only [Value.slice.injEq] at e
  obtain ⟨rfl,e2,rfl⟩:=e
  rw [e2]
  exact hR.keep zl lr fun _ _ _=>rfl
 clear h1 h2 h3 hG hba
 go_wp2_with fail
 refine (eqRouteS19 ga ra nr gc rc (rtOf rs) _ (by omega) HSM.out (HGR.out _ HG.out) (HR5.out.mono lr NA.out lr)).mono ?_
 rintro e wb ⟨rfl,hbb⟩
 have MB:Hid (Below w9.heap.size w9 wb.drew):=(MA.out.nz hbb lr).drew
 have NB:Hid (Below w5.heap.size w5 wb.drew):=(NA.out.nz hbb lr).drew
 have KB:Hid (Below wa.heap.size wa wb.drew):=hbb.drew
 clear hbb
 obtain ⟨a0,a1⟩:=HAC.out _ NB.out
 obtain ⟨x0,x1⟩:=HXW.out _ MB.out
 have a0':wb.cell? _=_:=a0
 have a1':wb.cell? _=_:=a1
 have x0':wb.cell? _=_:=x0
 have x1':wb.cell? _=_:=x1
 have zx:w7.heap.size<wb.drew.heap.size:=ltl (by omega) MB.out.size
 obtain ⟨hPc,hJc,hSc⟩:=HAW.out _ NB.out
 obtain ⟨hPb,hJb,hSb⟩:=HX0.out _ MB.out
 clear a0 a1
 go_wp2_with fail
 go_region_with (first | (go_at_call 7;refine (toNet7 pa n pc P ja m jc J _ hn' hm' hPc hJc Hne.out).mono ?_;rintro e wc ⟨pa3,ja3,rfl,hPd,hJd,hbc⟩;have x0:=cell_keep hbc zx x0;have x1:=cell_keep hbc zx x1) | (go_at_call 11;refine (eqNet10 (some ⟨pb,0,none⟩) pa3 n n n P (some ⟨jb,0,none⟩) ja3 m m m J _ hn' hm' (hPb.mono lr hbc lr) (hPd.keep zl lr fun _ _ _=>rfl) (hJb.mono lr hbc lr) (hJd.keep zl lr fun _ _ _=>rfl) Hne.out).mono ?_;rintro e wd ⟨rfl,hbd⟩))
 all_goals
  have MD:Hid (Below w9.heap.size w9 wd):=(MB.out.nz hbc lr).nz hbd lr
  have ND:Hid (Below w5.heap.size w5 wd):=(NB.out.nz hbc lr).nz hbd lr
  have KD:Hid (Below wa.heap.size wa wd):=(KB.out.nz hbc lr).nz hbd lr
  clear hPb hJb hPc hJc hPd hJd hbc hbd hSb hSc a0' a1' x0' x1' x0 x1 zx
  go_wp2_with fail
  refine (toSignalS13 sa k sc S _ hk' (HAW.out _ ND.out).2.2).mono ?_
  rintro e we ⟨rfl,hSe,hbe⟩
  have ME:Hid (Below w9.heap.size w9 we):=MD.out.nz hbe lr
  have NE:Hid (Below w5.heap.size w5 we):=ND.out.nz hbe lr
  have KE:Hid (Below wa.heap.size wa we):=KD.out.nz hbe lr
  have hSe':PsAt 0 we (some ⟨wd.heap.size,0,none⟩) k S:=hSe.keep zl lr fun _ _ _=>rfl
  clear hSe hbe MD ND KD
  go_wp2_with fail
  refine (eqSignalS15 (some ⟨w7.heap.size+1,0,none⟩) _ k k k S _ hk' (HX0.out _ ME.out).2.2 hSe').mono ?_
  rintro e wf ⟨rfl,hbf⟩
  have MF:Hid (Below w9.heap.size w9 wf):=ME.out.nz hbf lr
  have NF:Hid (Below w5.heap.size w5 wf):=NE.out.nz hbf lr
  have KF:Hid (Below wa.heap.size wa wf):=KE.out.nz hbf lr
  clear hbf hSe' ME NE KE
  obtain ⟨x0,x1⟩:=HXW.out _ MF.out
  go_wp2_with fail
  clear x0 x1
  obtain ⟨bs,hsh,hsame⟩:=HP7.out.2.sh Hne.out
  have h7f:Below w7.heap.size w7 wf:=N79.out.trans (MF.out.mono (by omega))
  have z79:w9.heap.size≤wf.heap.size:=MF.out.size
  have hro:∃ f,wf.rowIs pb 108 (n*4) f:=by
   obtain ⟨f,hr,_⟩:=HP7.out.1
   exact ⟨f,rowBel hr h7f hr.lt⟩
  refine (markNet20x pb n jb m 1 w7.heap.size _ bs _ hn' hm' (by omega) hro (hsh.below h7f) hsame hpj zjb (by omega)).mono ?_
  rintro e wg ⟨k1,rfl,hk1,hA⟩
  have NG:Hid (Below w5.heap.size w5 wg):=NF.out.trans (hA.below hpb NF.out.size)
  have RG:Hid (∃ f,wg.rowIs (w7.heap.size+1) 56 (k*4) f):=by
   obtain ⟨f,hr,_⟩:=HS9.out
   exact ⟨f,row_amid (rowBel hr MF.out hr.lt) hA (Or.inr (by omega))⟩
  have GG:Hid (OutP w9.heap.size wg (.slice ga nr gc) rs):=(HG.out.keep fun kk _ h=>KF.out.block kk h).keep fun kk h1 h2=>hA.block kk h2 (Or.inr (by omega))
  clear hsh hsame h7f hro hA z79 NF MF KF
  go_wp2_with fail
  refine (markSignalS21 (w7.heap.size+1) k k1 _ hk' (by omega) RG.out).mono ?_
  rintro e wh ⟨he,hA,_⟩
  generalize hk2:k1+k*4=k2 at he
  subst he
  have z57:w5.heap.size≤w7.heap.size:=N7.out.size
  have NH:Hid (Below w5.heap.size w5 wh):=NG.out.trans (hA.below (by omega) NG.out.size)
  have GH:Hid (OutP w9.heap.size wh (.slice ga nr gc) rs):=GG.out.keep fun kk h1 h2=>hA.block kk h2 (Or.inr (by omega))
  have hk20:¬(k2:Int)<0:=by omega
  clear NG GG RG hA hk2 hk1
  go_wp2_with fail
  refine (eqRouteS19 ga ra nr gc rc (rtOf rs) _ (by omega) HSM.out (HGR.out _ GH.out) (HR5.out.mono lr NH.out lr)).mono ?_
  rintro e wi ⟨rfl,hbi⟩
  have NI:Hid (Below w5.heap.size w5 wi):=NH.out.nz hbi lr
  have GI:Hid (OutP w9.heap.size wi (.slice ga nr gc) rs):=GH.out.keep fun kk _ h=>hbi.block kk h
  clear NH GH hbi hk20
  go_wp2_with fail
  refine (markRouteS15 ga nr gc w9.heap.size rs _ hnr Hnr.out GI.out).mono ?_
  rintro e wj ⟨he,hRj,hbj,_⟩
  generalize hkr:kAt (rtOf rs) nr=kr at he
  have HKR:Hid (kAt (rtOf rs) nr=kr):=hkr
  subst he
  have RJ:Hid (RsAt 0 wj ga nr (mkRt (rtOf rs))):=hRj
  have NJ:Hid (Below w5.heap.size w5 wj):=NI.out.trans (hbj.mono (by omega))
  clear hkr hRj hbj NI GI
  have hkr0:¬(kr:Int)<0:=by omega
  go_wp2_with fail
  refine (heldRouteS16 ga nr gc (rtOf rs) _ (by omega) HSM.out RJ.out).mono ?_
  rintro e wx ⟨he,hx⟩
  rw [HKR.out] at he
  subst he
  have hx:=hx.symm
  subst hx
  obtain ⟨a0,a1⟩:=HAC.out _ NJ.out
  go_wp2_with fail
  clear a0 a1
  refine (toNet7 pa n pc P ja m jc J _ hn' hm' (HAW.out _ NJ.out).1 (HAW.out _ NJ.out).2.1 Hne.out).mono ?_
  rintro e wk ⟨pa4,ja4,rfl,hP4,hJ4,hbk⟩
  have NK:Hid (Below w5.heap.size w5 wk):=NJ.out.nz hbk lr
  have JK:Hid (Below wj.heap.size wj wk):=hbk
  have HP4:Hid (PsAt 0 wk pa4 n P∧JsAt 0 wk ja4 m J):=⟨hP4.keep zl lr fun _ _ _=>rfl,hJ4.keep zl lr fun _ _ _=>rfl⟩
  clear hP4 hJ4 hbk
  go_wp2_with fail
  refine (toSignalS13 sa k sc S _ hk' (HAW.out _ NK.out).2.2).mono ?_
  rintro e wl ⟨rfl,hSl,hbl⟩
  have NL:Hid (Below w5.heap.size w5 wl):=NK.out.nz hbl lr
  have JL:Hid (Below wj.heap.size wj wl):=JK.out.nz hbl lr
  have HPl:Hid (PsAt 0 wl pa4 n P∧JsAt 0 wl ja4 m J∧PsAt 0 wl (some ⟨wk.heap.size,0,none⟩) k S):=⟨HP4.out.1.mono lr hbl lr,HP4.out.2.mono lr hbl lr,hSl.keep zl lr fun _ _ _=>rfl⟩
  clear hSl hbl HP4 NK JK
  go_wp2_with fail
  refine (HI.out _ _ _ _ HPl.out.1 HPl.out.2.1 HPl.out.2.2).mono ?_
  rintro e wm ⟨ha,hc,rfl,hH,hbm⟩
  have NM:Hid (Below w5.heap.size w5 wm):=NL.out.nz hbm lr
  have JM:Hid (Below wj.heap.size wj wm):=JL.out.nz hbm lr
  have RM:Hid (RsAt 0 wm ha nr (rtOf rs)):=by
   obtain ⟨a,cap,e,hR⟩:=hH.out.rs
   simp only [Value.slice.injEq] at e
   obtain ⟨rfl,e2,rfl⟩:=e
   show RsAt _ _ _ _ _
   rw [e2]
   exact hR.keep zl lr fun _ _ _=>rfl
  clear hH hbm NL JL HPl
  go_wp2_with fail
  refine (eqRouteS19 ha ra nr hc rc (rtOf rs) _ (by omega) HSM.out RM.out (HR5.out.mono lr NM.out lr)).mono ?_
  rintro e wn ⟨rfl,hbn⟩
  have NN:Hid (Below w5.heap.size w5 wn):=NM.out.nz hbn lr
  have JN:Hid (Below wj.heap.size wj wn):=JM.out.nz hbn lr
  clear hbn NM JM RM
  go_wp2_with fail
  refine (heldRouteS16 ga nr gc (rtOf rs) _ (by omega) HSM.out (RJ.out.mono lr JN.out lr)).mono ?_
  rintro e wy ⟨he,hy⟩
  rw [HKR.out] at he
  subst he
  have hy:=hy.symm
  subst hy
  go_wp2_with fail
  go_ret
  exact ⟨rfl,HB5.out.trans (NN.out.mono HB5.out.size)⟩
end Go.Proofs.YtkhaehpobpkkiaaGreat
