import Derived.Deep.RegionHeld3
import Derived.Test.YtkhaehpobpkkiaaGreatNb
import Derived.Test.YtkhaehpobpkkiaaGreatKi
namespace Go.Proofs.YtkhaehpobpkkiaaGreat
open Go.RowKit
set_option maxHeartbeats 1000000 in
theorem away101 (pc:Int)(sd:Int)(w:World)(hs:sd=0∨sd=1):
 Calls Tryz.prog 101 #[.agg #[.int .i64 pc,.int .i64 sd]] w fun e w'=>e=.returned (.agg #[.int .i64 pc,.int .i64 (wayOf ⟨pc,sd⟩)])∧Below w.heap.size w w':=by
 rcases hs with rfl | rfl
 ·go_enter Tryz.func101,Tryz.ntmps101
  go_wp2
  exact bodyPost_ret (v:=.agg #[.int .i64 pc,.int .i64 1]) (by simp [results,Tryz.results101,go_sem]) rfl ⟨rfl,bel2 _ _ _⟩
 ·go_enter Tryz.func101,Tryz.ntmps101
  go_wp2
  exact bodyPost_ret (v:=.agg #[.int .i64 pc,.int .i64 (-1)]) (by simp [results,Tryz.results101,go_sem]) rfl ⟨rfl,bel2 _ _ _⟩
set_option maxHeartbeats 1000000 in
theorem toward103 (pc:Int)(sd:Int)(w:World)(hs:sd=0∨sd=1):
 Calls Tryz.prog 103 #[.agg #[.int .i64 pc,.int .i64 sd]] w fun e w'=>e=.returned (.agg #[.int .i64 pc,.int .i64 (if sd=0 then -1 else 1)])∧Below w.heap.size w w':=by
 rcases hs with rfl | rfl
 ·go_enter Tryz.func103,Tryz.ntmps103
  go_wp2
  exact bodyPost_ret (v:=.agg #[.int .i64 pc,.int .i64 (-1)]) (by simp [results,Tryz.results103,go_sem]) rfl ⟨rfl,bel2 _ _ _⟩
 ·go_enter Tryz.func103,Tryz.ntmps103
  go_wp2
  exact bodyPost_ret (v:=.agg #[.int .i64 pc,.int .i64 1]) (by simp [results,Tryz.results103,go_sem]) rfl ⟨rfl,bel2 _ _ _⟩
structure TkAt (w:World)(bt:Nat)(v:Ev)(pa:Option Addr)(pc:Nat)(ja:Option Addr)(jc:Nat)(sa:Option Addr)(sc:Nat):Prop where
 lt:bt<w.heap.size
 p:w.cell? ⟨bt,0,none⟩=some (.slice pa v.n pc)
 j:w.cell? ⟨bt,1,none⟩=some (.slice ja v.m jc)
 s:w.cell? ⟨bt,2,none⟩=some (.slice sa v.k sc)
 st:∃ sb,sb<w.heap.size∧w.cell? ⟨bt,3,none⟩=some (.slice (some ⟨sb,0,none⟩) v.n v.n)∧∀ q s:Nat,q<v.n→s<2→w.cell? ⟨sb,q*4+s*2,none⟩=some (.int .i64 (v.at ⟨q,s⟩).1)∧w.cell? ⟨sb,q*4+s*2+1,none⟩=some (.int .i64 (v.at ⟨q,s⟩).2)
 net:NetIn w v pa ja sa
theorem TkAt.mono {w w':World}{bt:Nat}{v:Ev}{pa:Option Addr}{pc:Nat}{ja:Option Addr}{jc:Nat}{sa:Option Addr}{sc:Nat}{N:Nat}(h:TkAt w bt v pa pc ja jc sa sc)(hb:Below N w w')(hN:w.heap.size≤N):TkAt w' bt v pa pc ja jc sa sc:=
 have k:∀ o,w'.cell? ⟨bt,o,none⟩=w.cell? ⟨bt,o,none⟩:=fun o=>hb.cell (p:=⟨bt,o,none⟩) (by have:=h.lt;show bt<N;omega)
 ⟨by have:=h.lt;have:=hb.size;omega,(k _).trans h.p,(k _).trans h.j,(k _).trans h.s,by
  obtain ⟨sb,h1,h2,h3⟩:=h.st
  have k2:∀ o,w'.cell? ⟨sb,o,none⟩=w.cell? ⟨sb,o,none⟩:=fun o=>hb.cell (p:=⟨sb,o,none⟩) (by show sb<N;omega)
  exact ⟨sb,by have:=hb.size;omega,(k _).trans h2,fun q s hq hs=>⟨(k2 _).trans (h3 q s hq hs).1,(k2 _).trans (h3 q s hq hs).2⟩⟩,h.net.mono hb hN⟩
set_option maxHeartbeats 1000000 in
theorem long97 {v:Ev}(ok:v.Ok){bt:Nat}{pa:Option Addr}{pc:Nat}{ja:Option Addr}{jc:Nat}{sa:Option Addr}{sc:Nat}(p:Nat)(way:Int)(w:World)(h:TkAt w bt v pa pc ja jc sa sc)(hp:p<v.n):
 Calls Tryz.prog 97 #[.pointer (some ⟨bt,0,none⟩),.agg #[.int .i64 p,.int .i64 way]] w fun e w'=>e=.returned (.int .i64 (v.P p).ln)∧Below w.heap.size w w':=by
 obtain ⟨b,off,rfl,_,hb,hc⟩:=h.net.p (by omega)
 have c1:=(hc p hp).2.1
 have f0:=h.p
 have hl:=h.lt
 have hpi:(p:Int)<(v.n:Int):=by omega
 have hn:=ok.n1
 have f0':∀ o,(w.alloc o).cell? ⟨bt,0,none⟩=some (.slice (some ⟨b,off,none⟩) v.n pc):=fun o=>by rw [World.cell?_alloc_past _ _ _ hl];exact f0
 have c1':∀ o,(w.alloc o).cell? ⟨b,off+p*4+1,none⟩=some (.int .i64 (v.P p).ln):=fun o=>by rw [World.cell?_alloc_past _ _ _ hb];exact c1
 clear hc h ok
 go_enter Tryz.func97,Tryz.ntmps97
 go_wp2_with fail
 go_quiet (fail)
 go_wp2_with fail
 go_ret
 exact ⟨rfl,below_drewN (bel1 _ _) _⟩
set_option maxHeartbeats 1000000 in
theorem along68 {v:Ev}(ok:v.Ok){bt:Nat}{pa:Option Addr}{pc:Nat}{ja:Option Addr}{jc:Nat}{sa:Option Addr}{sc:Nat}(p:Nat)(way at':Int)(w:World)(h:TkAt w bt v pa pc ja jc sa sc)(hp:p<v.n)(ha:0≤at'∧at'≤10000000):
 Calls Tryz.prog 68 #[.pointer (some ⟨bt,0,none⟩),.agg #[.int .i64 p,.int .i64 way],.int .i64 at'] w fun e w'=>e=.returned (.int .i64 (farI (v.P p).ln at' way))∧Below w.heap.size w w':=by
 have hln:=ok.ln p hp
 by_cases hw:way=1
 ·have hw':(way == 1)=true:=by simp [hw]
  have HV:Hid (farI (v.P p).ln at' way=at'):=by
   show farI (v.P p).ln at' way=at'
   simp [farI,hw]
  clear hw h
  go_enter Tryz.func68,Tryz.ntmps68
  go_wp2_with fail
  go_ret
  exact ⟨by rw [HV.out] <;> rfl,bel1 _ _⟩
 ·have hw':(way == 1)=false:=by simp [hw]
  have HV:Hid (farI (v.P p).ln at' way=(v.P p).ln-at'):=by
   show farI (v.P p).ln at' way=_
   simp [farI,hw]
  have C:=long97 ok p way (w.alloc (.cells #[.int .i64 p,.int .i64 way] 100)) (h.mono (bel1 w _) lr) hp
  have HC:Hid (Calls Tryz.prog 97 _ _ _):=C
  clear C hw h
  go_enter Tryz.func68,Tryz.ntmps68
  go_wp2_with fail
  refine HC.out.mono ?_
  rintro e w1 ⟨rfl,hb1⟩
  clear HC
  have B1:=(bel1 w (.cells #[.int .i64 p,.int .i64 way] 100)).trans (hb1.mono (by simp))
  go_wp2_with fail
  go_ret
  exact ⟨by rw [HV.out] <;> rfl,B1⟩
set_option maxHeartbeats 2000000 in
theorem ahead98 {v:Ev}(ok:v.Ok){bt:Nat}{pa:Option Addr}{pc:Nat}{ja:Option Addr}{jc:Nat}{sa:Option Addr}{sc:Nat}(p:Nat)(way:Int)(w:World)(h:TkAt w bt v pa pc ja jc sa sc)(hp:p<v.n)(hw:way=1∨way=-1):
 Calls Tryz.prog 98 #[.pointer (some ⟨bt,0,none⟩),.agg #[.int .i64 p,.int .i64 way]] w fun e w'=>e=.returned (.agg #[.int .i64 (((v.at (headE p way)).1:Nat):Int),.int .i64 (((v.at (headE p way)).2:Nat):Int)])∧Below w.heap.size w w':=by
 have hl:=h.lt
 have hn:=ok.n1
 have hpi:(p:Int)<(v.n:Int):=by omega
 have hp0:(0:Int)≤(p:Int):=by omega
 obtain ⟨sb,hsl,f3,hst⟩:=h.st
 rcases hw with rfl | rfl
 ·obtain ⟨c0,c1⟩:=hst p 1 hp (by omega)
  have HE:Hid (headE p 1=⟨(p:Int),((1:Nat):Int)⟩):=rfl
  have d0:w.cell? ⟨sb,p*4+2,none⟩=some (.int .i64 (((v.at ⟨(p:Int),((1:Nat):Int)⟩).1:Nat):Int)):=c0
  have d1:w.cell? ⟨sb,p*4+2+1,none⟩=some (.int .i64 (((v.at ⟨(p:Int),((1:Nat):Int)⟩).2:Nat):Int)):=c1
  rw [HE.out]
  generalize v.at ⟨(p:Int),((1:Nat):Int)⟩=z at *
  clear c0 c1 h ok hst
  go_enter Tryz.func98,Tryz.ntmps98
  go_wp2_with fail
  go_region
  all_goals
   go_wp2_with fail
   exact bodyPost_ret (v:=.agg #[.int .i64 ((z.1:Nat):Int),.int .i64 ((z.2:Nat):Int)]) (by simp [results,Tryz.results98,go_sem]) rfl ⟨rfl,(bel2 _ _ _).drew⟩
 ·obtain ⟨c0,c1⟩:=hst p 0 hp (by omega)
  have HE:Hid (headE p (-1)=⟨(p:Int),((0:Nat):Int)⟩):=rfl
  have d0:w.cell? ⟨sb,p*4,none⟩=some (.int .i64 (((v.at ⟨(p:Int),((0:Nat):Int)⟩).1:Nat):Int)):=c0
  have d1:w.cell? ⟨sb,p*4+1,none⟩=some (.int .i64 (((v.at ⟨(p:Int),((0:Nat):Int)⟩).2:Nat):Int)):=c1
  rw [HE.out]
  generalize v.at ⟨(p:Int),((0:Nat):Int)⟩=z at *
  clear c0 c1 h ok hst
  go_enter Tryz.func98,Tryz.ntmps98
  go_wp2_with fail
  go_region
  all_goals
   go_wp2_with fail
   exact bodyPost_ret (v:=.agg #[.int .i64 ((z.1:Nat):Int),.int .i64 ((z.2:Nat):Int)]) (by simp [results,Tryz.results98,go_sem]) rfl ⟨rfl,(bel2 _ _ _).drew⟩
set_option maxHeartbeats 2000000 in
theorem kind99 {v:Ev}(ok:v.Ok){bt:Nat}{pa:Option Addr}{pc:Nat}{ja:Option Addr}{jc:Nat}{sa:Option Addr}{sc:Nat}(j:Nat)(w:World)(h:TkAt w bt v pa pc ja jc sa sc)(hj:j<v.m):
 Calls Tryz.prog 99 #[.pointer (some ⟨bt,0,none⟩),.int .i64 j] w fun e w'=>e=.returned (kindV (v.J j).kd)∧w'=w:=by
 obtain ⟨b,off,rfl,_,hb,hc⟩:=h.net.j (by omega)
 obtain ⟨ea,ec,c0,c1,c2,_⟩:=hc j hj
 have f1:=h.j
 have hji:(j:Int)<(v.m:Int):=by omega
 have hm:=ok.m1
 clear hc h ok
 go_enter Tryz.func99,Tryz.ntmps99
 go_wp2_with fail
 refine (kindOf44 (v.J j).kd _).mono ?_
 rintro e w1 ⟨rfl,rfl⟩
 go_wp2_with fail
 go_ret
 exact ⟨rfl,rfl⟩
set_option maxRecDepth 100000 in
set_option maxHeartbeats 4000000 in
theorem part96 {v:Ev}(ok:v.Ok){bt:Nat}{pa:Option Addr}{pc:Nat}{ja:Option Addr}{jc:Nat}{sa:Option Addr}{sc:Nat}(p:Nat)(way a b:Int)(w:World)(h:TkAt w bt v pa pc ja jc sa sc)(hp:p<v.n)(hw:way=1∨way=-1)(ha:0≤a∧a≤10000000)(hb:0≤b∧b≤10000000):
 Calls Tryz.prog 96 #[.pointer (some ⟨bt,0,none⟩),.agg #[.int .i64 p,.int .i64 way],.int .i64 a,.int .i64 b] w fun e w'=>e=.returned (.agg #[.int .i64 p,.int .i64 (partF (v.P p).ln way a b).1,.int .i64 (partF (v.P p).ln way a b).2])∧Below w.heap.size w w':=by
 have hln:=ok.ln p hp
 rcases hw with rfl | rfl
 ·go_enter Tryz.func96,Tryz.ntmps96
  go_wp2_with fail
  exact bodyPost_ret (v:=.agg #[.int .i64 p,.int .i64 a,.int .i64 b]) (by simp [results,Tryz.results96,go_sem]) rfl ⟨rfl,bel2 _ _ _⟩
 ·have OK:Hid v.Ok:=ok
  have HT:Hid (TkAt w bt v pa pc ja jc sa sc):=h
  clear h ok
  go_enter Tryz.func96,Tryz.ntmps96
  go_wp2_with fail
  have b0:=(bel2 w (.cells #[.int .i64 p,.int .i64 (-1)] 100) (.cells #[.int .i64 0,.int .i64 0,.int .i64 0] 104)).drew
  have A0:=((Box.new w 100 #[.int .i64 (p:Int),.int .i64 (-1)]).alloc (.cells #[.int .i64 0,.int .i64 0,.int .i64 0] 104)).drew
  have R0:Box ((w.alloc (.cells #[.int .i64 (p:Int),.int .i64 (-1)] 100)).alloc (.cells #[.int .i64 0,.int .i64 0,.int .i64 0] 104)).drew (w.heap.size+1) 104 #[.int .i64 0,.int .i64 0,.int .i64 0]:=by
   have:=Box.new (w.alloc (.cells #[.int .i64 (p:Int),.int .i64 (-1)] 100)) 104 #[.int .i64 0,.int .i64 0,.int .i64 0]
   exact (by simpa using this:Box _ (w.heap.size+1) 104 _).drew
  have HA:Hid (Box _ w.heap.size 100 _):=A0
  have HR:Hid (Box _ (w.heap.size+1) 104 _):=R0
  have HB:Hid (Below w.heap.size w _):=b0
  have HT0:Hid (TkAt _ bt v pa pc ja jc sa sc):=HT.out.mono b0 lr
  clear A0 R0 b0
  go_region_held3 (fun w'=>w'.cell? ⟨w.heap.size,0,none⟩=some (.int .i64 (p:Int))∧w'.cell? ⟨w.heap.size,1,none⟩=some (.int .i64 (-1))) (go_keep) (first
   | (go_at_call 97;first
    | (refine (long97 OK.out p (-1) _ HT0.out hp).mono ?_;rintro e w1 ⟨rfl,hb1⟩;have m0:w1.cell? ⟨w.heap.size,0,none⟩=some (.int .i64 (p:Int)):=(HA.out.mono hb1 lr).cell 0;have m1:w1.cell? ⟨w.heap.size,1,none⟩=some (.int .i64 (-1)):=(HA.out.mono hb1 lr).cell 1;have HT1:Hid (TkAt w1 bt v pa pc ja jc sa sc):=HT0.out.mono hb1 lr)
    | (refine (long97 OK.out p (-1) _ HT1.out hp).mono ?_;rintro e w2 ⟨rfl,hb2⟩;have hc2:=hb1.trans (hb2.mono hb1.size);have n0:w2.cell? ⟨w.heap.size,0,none⟩=some (.int .i64 (p:Int)):=(HA.out.mono hc2 lr).cell 0;have n1:w2.cell? ⟨w.heap.size,1,none⟩=some (.int .i64 (-1)):=(HA.out.mono hc2 lr).cell 1;have BR:=HR.out.mono hc2 lr;have r0:w2.cell? ⟨w.heap.size+1,0,none⟩=some (.int .i64 0):=BR.cell 0;have r1:w2.cell? ⟨w.heap.size+1,1,none⟩=some (.int .i64 0):=BR.cell 1;have r2:w2.cell? ⟨w.heap.size+1,2,none⟩=some (.int .i64 0):=BR.cell 2;have g0:=BR.free 0;have g1:=BR.free 1;have g2:=BR.free 2)))
  all_goals
   go_wp2_with fail
   refine bodyPost_ret (v:=.agg #[.int .i64 p,.int .i64 ((v.P p).ln-b),.int .i64 ((v.P p).ln-a)]) (by simp [results,Tryz.results96,go_sem,r0,r1,r2,show IntKind.i64.wrap ((v.P p).ln-b)=(v.P p).ln-b by rw [IntKind.wrap_i64];omega,show IntKind.i64.wrap ((v.P p).ln-a)=(v.P p).ln-a by rw [IntKind.wrap_i64];omega]) rfl ⟨rfl,?_⟩
   have hB2:=HB.out.trans (hc2.mono HB.out.size)
   have h1:w.heap.size≤w.heap.size+1:=by omega
   exact ((hB2.setCell h1 _).setCell h1 _).setCell h1 _
def nearV (ln:Int)(S:Nat→Pc)(way:Int):Option Nat→Int
 | none=>ln
 | some b=>farI ln (S b).sp way
theorem pickS_new {ln:Int}{S:Nat→Pc}{way:Int}{i:Nat}{o:Option Nat}(h:farI ln (S i).sp way<nearV ln S way o):pickS ln S way i o=some i:=by
 cases o with
 | none=>rfl
 | some b=>simp only [nearV] at h;simp [pickS,h]
theorem pickS_old {ln:Int}{S:Nat→Pc}{way:Int}{i:Nat}{o:Option Nat}(h:¬farI ln (S i).sp way<nearV ln S way o)(hl:farI ln (S i).sp way<ln):pickS ln S way i o=o:=by
 cases o with
 | none=>exact absurd hl h
 | some b=>simp only [nearV] at h;simp [pickS,h]
theorem nextS_skip {ln:Int}{S:Nat→Pc}{p way far:Int}{i:Nat}(h:¬((S i).ln=p∧(S i).br=way∧far<farI ln (S i).sp way)):nextS ln S p way far (i+1)=nextS ln S p way far i:=by
 simp only [nextS,h,if_false]
theorem nextS_take {ln:Int}{S:Nat→Pc}{p way far:Int}{i:Nat}(h:(S i).ln=p∧(S i).br=way∧far<farI ln (S i).sp way):nextS ln S p way far (i+1)=pickS ln S way i (nextS ln S p way far i):=by
 simp only [nextS,h,and_self,if_true]
set_option maxRecDepth 100000 in
set_option maxHeartbeats 4000000 in
theorem next95 {v:Ev}(ok:v.Ok){bt:Nat}{pa:Option Addr}{pc:Nat}{ja:Option Addr}{jc:Nat}{sa:Option Addr}{sc:Nat}(p:Nat)(way here:Int)(w:World)(h:TkAt w bt v pa pc ja jc sa sc)(hp:p<v.n)(_hw:way=1∨way=-1):
 Calls Tryz.prog 95 #[.pointer (some ⟨bt,0,none⟩),.agg #[.int .i64 p,.int .i64 way],.int .i64 here] w fun e w'=>e=.returned (.int .i64 (bestV (nextS (v.P p).ln v.S p way here v.k)))∧Below w.heap.size w w':=by
 have OK:Hid v.Ok:=ok
 have hk1:=ok.k1
 have HT:Hid (TkAt w bt v pa pc ja jc sa sc):=h
 clear h ok
 go_enter Tryz.func95,Tryz.ntmps95
 go_wp2_with fail
 have b0:=bel1 w (.cells #[.int .i64 (p:Int),.int .i64 way] 100)
 refine (long97 OK.out p way _ (HT.out.mono b0 lr) hp).mono ?_
 rintro e w1 ⟨rfl,hb1⟩
 have B1:=b0.trans (hb1.mono b0.size)
 have T1:=HT.out.mono B1 lr
 have A1:=(Box.new w 100 #[.int .i64 (p:Int),.int .i64 way]).mono hb1 lr
 have s1:=T1.s
 have HT1:Hid (TkAt w1 bt v pa pc ja jc sa sc):=T1
 have HA1:Hid (Box w1 w.heap.size 100 #[.int .i64 (p:Int),.int .i64 way]):=A1
 clear b0 hb1 T1 A1
 go_wp2_with fail
 go_loopw [7,8,20] (fun s7 s8 i wr=>∃ q:Nat,q≤v.k∧i=.int .i64 q∧s7=.int .i64 (bestV (nextS (v.P p).ln v.S p way here q))∧s8=.int .i64 (nearV (v.P p).ln v.S way (nextS (v.P p).ln v.S p way here q))∧Below w1.heap.size w1 wr) (fun _ _ i _=>v.k-(intOf i).toNat)
 case atStart=>exact ⟨0,Nat.zero_le _,rfl,rfl,rfl,Below.refl _ _⟩
 case round=>
  obtain ⟨q,hq,rfl,rfl,rfl,hbel⟩:=hrel
  clear s1
  have Br:=B1.trans (hbel.mono B1.size)
  by_cases hlt:q<v.k
  ·obtain ⟨b,off,rfl,_,hb,hc⟩:=(HT1.out.mono hbel lr).net.s (by omega)
   obtain ⟨c0,c1,c2,c3⟩:=hc q hlt
   have x0:wr.cell? ⟨w.heap.size,0,none⟩=some (.int .i64 (p:Int)):=(HA1.out.mono hbel lr).cell 0
   have x1:wr.cell? ⟨w.heap.size,1,none⟩=some (.int .i64 way):=(HA1.out.mono hbel lr).cell 1
   have hxl:=(HA1.out.mono hbel lr).lt
   have hsg:=OK.out.sg q hlt
   have c9:=bel1 wr (.cells #[.string (v.S q).nm,.int .i64 (v.S q).ln,.int .i64 (v.S q).sp,.int .i64 (v.S q).br] 56)
   have hb9:=hbel.trans (c9.mono hbel.size)
   clear hc
   have HSK:Hid (¬((v.S q).ln=p∧(v.S q).br=way∧here<farI (v.P p).ln (v.S q).sp way)→nextS (v.P p).ln v.S p way here (q+1)=nextS (v.P p).ln v.S p way here q):=nextS_skip
   have HTK:Hid ((v.S q).ln=p∧(v.S q).br=way∧here<farI (v.P p).ln (v.S q).sp way→nextS (v.P p).ln v.S p way here (q+1)=pickS (v.P p).ln v.S way q (nextS (v.P p).ln v.S p way here q)):=nextS_take
   by_cases h1:(v.S q).ln=p
   ·have h1':((v.S q).ln == (p:Int))=true:=by simp [h1]
    have h1n:((v.S q).ln != (p:Int))=false:=by simp [h1]
    have hsp:(v.S q).sp≤(v.P p).ln-1:=by have:=hsg.2.2.2.2;rw [h1] at this;simpa using this
    have hln:=OK.out.ln p hp
    by_cases h2:(v.S q).br=way
    ·have h2':((v.S q).br == way)=true:=by simp [h2]
     have h2n:((v.S q).br != way)=false:=by simp [h2]
     have T9:Hid (TkAt (wr.alloc (.cells #[.string (v.S q).nm,.int .i64 (v.S q).ln,.int .i64 (v.S q).sp,.int .i64 (v.S q).br] 56)) bt v pa pc ja jc (some ⟨b,off,none⟩) sc):=HT1.out.mono hb9 lr
     have H1:Hid ((v.S q).ln=p):=h1
     have H2:Hid ((v.S q).br=way):=h2
     clear h1 h2
     go_wp2_with fail
     refine (along68 OK.out p way (v.S q).sp _ T9.out hp (by omega)).mono ?_
     rintro e w2 ⟨rfl,hb2⟩
     have hb12:=hb9.trans (hb2.mono hb9.size)
     have hfl:farI (v.P p).ln (v.S q).sp way<(v.P p).ln:=by
      unfold farI
      split <;> omega
     have HFL:Hid (farI (v.P p).ln (v.S q).sp way<(v.P p).ln):=hfl
     clear c0 c1 c2 c3 x0 x1 T9 hb2 hfl
     by_cases h3:here<farI (v.P p).ln (v.S q).sp way
     ·have HN:=HTK.out ⟨H1.out,H2.out,h3⟩
      by_cases h4:farI (v.P p).ln (v.S q).sp way<nearV (v.P p).ln v.S way (nextS (v.P p).ln v.S p way here q)
      ·rw [pickS_new h4] at HN
       have HN9:Hid (nextS (v.P p).ln v.S p way here (q+1)=some q):=HN
       clear HN HSK HTK
       go_wp2_with fail
       go_roundw
       case rel=>exact ⟨q+1,by omega,by go_num,by rw [HN9.out];rfl,by rw [HN9.out];rfl,hb12⟩
       case measure=>simp [intOf];omega
      ·rw [pickS_old h4 HFL.out] at HN
       have HN9:Hid (nextS (v.P p).ln v.S p way here (q+1)=nextS (v.P p).ln v.S p way here q):=HN
       clear HN HSK HTK
       go_wp2_with fail
       go_roundw
       case rel=>exact ⟨q+1,by omega,by go_num,by rw [HN9.out],by rw [HN9.out],hb12⟩
       case measure=>simp [intOf];omega
     ·have HN9:Hid (nextS (v.P p).ln v.S p way here (q+1)=nextS (v.P p).ln v.S p way here q):=HSK.out fun hh=>h3 hh.2.2
      clear HSK HTK
      go_wp2_with fail
      go_roundw
      case rel=>exact ⟨q+1,by omega,by go_num,by rw [HN9.out],by rw [HN9.out],hb12⟩
      case measure=>simp [intOf];omega
    ·have h2':((v.S q).br == way)=false:=by simp [h2]
     have h2n:((v.S q).br != way)=true:=by simp [h2]
     have HN9:Hid (nextS (v.P p).ln v.S p way here (q+1)=nextS (v.P p).ln v.S p way here q):=HSK.out fun hh=>h2 hh.2.1
     clear HSK HTK h1 h2
     go_wp2_with fail
     go_roundw
     case rel=>exact ⟨q+1,by omega,by go_num,by rw [HN9.out],by rw [HN9.out],hb9⟩
     case measure=>simp [intOf];omega
   ·have h1':((v.S q).ln == (p:Int))=false:=by simp [h1]
    have h1n:((v.S q).ln != (p:Int))=true:=by simp [h1]
    have HN9:Hid (nextS (v.P p).ln v.S p way here (q+1)=nextS (v.P p).ln v.S p way here q):=HSK.out fun hh=>h1 hh.1
    clear HSK HTK h1
    go_wp2_with fail
    go_roundw
    case rel=>exact ⟨q+1,by omega,by go_num,by rw [HN9.out],by rw [HN9.out],hb9⟩
    case measure=>simp [intOf];omega
  ·obtain hqk:q=v.k:=by omega
   have HV:Hid (bestV (nextS (v.P p).ln v.S p way here q)=bestV (nextS (v.P p).ln v.S p way here v.k)):=by show _=_;rw [hqk]
   go_wp2_with fail
   go_ret
   exact ⟨by rw [← HV.out];rfl,Br⟩
end Go.Proofs.YtkhaehpobpkkiaaGreat
