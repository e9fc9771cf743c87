import Derived.Test.YtkhaehpobpkkiaaGreatR9a
import Derived.Test.YtkhaehpobpkkiaaGreatR9c
import Derived.Test.YtkhaehpobpkkiaaGreatR9d
import Derived.Test.YtkhaehpobpkkiaaGreatR9e
import Derived.Test.YtkhaehpobpkkiaaGreatR9f
import Derived.Test.YtkhaehpobpkkiaaGreatR9g
import Derived.Test.YtkhaehpobpkkiaaGreatPb
import Derived.Test.YtkhaehpobpkkiaaGreatNa
namespace Go.Proofs.YtkhaehpobpkkiaaGreat
open Go.RowKit
theorem walkS {v:Ev}(ok:v.Ok){w0:World}{pa:Option Addr}{pc:Nat}{ja:Option Addr}{jc:Nat}{sa:Option Addr}{sc:Nat}(hN:NetIn w0 v pa ja sa){bf:Nat}(hbf:w0.heap.size≤bf){fr:Int}{f:Nat}(hfm:f≤1000)(ih:WalkC v w0 pa pc ja jc sa sc bf fr f):WalkC v w0 pa pc ja jc sa sc bf fr (f+1):=by
 intro out seen tries rs t sv lv xv qv p way far w hB hb ho hr3 htr ht hok hp hway hf0 hf1 hfu
 by_cases h1:nextS (v.P p).ln v.S p way far v.k=none
 ·by_cases h2:[(p:Int),way] ∈ t.st
  ·exact walkSb ok hN hbf hfm ih out seen tries rs t sv lv xv qv p way far w hB hb ho hr3 htr ht hok hp hway hf0 hf1 hfu ⟨h1,h2⟩
  ·obtain ⟨j,q,hat,_,hjm,_,_,hk1,hk2,_⟩:=ok.there (headE_ok p way).1 (by rw [(headE_ok p way).2.1];omega) (headE_ok p way).2.2
   have hK:∀ K:Int→Nat→Prop,K (v.J j).kd q→cKd v K t p way far:=fun K h=>⟨h1,h2,by rw [hat];exact h⟩
   rcases (show (v.J j).kd=1∨(v.J j).kd=2∨(v.J j).kd=4∨(v.J j).kd=3 by omega) with h | h | h | h
   ·exact walkSc ok hN hbf hfm ih out seen tries rs t sv lv xv qv p way far w hB hb ho hr3 htr ht hok hp hway hf0 hf1 hfu (hK k1 h)
   ·exact walkSd ok hN hbf hfm ih out seen tries rs t sv lv xv qv p way far w hB hb ho hr3 htr ht hok hp hway hf0 hf1 hfu (hK k2 h)
   ·exact walkSe ok hN hbf hfm ih out seen tries rs t sv lv xv qv p way far w hB hb ho hr3 htr ht hok hp hway hf0 hf1 hfu (hK k4 h)
   ·by_cases hq:q=0
    ·exact walkSf ok hN hbf hfm ih out seen tries rs t sv lv xv qv p way far w hB hb ho hr3 htr ht hok hp hway hf0 hf1 hfu (hK k30 ⟨h,hq⟩)
    ·exact walkSg ok hN hbf hfm ih out seen tries rs t sv lv xv qv p way far w hB hb ho hr3 htr ht hok hp hway hf0 hf1 hfu (hK k3q ⟨h,hq⟩)
 ·exact walkSa ok hN hbf hfm ih out seen tries rs t sv lv xv qv p way far w hB hb ho hr3 htr ht hok hp hway hf0 hf1 hfu h1
theorem walk22 {v:Ev}(ok:v.Ok){w0:World}{pa:Option Addr}{pc:Nat}{ja:Option Addr}{jc:Nat}{sa:Option Addr}{sc:Nat}(hN:NetIn w0 v pa ja sa){bf:Nat}(hbf:w0.heap.size≤bf){fr:Int}(f:Nat)(hf:f≤1001):WalkC v w0 pa pc ja jc sa sc bf fr f:=by
 induction f with
 | zero=>
  intro out seen tries rs t sv lv xv qv p way far w _ _ _ _ _ _ hok _ _ _ _ hfu
  have:=hok.st.len
  omega
 | succ f ih=>exact walkS ok hN hbf (by omega) (ih (by omega))
def routesF (v:Ev):List RtM:=if (v.all v.k).length≤20000∧(routesOf (v.all v.k)).length≤300 then routesOf (v.all v.k) else []
theorem OutAt.lower {B B':Nat}{w:World}{v:Value}{rs:List RtM}(h:OutAt B w v rs)(hb:B'≤B):OutAt B' w v rs:=by
 obtain ⟨rows,h1,h2,h3⟩:=h
 refine ⟨rows,h1,ownsRow_lower h2 hb,fun i r hr=>?_⟩
 obtain ⟨row,sv,lv,xv,qv,ov,fv,k1,k2⟩:=h3 i r hr
 exact ⟨row,sv,lv,xv,qv,ov,fv,k1,⟨k2.row,k2.s.keep hb fun _ _=>rfl,k2.l.keep hb fun _ _=>rfl,k2.x.keep hb fun _ _=>rfl,k2.q.keep hb fun _ _=>rfl,k2.o.keep hb fun _ _=>rfl,k2.f.keep hb fun _ _=>rfl⟩⟩
set_option maxHeartbeats 1000000 in
theorem routes6_bad (pa:Option Addr)(n pc:Nat)(P:Nat→Pc)(ja:Option Addr)(m jc:Nat)(J:Nat→Jt)(sa:Option Addr)(k sc:Nat)(S:Nat→Pc)(ov:Int)(w:World)(hn:n≤1048576)(hm:m≤1048576)
 (hP:PsAt 0 w pa n P) (hJ:JsAt 0 w ja m J) (hps:∀ i,i<n→(P i).nm.size≤maxLen) (hjs:∀ i,i<m→(J i).ne≤1048576∧(J i).nm.size≤maxLen)
 (hk:k≤1048576) (hS:PsAt 0 w sa k S) (hss:∀ i,i<k→(S i).nm.size≤maxLen) (hbad:¬(sigF n P m J k S).1=0∨¬(0≤ov∧ov≤100000)):
 Calls Tryz.prog 6 #[.agg #[.slice pa n pc,.slice ja m jc],.slice sa k sc,.int .i64 ov] w fun r w'=>r=.returned (.slice none 0 0)∧Below w.heap.size w w':=by
 have C:=l11all20 pa n pc P ja m jc J sa k sc S (w.alloc (.cells #[.slice pa n pc,.slice ja m jc] 34)) hn hm (hP.mono lr (bel1 w _) lr) (hJ.mono lr (bel1 w _) lr) hps hjs hk (hS.mono lr (bel1 w _) lr) hss
 have HC:Hid (Calls Tryz.prog 20 _ _ _):=C
 clear C hP hJ hS hps hjs hss
 by_cases h1:(sigF n P m J k S).1=0
 ·have h2:inB ov 0 100000=false:=by
   rcases hbad with h | h
   ·exact absurd h1 h
   ·simp only [inB]
    by_cases h3:0≤ov
    ·have:¬ov≤100000:=fun h4=>h ⟨h3,h4⟩
     simp [this]
    ·simp [h3]
  have h1':((sigF n P m J k S).1 == 0)=true:=by simp [h1]
  clear hbad h1
  go_enter Tryz.func6,Tryz.ntmps6
  go_wp2_with fail
  refine HC.out.mono ?_
  rintro e w1 ⟨rfl,hb1⟩
  clear HC
  have B1:=(bel1 w (.cells #[.slice pa n pc,.slice ja m jc] 34)).trans (hb1.mono (by simp))
  go_wp2_with (go_at_call 21;refine (in19 ov 0 100000 _).mono ?_;rintro e w2 ⟨rfl,rfl⟩)
  go_ret
  exact ⟨rfl,B1⟩
 ·have h1':((sigF n P m J k S).1 == 0)=false:=by simp [h1]
  clear hbad h1
  go_enter Tryz.func6,Tryz.ntmps6
  go_wp2_with fail
  refine HC.out.mono ?_
  rintro e w1 ⟨rfl,hb1⟩
  clear HC
  have B1:=(bel1 w (.cells #[.slice pa n pc,.slice ja m jc] 34)).trans (hb1.mono (by simp))
  go_wp2_with fail
  go_ret
  exact ⟨rfl,B1⟩
structure RtS (v:Ev)(w1:World)(pa:Option Addr)(pc:Nat)(ja:Option Addr)(jc:Nat)(sa:Option Addr)(sc:Nat)(i:Nat)(out seen:Value)(tk:Nat)(rs:List RtM)(wx:World):Prop where
 bel:Below w1.heap.size w1 wx
 bx:Box wx w1.heap.size 55 (fBox v pa pc ja jc sa sc out tk seen)
 ob:OutAt w1.heap.size wx out rs
 rl:rs.length≤301
 res:Res 0 [] (v.all i) tk rs
theorem RtS.mono {v:Ev}{w1:World}{pa:Option Addr}{pc:Nat}{ja:Option Addr}{jc:Nat}{sa:Option Addr}{sc:Nat}{i:Nat}{out seen:Value}{tk:Nat}{rs:List RtM}{wx wy:World}(h:RtS v w1 pa pc ja jc sa sc i out seen tk rs wx)(hb:Below wx.heap.size wx wy):RtS v w1 pa pc ja jc sa sc i out seen tk rs wy:=
 ⟨h.bel.trans (hb.mono h.bel.size),h.bx.mono hb lr,h.ob.mono hb,h.rl,h.res⟩
theorem RtS.next {v:Ev}{w1:World}{pa:Option Addr}{pc:Nat}{ja:Option Addr}{jc:Nat}{sa:Option Addr}{sc:Nat}{i:Nat}{out seen:Value}{tk:Nat}{rs:List RtM}{wx wy:World}{e:Ending}(h:RtS v w1 pa pc ja jc sa sc i out seen tk rs wx)
 (hp:WalkP v w1 pa pc ja jc sa sc w1.heap.size i (2*v.n+1) out tk rs ⟨[],[],[],[]⟩ (v.S i).ln.toNat (v.S i).br (farI (v.P (v.S i).ln.toNat).ln (v.S i).sp (v.S i).br) wx e wy):
 e=.returned (.tuple #[])∧∃ out' seen' tk' rs',RtS v w1 pa pc ja jc sa sc (i+1) out' seen' tk' rs' wy∧tk'≤bnd tk (2*v.n+1)∧Fr (fun k=>k=w1.heap.size∨out.ownBlock=some k) wx wy:=by
 obtain ⟨rfl,o1,s1,t1,r1,g1,g2,g3,g4,g5,g6,g7⟩:=hp
 refine ⟨rfl,o1,s1,t1,r1,⟨h.bel.trans (g3.below h.bel.size fun k hk y=>?_),g1,g2,g5,h.res.app g7⟩,g6,g3⟩
 rcases y with y | y
 ·omega
 ·have:=(h.ob.block y).1;omega
set_option maxRecDepth 100000 in
set_option maxHeartbeats 4000000 in
theorem routes6_ok (pa:Option Addr)(pc:Nat)(ja:Option Addr)(jc:Nat)(sa:Option Addr)(sc:Nat)(v:Ev)(ok:v.Ok)(w:World)(hz:(sigF v.n v.P v.m v.J v.k v.S).1=0)
 (hP:PsAt 0 w pa v.n v.P) (hJ:JsAt 0 w ja v.m v.J) (hps:∀ i,i<v.n→(v.P i).nm.size≤maxLen) (hjs:∀ i,i<v.m→(v.J i).ne≤1048576∧(v.J i).nm.size≤maxLen)
 (hS:PsAt 0 w sa v.k v.S) (hss:∀ i,i<v.k→(v.S i).nm.size≤maxLen):
 Calls Tryz.prog 6 #[.agg #[.slice pa v.n pc,.slice ja v.m jc],.slice sa v.k sc,.int .i64 v.ov] w fun r w'=>∃ out,r=.returned out∧OutAt w.heap.size w' out (routesF v)∧Below w.heap.size w w':=by
 have hn1:=ok.n1
 have hm1:=ok.m1
 have hk1:=ok.k1
 have C:=l11all20 pa v.n pc v.P ja v.m jc v.J sa v.k sc v.S (w.alloc (.cells #[.slice pa v.n pc,.slice ja v.m jc] 34)) (by omega) (by omega) (hP.mono lr (bel1 w _) lr) (hJ.mono lr (bel1 w _) lr) hps hjs (by omega) (hS.mono lr (bel1 w _) lr) hss
 have HC:Hid (Calls Tryz.prog 20 _ _ _):=C
 have HN0:Hid (NetIn w v pa ja sa):=⟨hP,hJ,hS⟩
 have OK:Hid v.Ok:=ok
 have h2:inB v.ov 0 100000=true:=by
  have a:=ok.o0
  have b:=ok.o1
  simp [inB,a,b]
 have h1':((sigF v.n v.P v.m v.J v.k v.S).1 == 0)=true:=by simp [hz]
 clear C hP hJ hS hps hjs hss hz ok
 go_enter Tryz.func6,Tryz.ntmps6
 go_wp2_with fail
 refine HC.out.mono ?_
 rintro e w1 ⟨rfl,hb1⟩
 clear HC
 have B1:Below w.heap.size w w1:=(bel1 w (.cells #[.slice pa v.n pc,.slice ja v.m jc] 34)).trans (hb1.mono (by simp))
 have nb:Box w1 w.heap.size 34 #[.slice pa v.n pc,.slice ja v.m jc]:=(Box.new w 34 _).mono hb1 lr
 have HN:Hid (NetIn w1 v pa ja sa):=HN0.out.mono B1 lr
 have n0:w1.cell? ⟨w.heap.size,0,none⟩=some (.slice pa v.n pc):=nb.cell 0
 have n1:w1.cell? ⟨w.heap.size,1,none⟩=some (.slice ja v.m jc):=nb.cell 1
 have zn:=nb.lt
 have z1:=B1.size
 have RT0:Hid (RtS v w1 pa pc ja jc sa sc 0 (.slice none 0 0) (.slice none 0 0) 0 [] (w1.alloc (.cells (fBox v pa pc ja jc sa sc (.slice none 0 0) 0 (.slice none 0 0)) 55))):=⟨bel1 w1 _,Box.new w1 55 _,OutAt.nil _ _,by simp,Res.nil' _ _⟩
 have HNB:Hid (Box w1 w.heap.size 34 #[.slice pa v.n pc,.slice ja v.m jc]):=nb
 clear hb1 HN0 nb
 go_wp2_with (go_at_call 21;refine (in19 v.ov 0 100000 _).mono ?_;rintro e w1 ⟨rfl,rfl⟩)
 go_loopw [26] (fun i wr=>∃ (q:Nat) (out seen:Value) (tk:Nat) (rs:List RtM),q≤v.k∧i=.int .i64 q∧Hid (RtS v w1 pa pc ja jc sa sc q out seen tk rs wr)∧tk≤20300+q) (fun i _=>v.k-(intOf i).toNat)
 case atStart=>exact ⟨0,_,_,_,_,Nat.zero_le _,rfl,RT0,by omega⟩
 case round=>
  obtain ⟨q,out,seen,tk,rs,hq,rfl,RT,htk⟩:=hrel
  have zr:=RT.out.bel.size
  by_cases hlt:q<v.k
  ·obtain ⟨b,off,hsa,_,hb,hc⟩:=HN.out.s (by omega)
   obtain ⟨d0',d1',d2',d3'⟩:=hc q hlt
   subst hsa
   have d0:=(RT.out.bel.cell (p:=⟨b,off+q*4,none⟩) hb).trans d0'
   have d1:=(RT.out.bel.cell (p:=⟨b,off+q*4+1,none⟩) hb).trans d1'
   have d2:=(RT.out.bel.cell (p:=⟨b,off+q*4+2,none⟩) hb).trans d2'
   have d3:=(RT.out.bel.cell (p:=⟨b,off+q*4+3,none⟩) hb).trans d3'
   clear hc d0' d1' d2' d3'
   obtain ⟨sg1,sg2,sg3,sg4,sg5⟩:=OK.out.sg q hlt
   obtain ⟨sp,hsp⟩:∃ sp:Nat,(v.S q).ln=(sp:Int):=⟨(v.S q).ln.toNat,by omega⟩
   have hspn:(v.S q).ln.toNat=sp:=by omega
   have hspl:sp<v.n:=by omega
   have hln:=OK.out.ln sp hspl
   rw [hspn] at sg5
   rw [hsp] at d1
   have RA:Hid (RtS v w1 pa pc ja jc (some ⟨b,off,none⟩) sc q out seen tk rs (wr.alloc (.cells #[.string (v.S q).nm,.int .i64 sp,.int .i64 (v.S q).sp,.int .i64 (v.S q).br] 56))):=RT.out.mono (bel1 wr _)
   have NB:Hid (Box (wr.alloc (.cells #[.string (v.S q).nm,.int .i64 sp,.int .i64 (v.S q).sp,.int .i64 (v.S q).br] 56)) w.heap.size 34 #[.slice pa v.n pc,.slice ja v.m jc]):=(HNB.out.keep (RT.out.bel.block w.heap.size zn)).alloc _
   have SB:Hid (Box (wr.alloc (.cells #[.string (v.S q).nm,.int .i64 sp,.int .i64 (v.S q).sp,.int .i64 (v.S q).br] 56)) wr.heap.size 56 #[.string (v.S q).nm,.int .i64 sp,.int .i64 (v.S q).sp,.int .i64 (v.S q).br]):=Box.new wr 56 _
   have hfa:farI (v.P sp).ln (v.S q).sp (v.S q).br<(v.P sp).ln∧0≤farI (v.P sp).ln (v.S q).sp (v.S q).br:=by
    unfold farI
    split <;> omega
   have HSP:Hid ((v.S q).ln.toNat=sp):=hspn
   clear hsp hspn
   go_wp2_with fail
   generalize wr.alloc (.cells #[.string (v.S q).nm,.int .i64 sp,.int .i64 (v.S q).sp,.int .i64 (v.S q).br] 56)=wa at *
   have x0:wa.cell? ⟨w.heap.size,0,none⟩=some (.slice pa v.n pc):=NB.out.cell 0
   have x1:wa.cell? ⟨w.heap.size,1,none⟩=some (.slice ja v.m jc):=NB.out.cell 1
   have y1:wa.cell? ⟨wr.heap.size,1,none⟩=some (.int .i64 sp):=SB.out.cell 1
   have y2:wa.cell? ⟨wr.heap.size,2,none⟩=some (.int .i64 (v.S q).sp):=SB.out.cell 2
   have y3:wa.cell? ⟨wr.heap.size,3,none⟩=some (.int .i64 (v.S q).br):=SB.out.cell 3
   have T0:=NB.out.lt
   have T1:=SB.out.lt
   have hPa:PsAt 0 wa.drew pa v.n v.P:=HN.out.p.mono lr RA.out.bel.drew lr
   have HOL:Hid (∀ g,out.ownBlock=some g→g<wr.heap.size∧w1.heap.size≤g):=fun g hg=>⟨RT.out.ob.lt hg,(RT.out.ob.block hg).1⟩
   have zbx:w1.heap.size<wr.heap.size:=RT.out.bx.lt
   clear RT d0 d1 d2 d3
   go_region_held3 (fun w'=>w'.cell? ⟨w.heap.size,0,none⟩=some (.slice pa v.n pc)∧w'.cell? ⟨w.heap.size,1,none⟩=some (.slice ja v.m jc)∧w'.cell? ⟨wr.heap.size,1,none⟩=some (.int .i64 sp)∧w'.cell? ⟨wr.heap.size,2,none⟩=some (.int .i64 (v.S q).sp)∧w'.cell? ⟨wr.heap.size,3,none⟩=some (.int .i64 (v.S q).br)) (go_keep) (first | (go_at_call 23;refine (l12far47 pa v.n pc v.P ja v.m jc sp (v.S q).sp (v.S q).br _ (by omega) hspl hPa hln (by omega)).mono ?_;rintro e w7 ⟨rfl,hb7⟩;have k0:=(hb7.cell (p:=⟨w.heap.size,0,none⟩) T0).trans x0;have k1:=(hb7.cell (p:=⟨w.heap.size,1,none⟩) T0).trans x1;have k2:=(hb7.cell (p:=⟨wr.heap.size,1,none⟩) T1).trans y1;have k3:=(hb7.cell (p:=⟨wr.heap.size,2,none⟩) T1).trans y2;have k4:=(hb7.cell (p:=⟨wr.heap.size,3,none⟩) T1).trans y3;have R7:=RA.out.mono ((Below.refl wa.heap.size wa).drew.trans hb7)) | (go_at_call 22;refine (walk22 OK.out HN.out lr (fr:=(q:Int)) (2*v.n+1) (by omega) out seen tk rs ⟨[],[],[],[]⟩ (.slice none 0 0) (.slice none 0 0) (.slice none 0 0) (.slice none 0 0) sp (v.S q).br (farI (v.P sp).ln (v.S q).sp (v.S q).br) w7 R7.bel R7.bx R7.ob R7.rl (by omega) ⟨Own.nil _ _ _ _,Own.nil _ _ _ _,Own.nil _ _ _ _,Own.nil _ _ _ _⟩ ⟨Once.nil _ _ _,fun r hr=>absurd hr List.not_mem_nil,Nat.le_refl _,Nat.le_refl _,Nat.le_refl _⟩ hspl sg3 hfa.2 hfa.1 (by simp)).mono ?_;intro e w8 P8;obtain ⟨rfl,o8,s8,t8,r8,R8,hbn,F8⟩:=R7.next (by rw [HSP.out];exact P8);have k0:=(World.cell?_of_block (w:=w7) (a:=⟨w.heap.size,0,none⟩) (F8.block w.heap.size (by have:=hb7.size;have:w.heap.size<wa.drew.heap.size:=T0;omega) (fun y=>y.elim (fun y=>by omega) (fun y=>by have:=(HOL.out _ y).2;omega)))).trans k0;have k1:=(World.cell?_of_block (w:=w7) (a:=⟨w.heap.size,1,none⟩) (F8.block w.heap.size (by have:=hb7.size;have:w.heap.size<wa.drew.heap.size:=T0;omega) (fun y=>y.elim (fun y=>by omega) (fun y=>by have:=(HOL.out _ y).2;omega)))).trans k1;have hs8:=F8.block wr.heap.size (by have:=hb7.size;have:wr.heap.size<wa.drew.heap.size:=T1;omega) (fun y=>y.elim (fun y=>by omega) (fun y=>by have:=(HOL.out _ y).1;omega));have k2:=(World.cell?_of_block (w:=w7) (a:=⟨wr.heap.size,1,none⟩) hs8).trans k2;have k3:=(World.cell?_of_block (w:=w7) (a:=⟨wr.heap.size,2,none⟩) hs8).trans k3;have k4:=(World.cell?_of_block (w:=w7) (a:=⟨wr.heap.size,3,none⟩) hs8).trans k4))
   have R9:Hid (RtS v w1 pa pc ja jc (some ⟨b,off,none⟩) sc (q+1) o8 s8 t8 r8 w8):=R8
   have htk2:t8≤20300+(q+1):=by
    unfold bnd at hbn
    split at hbn <;> omega
   clear R8 k0 k1 k2 k3 k4 F8 P8 hbn hs8
   go_wp2_with fail
   go_roundw
   case rel=>exact ⟨q+1,o8,s8,t8,r8,by omega,by go_num,R9,htk2⟩
   case measure=>simp [intOf];omega
  ·obtain rfl:q=v.k:=by omega
   obtain ⟨au,cu,hv⟩:=RT.out.ob.val
   subst hv
   have m4:wr.cell? ⟨w1.heap.size,4,none⟩=some (.slice au rs.length cu):=RT.out.bx.cell 4
   have m5:wr.cell? ⟨w1.heap.size,5,none⟩=some (.int .i64 tk):=RT.out.bx.cell 5
   have RES:=RT.out.res
   have BW:Below w.heap.size w wr:=B1.trans (RT.out.bel.mono z1)
   have OB:OutAt w.heap.size wr (.slice au rs.length cu) rs:=RT.out.ob.lower z1
   by_cases hfit:(v.all v.k).length≤20000∧(routesOf (v.all v.k)).length≤300
   ·obtain ⟨e1,e2⟩:=RES.fit (by omega) (by simp;omega)
    have HF:Hid (routesF v=rs):=by
     show routesF v=rs
     rw [routesF,if_pos hfit,e2]
     simp
    have h3:decide ((300:Int)<(rs.length:Int))=false:=by
     rw [e2]
     simp
     omega
    have h4:decide ((20000:Int)<(tk:Int))=false:=by simp;omega
    have HOB:Hid (OutAt w.heap.size wr (.slice au rs.length cu) rs):=OB
    clear hfit e1 e2 RES OB
    go_wp2_with fail
    go_ret
    exact ⟨_,rfl,by rw [HF.out];exact HOB.out,BW⟩
   ·have hov:=RES.over (fun h=>hfit ⟨by omega,by have:=h.2;simp at this;omega⟩)
    have HF:Hid (routesF v=[]):=by
     show routesF v=[]
     rw [routesF,if_neg hfit]
    clear hfit RES OB
    by_cases h3:300<rs.length
    ·have h3':decide ((300:Int)<(rs.length:Int))=true:=by simp;omega
     clear hov
     go_wp2_with fail
     go_ret
     exact ⟨_,rfl,by rw [HF.out];exact OutAt.nil _ _,BW⟩
    ·have h3':decide ((300:Int)<(rs.length:Int))=false:=by simp;omega
     have h4:decide ((20000:Int)<(tk:Int))=true:=by simp;omega
     clear hov
     go_wp2_with fail
     go_ret
     exact ⟨_,rfl,by rw [HF.out];exact OutAt.nil _ _,BW⟩
end Go.Proofs.YtkhaehpobpkkiaaGreat
