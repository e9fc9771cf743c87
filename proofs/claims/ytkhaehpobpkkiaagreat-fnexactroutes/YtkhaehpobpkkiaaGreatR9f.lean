import Derived.Deep.RegionLaw
import Derived.BigQuiet
import Derived.Deep.CutRange
import Derived.Test.YtkhaehpobpkkiaaGreatNc
namespace Go.Proofs.YtkhaehpobpkkiaaGreat
open Go.RowKit
set_option maxRecDepth 100000 in
set_option maxHeartbeats 60000000 in
theorem walkSf {v:Ev}(ok:v.Ok){w0:World}{pa:Option Addr}{pc:Nat}{ja:Option Addr}{jc:Nat}{sa:Option Addr}{sc:Nat}(hN:NetIn w0 v pa ja sa){bf:Nat}(hbf:w0.heap.size≤bf){fr:Int}{f:Nat}(hfm:f≤1000)(ih:WalkC v w0 pa pc ja jc sa sc bf fr f):WalkD v w0 pa pc ja jc sa sc bf (cKd v k30) fr (f+1):=by
 intro out seen tries rs t sv lv xv qv p way far w hB hb ho hr3 htr ht hok hp hway hf0 hf1 hfu hCs
 obtain ⟨as1,cs1,hv⟩:=ht.s.val
 subst hv
 obtain ⟨al,cl,hv⟩:=ht.l.val
 subst hv
 obtain ⟨ax,cx,hv⟩:=ht.x.val
 subst hv
 obtain ⟨aq,cq,hv⟩:=ht.q.val
 subst hv
 obtain ⟨au,cu,hv⟩:=ho.val
 subst hv
 obtain ⟨as2,cs2,hv,hNs⟩:=ht.s.ls.val
 simp only [Value.slice.injEq] at hv
 obtain ⟨rfl,_,rfl⟩:=hv
 obtain ⟨i1,e11,e12,e13,e14⟩:=info_parts infoStep
 obtain ⟨i3,e31,e32,e33,e34⟩:=info_parts infoInt
 obtain ⟨i4,e41,e42,e43,e44⟩:=info_parts infoPart
 have hn1:=ok.n1
 have hm1:=ok.m1
 have hk1:=ok.k1
 have hln:=ok.ln p hp
 have hsl:=hok.st.len
 have hll:=hok.ll
 have hcl:=hok.cl
 have hpl:=hok.pl
 have hbl:=hb.lt
 have hw0:=hB.size
 have m4:w.cell? ⟨bf,4,none⟩=some (.slice au rs.length cu):=hb.cell 4
 have m5:w.cell? ⟨bf,5,none⟩=some (.int .i64 tries):=hb.cell 5
 have n5:=hb.free 5
 have m4':∀ o u,((w.setCell ⟨bf,5,none⟩ u).alloc o).cell? ⟨bf,4,none⟩=some (.slice au rs.length cu):=fun o u=>((hb.set 5 u).alloc o).cell 4
 have HB:Hid (Below w0.heap.size w0 w):=hB
 have HX:Hid (Box w bf 55 (fBox v pa pc ja jc sa sc (.slice au rs.length cu) tries seen)):=hb
 have HO:Hid (OutAt w0.heap.size w (.slice au rs.length cu) rs):=ho
 have HT:Hid (TlIn w0.heap.size w t (.slice as1 t.st.length cs1) (.slice al t.li.length cl) (.slice ax t.cr.length cx) (.slice aq t.pa.length cq)):=ht
 have HK:Hid (TlOk v t):=hok
 have HN:Hid (NetIn w0 v pa ja sa):=hN
 have OK:Hid v.Ok:=ok
 have IH:Hid (WalkC v w0 pa pc ja jc sa sc bf fr f):=ih
 have HCs:Hid (cKd v k30 t p way far):=hCs
 clear hB hb ho ht hok hN ok ih hCs
 by_cases hx:300<rs.length∨20000<tries+1
 ·have HRS:Hid (Res tries rs (v.walk fr (f+1) t p way far) (tries+1) rs):=Res.stop (walk_pos v fr f t p way far) hx
  have FIN:=walk_stop (fr:=fr) (f:=f) (t:=t) (p:=p) (way:=way) (far:=far) HX.out HO.out hbf hr3 HRS.out (.cells #[.int .i64 fr,.int .i64 0,.slice as1 t.st.length cs1,.slice al t.li.length cl,.slice ax t.cr.length cx,.slice aq t.pa.length cq,.slice none 0 0,.slice none 0 0] 64)
  have HFIN:Hid (WalkP v w0 pa pc ja jc sa sc bf fr (f+1) (.slice au rs.length cu) tries rs t p way far w (.returned (.tuple #[])) _):=FIN
  clear FIN HRS
  by_cases h3:300<rs.length
  ·have h3':decide ((300:Int)<(rs.length:Int))=true:=by simp;omega
   clear hx
   go_enter Tryz.func22,Tryz.ntmps22
   go_wp2_with fail
   refine bodyPost_ret (results_none rfl _ _ _) rfl ?_
   exact HFIN.out
  ·have h3':decide ((300:Int)<(rs.length:Int))=false:=by simp;omega
   have h4':decide ((20000:Int)<(tries:Int)+1)=true:=by simp;omega
   clear hx
   go_enter Tryz.func22,Tryz.ntmps22
   go_wp2_with fail
   refine bodyPost_ret (results_none rfl _ _ _) rfl ?_
   exact HFIN.out
 ·have h3':decide ((300:Int)<(rs.length:Int))=false:=by simp;omega
  have h4':decide ((20000:Int)<(tries:Int)+1)=false:=by simp;omega
  have hR:rs.length≤300:=by omega
  have hT:tries+1≤20000:=by omega
  clear hx
  have WI:=walk_in HB.out HX.out HT.out hbf (.int .i64 fr) (.int .i64 0) (.slice none 0 0) (.slice none 0 0)
  go_enter Tryz.func22,Tryz.ntmps22
  go_wp2_with fail
  have WI1:Hid (WkS v w0 pa pc ja jc sa sc bf (.slice au rs.length cu) w w0.heap.size t (tries+1) seen #[.int .i64 fr,.int .i64 0,.slice as1 t.st.length cs1,.slice al t.li.length cl,.slice ax t.cr.length cx,.slice aq t.pa.length cq,.slice none 0 0,.slice none 0 0] (.slice as1 t.st.length cs1) (.slice al t.li.length cl) (.slice ax t.cr.length cx) (.slice aq t.pa.length cq) _):=WI
  clear WI
  generalize (w.setCell ⟨bf,5,none⟩ (.int .i64 ((tries:Int)+1))).alloc (.cells #[.int .i64 fr,.int .i64 0,.slice as1 t.st.length cs1,.slice al t.li.length cl,.slice ax t.cr.length cx,.slice aq t.pa.length cq,.slice none 0 0,.slice none 0 0] 64)=wa at *
  have hNa:NsAt 2 w0.heap.size wa as1 t.st.length (fnL t.st):=by
   obtain ⟨a9,c9,h9,hN9⟩:=WI1.out.tl.s.ls.val
   simp only [Value.slice.injEq] at h9
   obtain ⟨rfl,_,rfl⟩:=h9
   exact hN9
  have HW2:Hid (Wide 2 t.st):=WI1.out.tl.s.1
  clear hNs
  go_loopw [10,46] (fun b i wr=>∃ k:Nat,k≤t.st.length∧i=.int .i64 k∧b=.bool (decide ([(p:Int),way] ∈ t.st.take k))∧Below wa.heap.size wa wr) (fun _ i _=>t.st.length-(intOf i).toNat)
  case atStart=>exact ⟨0,Nat.zero_le _,rfl,by simp,Below.refl _ _⟩
  case round=>
   obtain ⟨k,hk,rfl,rfl,hbel⟩:=hrel
   by_cases hlt:k<t.st.length
   ·obtain ⟨b,off,rfl,_,hb,hc⟩:=(hNa.mono zl hbel lr) (by omega)
    have c0:wr.cell? ⟨b,off+k*2,none⟩=some (.int .i64 (fnL t.st k 0)):=hc k hlt 0 (by omega)
    have c1:wr.cell? ⟨b,off+k*2+1,none⟩=some (.int .i64 (fnL t.st k 1)):=hc k hlt 1 (by omega)
    have HM:Hid (decide ([(p:Int),way] ∈ t.st.take (k+1))=(decide ([(p:Int),way] ∈ t.st.take k) || (fnL t.st k 0 == (p:Int) && fnL t.st k 1 == way))):=take_mem HW2.out hlt
    clear hc
    have hBa:=hbel.alloc hbel.size (.cells #[.int .i64 (fnL t.st k 0),.int .i64 (fnL t.st k 1)] 100)
    generalize decide ([(p:Int),way] ∈ t.st.take k)=bk at *
    rcases bk with _ | _
    ·by_cases h1:fnL t.st k 0=(p:Int)
     ·have h1':(fnL t.st k 0 == (p:Int))=true:=by simp [h1]
      rw [h1'] at HM
      clear h1
      by_cases h2:fnL t.st k 1=way
      ·have h2':(fnL t.st k 1 == way)=true:=by simp [h2]
       rw [h2'] at HM
       clear h2
       go_wp2_with fail
       go_roundw
       case rel=>exact ⟨k+1,by omega,by go_num,by rw [HM.out];rfl,hBa⟩
       case measure=>simp [intOf];omega
      ·have h2':(fnL t.st k 1 == way)=false:=by simp [h2]
       rw [h2'] at HM
       clear h2
       go_wp2_with fail
       go_roundw
       case rel=>exact ⟨k+1,by omega,by go_num,by rw [HM.out];rfl,hBa⟩
       case measure=>simp [intOf];omega
     ·have h1':(fnL t.st k 0 == (p:Int))=false:=by simp [h1]
      rw [h1'] at HM
      clear h1
      go_wp2_with fail
      go_roundw
      case rel=>exact ⟨k+1,by omega,by go_num,by rw [HM.out];rfl,hBa⟩
      case measure=>simp [intOf];omega
    ·go_wp2_with fail
     go_roundw
     case rel=>exact ⟨k+1,by omega,by go_num,by rw [HM.out];rfl,hBa⟩
     case measure=>simp [intOf];omega
   ·obtain rfl:k=t.st.length:=by omega
    rw [List.take_length]
    have WI2:Hid (WkS v w0 pa pc ja jc sa sc bf (.slice au rs.length cu) w w0.heap.size t (tries+1) seen #[.int .i64 fr,.int .i64 0,.slice as1 t.st.length cs1,.slice al t.li.length cl,.slice ax t.cr.length cx,.slice aq t.pa.length cq,.slice none 0 0,.slice none 0 0] (.slice as1 t.st.length cs1) (.slice al t.li.length cl) (.slice ax t.cr.length cx) (.slice aq t.pa.length cq) wr):=WI1.out.mono hbel
    clear hNa hbel WI1 HW2
    have z2:=WI2.out.bel.size
    have zf2:=WI2.out.fr.size
    have q0:wr.cell? ⟨w.heap.size,0,none⟩=some (.int .i64 fr):=WI2.out.rt.cell 0
    have q1:wr.cell? ⟨w.heap.size,1,none⟩=some (.int .i64 0):=WI2.out.rt.cell 1
    have q2:wr.cell? ⟨w.heap.size,2,none⟩=some (.slice as1 t.st.length cs1):=WI2.out.rt.cell 2
    have q3:wr.cell? ⟨w.heap.size,3,none⟩=some (.slice al t.li.length cl):=WI2.out.rt.cell 3
    have q4:wr.cell? ⟨w.heap.size,4,none⟩=some (.slice ax t.cr.length cx):=WI2.out.rt.cell 4
    have q5:wr.cell? ⟨w.heap.size,5,none⟩=some (.slice aq t.pa.length cq):=WI2.out.rt.cell 5
    have q6:wr.cell? ⟨w.heap.size,6,none⟩=some (.slice none 0 0):=WI2.out.rt.cell 6
    have q7:wr.cell? ⟨w.heap.size,7,none⟩=some (.slice none 0 0):=WI2.out.rt.cell 7
    go_wp2_with fail
    refine (l12copy52 fr 0 (.slice as1 t.st.length cs1) (.slice al t.li.length cl) (.slice ax t.cr.length cx) (.slice aq t.pa.length cq) (.slice none 0 0) (.slice none 0 0) t.st t.li t.cr t.pa wr (WI2.out.tl.s.ls.mono zl (Below.refl wr.heap.size wr) lr) (WI2.out.tl.l.ls.mono zl (Below.refl wr.heap.size wr) lr) (WI2.out.tl.x.ls.mono zl (Below.refl wr.heap.size wr) lr) (WI2.out.tl.q.ls.mono zl (Below.refl wr.heap.size wr) lr) (by omega) (by omega) (by omega) (by omega) ⟨_,_,_,rfl⟩ ⟨_,_,_,rfl⟩).mono ?_
    rintro e1 w1 ⟨sv1,lv1,xv1,qv1,rfl,g1,g2,g3,g4,hb1⟩
    obtain ⟨as3,cs3,hv⟩:=g1.val
    subst hv
    obtain ⟨al3,cl3,hv⟩:=g2.val
    subst hv
    obtain ⟨ax3,cx3,hv⟩:=g3.val
    subst hv
    obtain ⟨aq3,cq3,hv⟩:=g4.val
    subst hv
    clear q0 q1 q2 q3 q4 q5 q6 q7
    have WI3:=WI2.out.mono hb1
    have zr:=WI2.out.rt.lt
    have rb:=WI3.rt
    have f0:=rb.free 0
    have f1:=rb.free 1
    have f2:=rb.free 2
    have f3:=rb.free 3
    have f4:=rb.free 4
    have f5:=rb.free 5
    have f6:=rb.free 6
    have f7:=rb.free 7
    have q0:w1.cell? ⟨w.heap.size,0,none⟩=some (.int .i64 fr):=rb.cell 0
    have q1:w1.cell? ⟨w.heap.size,1,none⟩=some (.int .i64 0):=rb.cell 1
    have q2:w1.cell? ⟨w.heap.size,2,none⟩=some (.slice as1 t.st.length cs1):=rb.cell 2
    have q3:w1.cell? ⟨w.heap.size,3,none⟩=some (.slice al t.li.length cl):=rb.cell 3
    have q4:w1.cell? ⟨w.heap.size,4,none⟩=some (.slice ax t.cr.length cx):=rb.cell 4
    have q5:w1.cell? ⟨w.heap.size,5,none⟩=some (.slice aq t.pa.length cq):=rb.cell 5
    have q6:w1.cell? ⟨w.heap.size,6,none⟩=some (.slice none 0 0):=rb.cell 6
    have q7:w1.cell? ⟨w.heap.size,7,none⟩=some (.slice none 0 0):=rb.cell 7
    have WS4:Hid (WkS v w0 pa pc ja jc sa sc bf (.slice au rs.length cu) w w.heap.size t (tries+1) seen #[.int .i64 fr,.int .i64 0,.slice as3 t.st.length cs3,.slice al3 t.li.length cl3,.slice ax3 t.cr.length cx3,.slice aq3 t.pa.length cq3,.slice none 0 0,.slice none 0 0] (.slice as3 t.st.length cs3) (.slice al3 t.li.length cl3) (.slice ax3 t.cr.length cx3) (.slice aq3 t.pa.length cq3) (set8 w1 w.heap.size (.int .i64 fr) (.int .i64 0) (.slice as3 t.st.length cs3) (.slice al3 t.li.length cl3) (.slice ax3 t.cr.length cx3) (.slice aq3 t.pa.length cq3) (.slice none 0 0) (.slice none 0 0))):=WI3.fill hw0 hbl (g1.keep zf2 fun _ _=>rfl) (g2.keep zf2 fun _ _=>rfl) (g3.keep zf2 fun _ _=>rfl) (g4.keep zf2 fun _ _=>rfl)
    clear rb WI2 WI3 g1 g2 g3 g4
    have z1b:=hb1.size
    go_wp2_with (at_builtin;go_must (refine wpList_appH _ rfl (.tmp 67) (.tmp 71) 58 rfl w.heap.size 100 i1 _ 2 16 Tryz.underlying58 e11 e12 e13 e14 rfl (by decide) _ t.st rfl (WS4.out.tl.s.alloc _) ⟨w1.heap.size,0,none⟩ 1 1 [[(p:Int),way]] rfl rfl (by decide) (Wide.one rfl) (news_at [(p:Int),way] (by simp)) (by simp [maxLen];omega) (by omega) (by simp;omega) ?_))
    refine Halt.mk fun v5 w5 ho5 _ hap5=>?_
    obtain ⟨as5,cs5,rfl⟩:=ho5.val
    rw [List.length_append] at ho5 hap5
    have WS5:=WS4.out.addS hw0 hbl ho5 hap5
    have r5:Box w5 w.heap.size 64 _:=(WS4.out.rt.alloc _).grown hap5.fr (fun e=>WS4.out.tl.s.off WS4.out.rt (by decide) e rfl)
    have fr2:=r5.free 2
    have fc2:w5.cell? ⟨w.heap.size,2,none⟩=some (.slice as3 t.st.length cs3):=r5.cell 2
    have WS6:Hid (WkS v w0 pa pc ja jc sa sc bf (.slice au rs.length cu) w w.heap.size { t with st:=t.st ++ [[(p:Int),way]] } (tries+1) seen #[.int .i64 fr,.int .i64 0,.slice as5 (t.st.length+1) cs5,.slice al3 t.li.length cl3,.slice ax3 t.cr.length cx3,.slice aq3 t.pa.length cq3,.slice none 0 0,.slice none 0 0] (.slice as5 (t.st.length+1) cs5) (.slice al3 t.li.length cl3) (.slice ax3 t.cr.length cx3) (.slice aq3 t.pa.length cq3) (w5.setCell ⟨w.heap.size,2,none⟩ (.slice as5 (t.st.length+1) cs5))):=WS5
    clear WS5 WS4 r5 ho5 hap5 hb1 q0 q1 q2 q3 q4 q5 q6 q7 f0 f1 f2 f3 f4 f5 f6 f7
    go_wp2_with fail
    generalize w5.setCell ⟨w.heap.size,2,none⟩ (.slice as5 (t.st.length+1) cs5)=w6 at *
    have y0:w6.cell? ⟨bf,0,none⟩=some (.slice pa v.n pc):=WS6.out.bx.cell 0
    have y1:w6.cell? ⟨bf,1,none⟩=some (.slice ja v.m jc):=WS6.out.bx.cell 1
    have y2:w6.cell? ⟨bf,2,none⟩=some (.slice sa v.k sc):=WS6.out.bx.cell 2
    have T6:bf<w6.heap.size:=WS6.out.bx.lt
    have hP6:PsAt 0 w6.drew pa v.n v.P:=HN.out.p.mono lr WS6.out.bel.drew lr
    have hS6:PsAt 0 w6.drew sa v.k v.S:=HN.out.s.mono lr WS6.out.bel.drew lr
    have Hsp:Hid (∀ i,i<v.k→0≤(v.S i).sp∧(v.S i).sp≤10000000):=fun i hi=>by
     obtain ⟨s1,s2,s3,s4,s5⟩:=OK.out.sg i hi
     have:=OK.out.ln (v.S i).ln.toNat (by omega)
     omega
    go_region_held3 (fun w'=>w'.cell? ⟨bf,0,none⟩=some (.slice pa v.n pc)∧w'.cell? ⟨bf,1,none⟩=some (.slice ja v.m jc)∧w'.cell? ⟨bf,2,none⟩=some (.slice sa v.k sc)) (go_keep) (first | (go_at_call 53;refine (l12signal74 pa v.n pc v.P ja v.m jc sa v.k sc v.S p way far _ (by omega) hp (by omega) hP6 hS6 hln Hsp.out).mono ?_;rintro e w7 ⟨rfl,hb7⟩;have k0:=(hb7.cell (p:=⟨bf,0,none⟩) T6).trans y0;have k1:=(hb7.cell (p:=⟨bf,1,none⟩) T6).trans y1;have k2:=(hb7.cell (p:=⟨bf,2,none⟩) T6).trans y2))
    have WS7:Hid (WkS v w0 pa pc ja jc sa sc bf (.slice au rs.length cu) w w.heap.size { t with st:=t.st ++ [[(p:Int),way]] } (tries+1) seen #[.int .i64 fr,.int .i64 0,.slice as5 (t.st.length+1) cs5,.slice al3 t.li.length cl3,.slice ax3 t.cr.length cx3,.slice aq3 t.pa.length cq3,.slice none 0 0,.slice none 0 0] (.slice as5 (t.st.length+1) cs5) (.slice al3 t.li.length cl3) (.slice ax3 t.cr.length cx3) (.slice aq3 t.pa.length cq3) w7):=WS6.out.mono ((Below.refl w6.heap.size w6).drew.trans hb7)
    clear k0 k1 k2 y0 y1 y2 hP6 hS6 hb7 WS6 T6
    rcases hnx:nextS (v.P p).ln v.S p way far v.k with _ | bb
    ·rw [show bestV none=-1 from rfl]
     by_cases hm:[(p:Int),way] ∈ t.st
     ·exact absurd hm HCs.out.2.1
     ·have hm':decide ([(p:Int),way] ∈ t.st)=false:=by simp [hm]
      have HM:Hid ([(p:Int),way] ∉ t.st):=hm
      have HNX:Hid (nextS (v.P p).ln v.S p way far v.k=none):=hnx
      clear hm hnx
      obtain ⟨pb,poff,hpa,_,hpb,hpc⟩:=HN.out.p (by omega)
      subst hpa
      have y3:w7.cell? ⟨pb,poff+p*4+1,none⟩=some (.int .i64 (v.P p).ln):=(WS7.out.bel.cell (p:=⟨pb,poff+p*4+1,none⟩) hpb).trans (hpc p hp).2.1
      have x0:w7.cell? ⟨bf,0,none⟩=some (.slice (some ⟨pb,poff,none⟩) v.n pc):=WS7.out.bx.cell 0
      have x1:w7.cell? ⟨bf,1,none⟩=some (.slice ja v.m jc):=WS7.out.bx.cell 1
      have x5:w7.cell? ⟨w.heap.size,5,none⟩=some (.slice aq3 t.pa.length cq3):=WS7.out.rt.cell 5
      have hP8:PsAt 0 w7.drew (some ⟨pb,poff,none⟩) v.n v.P:=HN.out.p.mono lr WS7.out.bel.drew lr
      have hpi:(p:Int)<(v.n:Int):=by omega
      clear hpc
      go_wp2_with fail
      go_cut [10] from 23 (fun s10 wx=>s10=.bool false∧∃ aq4 cq4,Hid (WkS v w0 (some ⟨pb,poff,none⟩) pc ja jc sa sc bf (.slice au rs.length cu) w w.heap.size { t with st:=t.st ++ [[(p:Int),way]],pa:=t.pa ++ [partR (v.P p).ln p way far (v.P p).ln] } (tries+1) seen #[.int .i64 fr,.int .i64 0,.slice as5 (t.st.length+1) cs5,.slice al3 t.li.length cl3,.slice ax3 t.cr.length cx3,.slice aq4 (t.pa.length+1) cq4,.slice none 0 0,.slice none 0 0] (.slice as5 (t.st.length+1) cs5) (.slice al3 t.li.length cl3) (.slice ax3 t.cr.length cx3) (.slice aq4 (t.pa.length+1) cq4) wx))
      case first=>
       go_region_law (first | (refine step_call rfl 54 #[.agg #[.slice (some ⟨pb,poff,none⟩) v.n pc,.slice ja v.m jc],.int .i64 p,.int .i64 way,.int .i64 far,.int .i64 (v.P p).ln] (by simp [Act.eval,go_sem]) (l12part75 (some ⟨pb,poff,none⟩) v.n pc v.P ja v.m jc p way far (v.P p).ln _ (by omega) hp hP8 hln ⟨hf0,by omega⟩ (by omega)) ?_;intro w9 hb9;have WS9:Hid (WkS v w0 (some ⟨pb,poff,none⟩) pc ja jc sa sc bf (.slice au rs.length cu) w w.heap.size { t with st:=t.st ++ [[(p:Int),way]] } (tries+1) seen #[.int .i64 fr,.int .i64 0,.slice as5 (t.st.length+1) cs5,.slice al3 t.li.length cl3,.slice ax3 t.cr.length cx3,.slice aq3 t.pa.length cq3,.slice none 0 0,.slice none 0 0] (.slice as5 (t.st.length+1) cs5) (.slice al3 t.li.length cl3) (.slice ax3 t.cr.length cx3) (.slice aq3 t.pa.length cq3)  w9):=WS7.out.mono ((Below.refl w7.heap.size w7).drew.trans hb9);have k5:w9.cell? ⟨w.heap.size,5,none⟩=some (.slice aq3 t.pa.length cq3):=WS9.out.rt.cell 5;have k5':∀ o,(w9.alloc o).cell? ⟨w.heap.size,5,none⟩=some (.slice aq3 t.pa.length cq3):=fun o=>(WS9.out.rt.alloc o).cell 5;have z9:=WS9.out.fr.size) | (refine step_app rfl (.tmp 134) (.tmp 152) 61 rfl w.heap.size 104 i4 (.agg #[.int .i64 0,.int .i64 0,.int .i64 0]) 3 24 Tryz.underlying61 e41 e42 e43 e44 rfl (by decide) (.slice aq3 t.pa.length cq3) t.pa (by simp [Act.eval]) (WS9.out.tl.q.alloc _) ⟨w9.heap.size,0,none⟩ 1 1 [partR (v.P p).ln p way far (v.P p).ln] (by simp [Act.eval]) rfl (by decide) (Wide.one rfl) (news_at (partR (v.P p).ln p way far (v.P p).ln) rfl) (by simp [maxLen];omega) (by omega) (by simp;omega) ?_;intro v10 w10 ho10 hx10 hap10;have r10:Box w10 w.heap.size 64 _:=(WS9.out.rt.alloc _).grown hap10.fr (fun e=>WS9.out.tl.q.off WS9.out.rt (by decide) e rfl);have t10:=r10.free 5;have u10:w10.cell? ⟨w.heap.size,5,none⟩=some (.slice aq3 t.pa.length cq3):=r10.cell 5;obtain ⟨aq4,cq4,rfl⟩:=ho10.val;rw [List.length_append] at ho10 hap10))
       all_goals
        go_wp2_with fail
        go_meet
        case rel=>exact ⟨rfl,_,_,WS9.out.addQ hw0 hbl ho10 hap10⟩
      case rest=>
       obtain ⟨rfl,aq4,cq4,WC⟩:=hcut
       clear WS7 x0 x1 x5 hP8 y3
       have x0:wc.cell? ⟨bf,0,none⟩=some (.slice (some ⟨pb,poff,none⟩) v.n pc):=WC.out.bx.cell 0
       have x1:wc.cell? ⟨bf,1,none⟩=some (.slice ja v.m jc):=WC.out.bx.cell 1
       have T7:bf<wc.heap.size:=WC.out.bx.lt
       have hJ2:JsAt 0 wc.drew ja v.m v.J:=HN.out.j.mono lr WC.out.bel.drew lr
       have Hne:Hid (∀ i,i<v.m→(v.J i).ne≤1048576):=fun i hi=>by have:=OK.out.kd i hi;omega
       obtain ⟨j,q,hat,hja,hjm,hqn,hjE,hk1',hk2',hk3⟩:=OK.out.there (headE_ok p way).1 (by rw [(headE_ok p way).2.1];omega) (headE_ok p way).2.2
       have A1:(atV (jointAt v.J (headE p way) v.m)).1=(j:Int):=by rw [hja];rfl
       have A2:(atV (jointAt v.J (headE p way) v.m)).2=(q:Int):=by rw [hja];rfl
       have HAT:Hid (v.at (headE p way)=(j,q)):=hat
       clear hja hat hjE
       have HKq:Hid ((v.J j).kd=3∧q=0):=by
        have h9:=HCs.out.2.2
        rw [HAT.out] at h9
        exact h9
       go_wp2_with fail
       go_region_held3 (fun w'=>w'.cell? ⟨bf,0,none⟩=some (.slice (some ⟨pb,poff,none⟩) v.n pc)∧w'.cell? ⟨bf,1,none⟩=some (.slice ja v.m jc)) (go_keep) (first | (go_at_call 58;refine (l12head79 p way _).mono ?_;rintro e w9 ⟨rfl,hb9⟩;have k0:=(hb9.cell (p:=⟨bf,0,none⟩) T7).trans x0;have k1:=(hb9.cell (p:=⟨bf,1,none⟩) T7).trans x1) | (go_at_call 57;refine (l11at78 (some ⟨pb,poff,none⟩) v.n pc ja v.m jc v.J (headE p way) _ (by omega) (hJ2.mono lr hb9 lr) Hne.out).mono ?_;rintro e w10 ⟨rfl,hb10⟩;have k0:=(hb10.cell (p:=⟨bf,0,none⟩) (ltl T7 hb9.size)).trans k0;have k1:=(hb10.cell (p:=⟨bf,1,none⟩) (ltl T7 hb9.size)).trans k1))
       have WD:(WkS v w0 (some ⟨pb,poff,none⟩) pc ja jc sa sc bf (.slice au rs.length cu) w w.heap.size { t with st:=t.st ++ [[(p:Int),way]],pa:=t.pa ++ [partR (v.P p).ln p way far (v.P p).ln] } (tries+1) seen #[.int .i64 fr,.int .i64 0,.slice as5 (t.st.length+1) cs5,.slice al3 t.li.length cl3,.slice ax3 t.cr.length cx3,.slice aq4 (t.pa.length+1) cq4,.slice none 0 0,.slice none 0 0] (.slice as5 (t.st.length+1) cs5) (.slice al3 t.li.length cl3) (.slice ax3 t.cr.length cx3) (.slice aq4 (t.pa.length+1) cq4) w10):=WC.out.mono ((Below.refl wc.heap.size wc).drew.trans (hb9.trans (hb10.mono hb9.size)))
       obtain ⟨b2,off2,hja2,_,hb2,hc2⟩:=HN.out.j (by omega)
       obtain ⟨ea,ec,d0',d1',d2',hEs⟩:=hc2 j hjm
       subst hja2
       have F1:w10.cell? ⟨bf,1,none⟩=some (.slice (some ⟨b2,off2,none⟩) v.m jc):=WD.bx.cell 1
       have d0:=(WD.bel.cell (p:=⟨b2,off2+j*3,none⟩) hb2).trans d0'
       have d1:=(WD.bel.cell (p:=⟨b2,off2+j*3+1,none⟩) hb2).trans d1'
       have d2:=(WD.bel.cell (p:=⟨b2,off2+j*3+2,none⟩) hb2).trans d2'
       have hji:(j:Int)<(v.m:Int):=by omega
       clear hc2 d0' d1' d2' k0 k1 hb9 hb10 hJ2 Hne x0 x1 T7 WC A1 A2
       have WE:Hid (WkS v w0 (some ⟨pb,poff,none⟩) pc (some ⟨b2,off2,none⟩) jc sa sc bf (.slice au rs.length cu) w w.heap.size { t with st:=t.st ++ [[(p:Int),way]],pa:=t.pa ++ [partR (v.P p).ln p way far (v.P p).ln] } (tries+1) seen #[.int .i64 fr,.int .i64 0,.slice as5 (t.st.length+1) cs5,.slice al3 t.li.length cl3,.slice ax3 t.cr.length cx3,.slice aq4 (t.pa.length+1) cq4,.slice none 0 0,.slice none 0 0] (.slice as5 (t.st.length+1) cs5) (.slice al3 t.li.length cl3) (.slice ax3 t.cr.length cx3) (.slice aq4 (t.pa.length+1) cq4) (w10.alloc (.cells #[.int .i64 (v.J j).kd,.string (v.J j).nm,.slice ea (v.J j).ne ec] 115))):=WD.mono (bel1 w10 _)
       have bx17:Hid (Box (w10.alloc (.cells #[.int .i64 (v.J j).kd,.string (v.J j).nm,.slice ea (v.J j).ne ec] 115)) w10.heap.size 115 #[.int .i64 (v.J j).kd,.string (v.J j).nm,.slice ea (v.J j).ne ec]):=Box.new w10 115 _
       have zd:=WD.bel.size
       have zdf:=WD.fr.size
       by_cases hkd:(v.J j).kd=1
       ·exact absurd hkd (by have:=HKq.out;omega)
       ·have hkd':((v.J j).kd == 1)=false:=by simp [hkd]
        have hk234:(v.J j).kd=2∨(v.J j).kd=3∨(v.J j).kd=4:=by omega
        have HWL:Hid (v.walk fr (f+1) t p way far=none :: (acrossF (v.J j).kd.toNat q).flatMap (v.cont fr f { t with st:=t.st ++ [[(p:Int),way]],pa:=t.pa ++ [partR (v.P p).ln p way far (v.P p).ln] } j q)):=walk_on' HNX.out HM.out HAT.out hkd
        have hE10:EsAt 0 (w10.alloc (.cells #[.int .i64 (v.J j).kd,.string (v.J j).nm,.slice ea (v.J j).ne ec] 115)) ea (v.J j).ne (v.J j).E:=hEs.mono lr WE.out.bel lr
        have HTO:Hid (TlOk v { t with st:=t.st ++ [[(p:Int),way]],pa:=t.pa ++ [partR (v.P p).ln p way far (v.P p).ln] }):=HK.out.put hp hway HM.out
        obtain ⟨ln1,ln2,ln3⟩:=across_len hk234 hk3 hqn
        have HLN:Hid (∀ k,k<(acrossF (v.J j).kd.toNat q).length→(acrossF (v.J j).kd.toNat q).getD k 0<(v.J j).ne∧((v.J j).kd=3→q=0→(acrossF (v.J j).kd.toNat q).getD k 0=k+1)):=ln3
        clear WD ln3
        go_wp2_with fail
        refine (across59 (v.J j).nm ea (v.J j).ne ec (v.J j).E (v.J j).kd q _ hk234 hk3 hqn hE10).mono ?_
        rintro e w11 ⟨aa,rfl,hEa,hb11⟩
        have W11:Hid (WkS v w0 (some ⟨pb,poff,none⟩) pc (some ⟨b2,off2,none⟩) jc sa sc bf (.slice au rs.length cu) w w.heap.size { t with st:=t.st ++ [[(p:Int),way]],pa:=t.pa ++ [partR (v.P p).ln p way far (v.P p).ln] } (tries+1) seen #[.int .i64 fr,.int .i64 0,.slice as5 (t.st.length+1) cs5,.slice al3 t.li.length cl3,.slice ax3 t.cr.length cx3,.slice aq4 (t.pa.length+1) cq4,.slice none 0 0,.slice none 0 0] (.slice as5 (t.st.length+1) cs5) (.slice al3 t.li.length cl3) (.slice ax3 t.cr.length cx3) (.slice aq4 (t.pa.length+1) cq4) w11):=WE.out.mono hb11
        have X11:Hid (Box w11 w10.heap.size 115 #[.int .i64 (v.J j).kd,.string (v.J j).nm,.slice ea (v.J j).ne ec]):=bx17.out.mono hb11 lr
        have HEA:Hid (EsAt (w10.heap.size+1) w11 aa (acrossF (v.J j).kd.toNat q).length (fun i=>(v.J j).E ((acrossF (v.J j).kd.toNat q).getD i 0))):=by
         have:=hEa
         rw [World.size_alloc] at this
         exact this
        have LP0:Hid (LpS v w0 (some ⟨pb,poff,none⟩) pc (some ⟨b2,off2,none⟩) jc sa sc bf (.slice au rs.length cu) tries rs w11 [none] (.slice au rs.length cu) seen (tries+1) rs w11):=LpS.begin W11.out HX.out HO.out hr3
        have z11:=hb11.size
        rw [World.size_alloc] at z11
        clear WE bx17 hEa hb11 hE10
        generalize acrossF (v.J j).kd.toNat q=xs at *
        go_wp2_with fail
        dsimp +zetaDelta only at *
        as_aux_lemma=>
         go_loopw [185] (fun i wr=>∃ (k:Nat) (outk seenk:Value) (tk:Nat) (rsk:List RtM),k≤xs.length∧i=.int .i64 k∧Hid (LpS v w0 (some ⟨pb,poff,none⟩) pc (some ⟨b2,off2,none⟩) jc sa sc bf (.slice au rs.length cu) tries rs w11 (none :: (xs.take k).flatMap (v.cont fr f { t with st:=t.st ++ [[(p:Int),way]],pa:=t.pa ++ [partR (v.P p).ln p way far (v.P p).ln] } j q)) outk seenk tk rsk wr)∧(k=0→tk≤20000)∧tk≤20000+f+k) (fun i _=>xs.length-(intOf i).toNat)
         case atStart=>exact ⟨0,_,_,_,_,Nat.zero_le _,rfl,LP0,fun _=>by omega,by omega⟩
         case round=>
          obtain ⟨k,outk,seenk,tk,rsk,hk,rfl,LP,htk0,htk⟩:=hrel
          have zr:=LP.out.fr.size
          have zr0:=LP.out.bel.size
          by_cases hlt:k<xs.length
          ·obtain ⟨x,hx⟩:∃ x,xs[k]?=some x:=⟨xs[k],List.getElem?_eq_getElem hlt⟩
           have hgd:xs.getD k 0=x:=by simp [List.getD_eq_getElem?_getD,hx]
           obtain ⟨hxn,hx3⟩:=HLN.out k hlt
           rw [hgd] at hxn hx3
           obtain ⟨en0,en1,en2⟩:=OK.out.enOk hjm hxn
           obtain ⟨ab,aoff,haa,_,hab,hac⟩:=(LP.out.es HEA.out (by omega) hbl HO.out) (by omega)
           have c0:wr.cell? ⟨ab,aoff+k*2,none⟩=some (.int .i64 ((v.J j).E x).pc):=by
            have:=(hac k hlt).1
            simp only [hgd] at this
            exact this
           have c1:wr.cell? ⟨ab,aoff+k*2+1,none⟩=some (.int .i64 ((v.J j).E x).sd):=by
            have:=(hac k hlt).2
            simp only [hgd] at this
            exact this
           subst haa
           have HCO:Hid ((xs.take (k+1)).flatMap (v.cont fr f { t with st:=t.st ++ [[(p:Int),way]],pa:=t.pa ++ [partR (v.P p).ln p way far (v.P p).ln] } j q)=(xs.take k).flatMap (v.cont fr f { t with st:=t.st ++ [[(p:Int),way]],pa:=t.pa ++ [partR (v.P p).ln p way far (v.P p).ln] } j q) ++ v.cont fr f { t with st:=t.st ++ [[(p:Int),way]],pa:=t.pa ++ [partR (v.P p).ln p way far (v.P p).ln] } j q x):=flat_snoc hx
           have hki:(k:Int)<(xs.length:Int):=by omega
           have RB:Hid (Box (wr.alloc (.cells #[.int .i64 ((v.J j).E x).pc,.int .i64 ((v.J j).E x).sd] 112)) w.heap.size 64 #[.int .i64 fr,.int .i64 0,.slice as5 (t.st.length+1) cs5,.slice al3 t.li.length cl3,.slice ax3 t.cr.length cx3,.slice aq4 (t.pa.length+1) cq4,.slice none 0 0,.slice none 0 0]):=(LP.out.box W11.out.rt lr hbl HO.out).alloc _
           have XB:Hid (Box (wr.alloc (.cells #[.int .i64 ((v.J j).E x).pc,.int .i64 ((v.J j).E x).sd] 112)) w10.heap.size 115 #[.int .i64 (v.J j).kd,.string (v.J j).nm,.slice ea (v.J j).ne ec]):=(LP.out.box X11.out (by omega) hbl HO.out).alloc _
           have EBx:Hid (Box (wr.alloc (.cells #[.int .i64 ((v.J j).E x).pc,.int .i64 ((v.J j).E x).sd] 112)) wr.heap.size 112 #[.int .i64 ((v.J j).E x).pc,.int .i64 ((v.J j).E x).sd]):=Box.new wr 112 _
           have TL:Hid (TlIn w.heap.size (wr.alloc (.cells #[.int .i64 ((v.J j).E x).pc,.int .i64 ((v.J j).E x).sd] 112)) { t with st:=t.st ++ [[(p:Int),way]],pa:=t.pa ++ [partR (v.P p).ln p way far (v.P p).ln] } (.slice as5 (t.st.length+1) cs5) (.slice al3 t.li.length cl3) (.slice ax3 t.cr.length cx3) (.slice aq4 (t.pa.length+1) cq4)):=(LP.out.tl W11.out.tl hbl HO.out).mono (bel1 wr _) lr
           have q0:(wr.alloc (.cells #[.int .i64 ((v.J j).E x).pc,.int .i64 ((v.J j).E x).sd] 112)).cell? ⟨w.heap.size,0,none⟩=some (.int .i64 fr):=RB.out.cell 0
           have q1:(wr.alloc (.cells #[.int .i64 ((v.J j).E x).pc,.int .i64 ((v.J j).E x).sd] 112)).cell? ⟨w.heap.size,1,none⟩=some (.int .i64 0):=RB.out.cell 1
           have q2:(wr.alloc (.cells #[.int .i64 ((v.J j).E x).pc,.int .i64 ((v.J j).E x).sd] 112)).cell? ⟨w.heap.size,2,none⟩=some (.slice as5 (t.st.length+1) cs5):=RB.out.cell 2
           have q3:(wr.alloc (.cells #[.int .i64 ((v.J j).E x).pc,.int .i64 ((v.J j).E x).sd] 112)).cell? ⟨w.heap.size,3,none⟩=some (.slice al3 t.li.length cl3):=RB.out.cell 3
           have q4:(wr.alloc (.cells #[.int .i64 ((v.J j).E x).pc,.int .i64 ((v.J j).E x).sd] 112)).cell? ⟨w.heap.size,4,none⟩=some (.slice ax3 t.cr.length cx3):=RB.out.cell 4
           have q5:(wr.alloc (.cells #[.int .i64 ((v.J j).E x).pc,.int .i64 ((v.J j).E x).sd] 112)).cell? ⟨w.heap.size,5,none⟩=some (.slice aq4 (t.pa.length+1) cq4):=RB.out.cell 5
           have q6:(wr.alloc (.cells #[.int .i64 ((v.J j).E x).pc,.int .i64 ((v.J j).E x).sd] 112)).cell? ⟨w.heap.size,6,none⟩=some (.slice none 0 0):=RB.out.cell 6
           have q7:(wr.alloc (.cells #[.int .i64 ((v.J j).E x).pc,.int .i64 ((v.J j).E x).sd] 112)).cell? ⟨w.heap.size,7,none⟩=some (.slice none 0 0):=RB.out.cell 7
           clear hac hx
           go_wp2_with fail
           have n1:(t.st ++ [[(p:Int),way]]).length=t.st.length+1:=by simp
           have n4:(t.pa ++ [partR (v.P p).ln p way far (v.P p).ln]).length=t.pa.length+1:=by simp
           refine (l12copy52 fr 0 (.slice as5 (t.st.length+1) cs5) (.slice al3 t.li.length cl3) (.slice ax3 t.cr.length cx3) (.slice aq4 (t.pa.length+1) cq4) (.slice none 0 0) (.slice none 0 0) (t.st ++ [[(p:Int),way]]) t.li t.cr (t.pa ++ [partR (v.P p).ln p way far (v.P p).ln]) _ (TL.out.s.ls.mono zl (Below.refl _ _) lr) (TL.out.l.ls.mono zl (Below.refl _ _) lr) (TL.out.x.ls.mono zl (Below.refl _ _) lr) (TL.out.q.ls.mono zl (Below.refl _ _) lr) (by omega) (by omega) (by omega) (by omega) ⟨_,_,_,rfl⟩ ⟨_,_,_,rfl⟩).mono ?_
           rintro e12 w12 ⟨sv6,lv6,xv6,qv6,rfl,g1,g2,g3,g4,hb12⟩
           obtain ⟨as6,cs6,hv⟩:=g1.val
           subst hv
           obtain ⟨al6,cl6,hv⟩:=g2.val
           subst hv
           obtain ⟨ax6,cx6,hv⟩:=g3.val
           subst hv
           obtain ⟨aq6,cq6,hv⟩:=g4.val
           subst hv
           rw [n1] at g1
           rw [n4] at g4
           have B12:Below wr.heap.size wr w12:=(bel1 wr _).trans (hb12.mono (by simp))
           have B13:Below wr.heap.size wr (w12.alloc (.cells #[.int .i64 fr,.int .i64 0,.slice as6 (t.st.length+1) cs6,.slice al6 t.li.length cl6,.slice ax6 t.cr.length cx6,.slice aq6 (t.pa.length+1) cq6,.slice none 0 0,.slice none 0 0] 64)):=B12.alloc B12.size _
           have hb13:Below (wr.alloc (.cells #[.int .i64 ((v.J j).E x).pc,.int .i64 ((v.J j).E x).sd] 112)).heap.size (wr.alloc (.cells #[.int .i64 ((v.J j).E x).pc,.int .i64 ((v.J j).E x).sd] 112)) (w12.alloc (.cells #[.int .i64 fr,.int .i64 0,.slice as6 (t.st.length+1) cs6,.slice al6 t.li.length cl6,.slice ax6 t.cr.length cx6,.slice aq6 (t.pa.length+1) cq6,.slice none 0 0,.slice none 0 0] 64)):=hb12.alloc hb12.size _
           have z12:=hb12.size
           rw [World.size_alloc] at z12
           have LP13:Hid (LpS v w0 (some ⟨pb,poff,none⟩) pc (some ⟨b2,off2,none⟩) jc sa sc bf (.slice au rs.length cu) tries rs w11 (none :: (xs.take k).flatMap (v.cont fr f { t with st:=t.st ++ [[(p:Int),way]],pa:=t.pa ++ [partR (v.P p).ln p way far (v.P p).ln] } j q)) outk seenk tk rsk (w12.alloc (.cells #[.int .i64 fr,.int .i64 0,.slice as6 (t.st.length+1) cs6,.slice al6 t.li.length cl6,.slice ax6 t.cr.length cx6,.slice aq6 (t.pa.length+1) cq6,.slice none 0 0,.slice none 0 0] 64))):=LP.out.mono B13
           have TL13:Hid (TlIn w0.heap.size (w12.alloc (.cells #[.int .i64 fr,.int .i64 0,.slice as6 (t.st.length+1) cs6,.slice al6 t.li.length cl6,.slice ax6 t.cr.length cx6,.slice aq6 (t.pa.length+1) cq6,.slice none 0 0,.slice none 0 0] 64)) { t with st:=t.st ++ [[(p:Int),way]],pa:=t.pa ++ [partR (v.P p).ln p way far (v.P p).ln] } (.slice as6 (t.st.length+1) cs6) (.slice al6 t.li.length cl6) (.slice ax6 t.cr.length cx6) (.slice aq6 (t.pa.length+1) cq6)):=⟨(g1.alloc _).keep (by simp;omega) fun _ _=>rfl,(g2.alloc _).keep (by simp;omega) fun _ _=>rfl,(g3.alloc _).keep (by simp;omega) fun _ _=>rfl,(g4.alloc _).keep (by simp;omega) fun _ _=>rfl⟩
           have B20:Hid (Box (w12.alloc (.cells #[.int .i64 fr,.int .i64 0,.slice as6 (t.st.length+1) cs6,.slice al6 t.li.length cl6,.slice ax6 t.cr.length cx6,.slice aq6 (t.pa.length+1) cq6,.slice none 0 0,.slice none 0 0] 64)) w12.heap.size 64 #[.int .i64 fr,.int .i64 0,.slice as6 (t.st.length+1) cs6,.slice al6 t.li.length cl6,.slice ax6 t.cr.length cx6,.slice aq6 (t.pa.length+1) cq6,.slice none 0 0,.slice none 0 0]):=Box.new w12 64 _
           have XB13:Hid (Box (w12.alloc (.cells #[.int .i64 fr,.int .i64 0,.slice as6 (t.st.length+1) cs6,.slice al6 t.li.length cl6,.slice ax6 t.cr.length cx6,.slice aq6 (t.pa.length+1) cq6,.slice none 0 0,.slice none 0 0] 64)) w10.heap.size 115 #[.int .i64 (v.J j).kd,.string (v.J j).nm,.slice ea (v.J j).ne ec]):=XB.out.mono hb13 lr
           have EB13:Hid (Box (w12.alloc (.cells #[.int .i64 fr,.int .i64 0,.slice as6 (t.st.length+1) cs6,.slice al6 t.li.length cl6,.slice ax6 t.cr.length cx6,.slice aq6 (t.pa.length+1) cq6,.slice none 0 0,.slice none 0 0] 64)) wr.heap.size 112 #[.int .i64 ((v.J j).E x).pc,.int .i64 ((v.J j).E x).sd]):=EBx.out.mono hb13 lr
           have x0:(w12.alloc (.cells #[.int .i64 fr,.int .i64 0,.slice as6 (t.st.length+1) cs6,.slice al6 t.li.length cl6,.slice ax6 t.cr.length cx6,.slice aq6 (t.pa.length+1) cq6,.slice none 0 0,.slice none 0 0] 64)).cell? ⟨w10.heap.size,0,none⟩=some (.int .i64 (v.J j).kd):=XB13.out.cell 0
           have y0:(w12.alloc (.cells #[.int .i64 fr,.int .i64 0,.slice as6 (t.st.length+1) cs6,.slice al6 t.li.length cl6,.slice ax6 t.cr.length cx6,.slice aq6 (t.pa.length+1) cq6,.slice none 0 0,.slice none 0 0] 64)).cell? ⟨wr.heap.size,0,none⟩=some (.int .i64 ((v.J j).E x).pc):=EB13.out.cell 0
           have y1:(w12.alloc (.cells #[.int .i64 fr,.int .i64 0,.slice as6 (t.st.length+1) cs6,.slice al6 t.li.length cl6,.slice ax6 t.cr.length cx6,.slice aq6 (t.pa.length+1) cq6,.slice none 0 0,.slice none 0 0] 64)).cell? ⟨wr.heap.size,1,none⟩=some (.int .i64 ((v.J j).E x).sd):=EB13.out.cell 1
           clear q0 q1 q2 q3 q4 q5 q6 q7 RB XB EBx TL c0 c1
           have LPr:=LP
           clear LP
           rcases hk234 with hk | hk | hk
           ·exact absurd hk (by have:=HKq.out;omega)
           ·by_cases hq0:q=0
            ·have hxk:x=k+1:=hx3 hk hq0
             have hq0':((q:Int) == 0)=true:=by simp [hq0]
             have hlie:(if q=0 then (x:Int) else q)=((k:Int)+1):=by rw [if_pos hq0,hxk];simp
             have hlie12:Hid ((k+1)=1∨(k+1)=2):=by
              show (k+1)=1∨(k+1)=2
              omega
             have HLIE:Hid ((if q=0 then (x:Int) else q)=((k:Int)+1)):=hlie
             have HKD:Hid ((v.J j).kd=3):=hk
             have hk3':((v.J j).kd == 3)=true:=by simp [hk]
             have hk4':((v.J j).kd == 4)=false:=by simp [hk]
             have gl:=g2
             have C60:=l12lies60 w0.heap.size w12.heap.size (.int .i64 fr) (.int .i64 0) (.slice as6 (t.st.length+1) cs6) (.slice al6 t.li.length cl6) (.slice ax6 t.cr.length cx6) (.slice aq6 (t.pa.length+1) cq6) (.slice none 0 0) (.slice none 0 0) t.li (j:Int) ((k:Int)+1) (w12.alloc (.cells #[.int .i64 fr,.int .i64 0,.slice as6 (t.st.length+1) cs6,.slice al6 t.li.length cl6,.slice ax6 t.cr.length cx6,.slice aq6 (t.pa.length+1) cq6,.slice none 0 0,.slice none 0 0] 64)) B20.out (by simp;omega) TL13.out.l (by omega)
             have HC60:Hid (Calls Tryz.prog 60 _ _ _):=C60
             clear C60 hk hlie hx3
             clear hxk hq0
             go_wp2_with fail
             refine HC60.out.mono ?_
             clear HC60
             rintro e w14 (⟨l,hlf,rfl,hb14⟩ | ⟨hlf,rfl,lv8,go8,bx8,fr8⟩)
             ·have B14:Below wr.heap.size wr w14:=B13.trans (hb14.mono B13.size)
              have LP14:Hid (LpS v w0 (some ⟨pb,poff,none⟩) pc (some ⟨b2,off2,none⟩) jc sa sc bf (.slice au rs.length cu) tries rs w11 (none :: (xs.take k).flatMap (v.cont fr f { t with st:=t.st ++ [[(p:Int),way]],pa:=t.pa ++ [partR (v.P p).ln p way far (v.P p).ln] } j q)) outk seenk tk rsk w14):=LPr.out.mono B14
              have XB14:Hid (Box w14 w10.heap.size 115 #[.int .i64 (v.J j).kd,.string (v.J j).nm,.slice ea (v.J j).ne ec]):=XB13.out.mono hb14 lr
              have x1:w14.cell? ⟨w10.heap.size,0,none⟩=some (.int .i64 (v.J j).kd):=XB14.out.cell 0
              by_cases hle:l=((k:Int)+1)
              ·have HOV:Hid (Tl.over { t with st:=t.st ++ [[(p:Int),way]],pa:=t.pa ++ [partR (v.P p).ln p way far (v.P p).ln] } (v.J j).kd j q x=some { t with st:=t.st ++ [[(p:Int),way]],pa:=t.pa ++ [partR (v.P p).ln p way far (v.P p).ln] }):=over_eq _ HKD.out HLIE.out (by rw [← hle];exact hlf)
               have hle':decide (l=((k:Int)+1))=true:=by simp [hle]
               have TL14:Hid (TlIn w0.heap.size w14 { t with st:=t.st ++ [[(p:Int),way]],pa:=t.pa ++ [partR (v.P p).ln p way far (v.P p).ln] } (.slice as6 (t.st.length+1) cs6) (.slice al6 t.li.length cl6) (.slice ax6 t.cr.length cx6) (.slice aq6 (t.pa.length+1) cq6)):=TL13.out.mono hb14 lr
               have BB14:Hid (Box w14 w12.heap.size 64 #[.int .i64 fr,.int .i64 0,.slice as6 (t.st.length+1) cs6,.slice al6 t.li.length cl6,.slice ax6 t.cr.length cx6,.slice aq6 (t.pa.length+1) cq6,.slice none 0 0,.slice none 0 0]):=B20.out.mono hb14 lr
               have EB14:Hid (Box w14 wr.heap.size 112 #[.int .i64 ((v.J j).E x).pc,.int .i64 ((v.J j).E x).sd]):=EB13.out.mono hb14 lr
               clear hle hlf x0 y0 y1 hb14
               have y0:w14.cell? ⟨wr.heap.size,0,none⟩=some (.int .i64 ((v.J j).E x).pc):=EB14.out.cell 0
               have y1:w14.cell? ⟨wr.heap.size,1,none⟩=some (.int .i64 ((v.J j).E x).sd):=EB14.out.cell 1
               have z0:w14.cell? ⟨w12.heap.size,0,none⟩=some (.int .i64 fr):=BB14.out.cell 0
               have z1:w14.cell? ⟨w12.heap.size,1,none⟩=some (.int .i64 0):=BB14.out.cell 1
               have z2:w14.cell? ⟨w12.heap.size,2,none⟩=some (.slice as6 (t.st.length+1) cs6):=BB14.out.cell 2
               have z3:w14.cell? ⟨w12.heap.size,3,none⟩=some (.slice al6 t.li.length cl6):=BB14.out.cell 3
               have z4:w14.cell? ⟨w12.heap.size,4,none⟩=some (.slice ax6 t.cr.length cx6):=BB14.out.cell 4
               have z5:w14.cell? ⟨w12.heap.size,5,none⟩=some (.slice aq6 (t.pa.length+1) cq6):=BB14.out.cell 5
               have z6:w14.cell? ⟨w12.heap.size,6,none⟩=some (.slice none 0 0):=BB14.out.cell 6
               have z7:w14.cell? ⟨w12.heap.size,7,none⟩=some (.slice none 0 0):=BB14.out.cell 7
               by_cases hsd:((v.J j).E x).sd=1
               ·have hsd':(((v.J j).E x).sd == 1)=true:=by simp [hsd]
                have HWY:wayOf ((v.J j).E x)=(-1):=by simp [wayOf,hsd]
                have C22:=IH.out outk seenk tk rsk { t with st:=t.st ++ [[(p:Int),way]],pa:=t.pa ++ [partR (v.P p).ln p way far (v.P p).ln] } (.slice as6 (t.st.length+1) cs6) (.slice al6 t.li.length cl6) (.slice ax6 t.cr.length cx6) (.slice aq6 (t.pa.length+1) cq6) ((v.J j).E x).pc.toNat (-1) 0 w14 LP14.out.bel LP14.out.bx LP14.out.ob LP14.out.rl (by omega) TL14.out HTO.out (by omega) (by first | exact .inl rfl | exact .inr rfl) (by omega) (by have:=OK.out.ln ((v.J j).E x).pc.toNat (by omega);omega) (by show 2*v.n+1≤f+(t.st ++ [[(p:Int),way]]).length;simp;omega)
                rw [Int.toNat_of_nonneg en0] at C22
                have HC:Hid (v.cont fr f { t with st:=t.st ++ [[(p:Int),way]],pa:=t.pa ++ [partR (v.P p).ln p way far (v.P p).ln] } j q x=v.walk fr f { t with st:=t.st ++ [[(p:Int),way]],pa:=t.pa ++ [partR (v.P p).ln p way far (v.P p).ln] } ((v.J j).E x).pc.toNat (-1) 0):=by
                 show v.cont fr f { t with st:=t.st ++ [[(p:Int),way]],pa:=t.pa ++ [partR (v.P p).ln p way far (v.P p).ln] } j q x=_
                 rw [cont_some HOV.out,HWY]
                have HC22:Hid (Calls Tryz.prog 22 _ _ _):=C22
                clear C22 HWY hsd
                go_wp2_with fail
                refine HC22.out.mono ?_
                intro e w20 P20
                obtain ⟨rfl,outk2,seenk2,tk2,rsk2,LP20,hbn⟩:=LP14.out.next hbf P20
                have LP21:Hid (LpS v w0 (some ⟨pb,poff,none⟩) pc (some ⟨b2,off2,none⟩) jc sa sc bf (.slice au rs.length cu) tries rs w11 (none :: (xs.take (k+1)).flatMap (v.cont fr f { t with st:=t.st ++ [[(p:Int),way]],pa:=t.pa ++ [partR (v.P p).ln p way far (v.P p).ln] } j q)) outk2 seenk2 tk2 rsk2 w20):=by
                 show LpS _ _ _ _ _ _ _ _ _ _ _ _ _ _ _ _ _ _ _
                 rw [HCO.out,HC.out]
                 exact LP20
                have hb3:tk2≤20000+f+(k+1):=by
                 unfold bnd at hbn
                 split at hbn <;> omega
                clear LP20 P20 HC22 hbn
                go_wp2_with fail
                go_roundw
                case rel=>exact ⟨k+1,outk2,seenk2,tk2,rsk2,by omega,by go_num,LP21,fun h=>by omega,hb3⟩
                case measure=>simp [intOf];omega
               ·have hsd':(((v.J j).E x).sd == 1)=false:=by simp [hsd]
                have HWY:wayOf ((v.J j).E x)=1:=by simp [wayOf,hsd]
                have C22:=IH.out outk seenk tk rsk { t with st:=t.st ++ [[(p:Int),way]],pa:=t.pa ++ [partR (v.P p).ln p way far (v.P p).ln] } (.slice as6 (t.st.length+1) cs6) (.slice al6 t.li.length cl6) (.slice ax6 t.cr.length cx6) (.slice aq6 (t.pa.length+1) cq6) ((v.J j).E x).pc.toNat 1 0 w14 LP14.out.bel LP14.out.bx LP14.out.ob LP14.out.rl (by omega) TL14.out HTO.out (by omega) (by first | exact .inl rfl | exact .inr rfl) (by omega) (by have:=OK.out.ln ((v.J j).E x).pc.toNat (by omega);omega) (by show 2*v.n+1≤f+(t.st ++ [[(p:Int),way]]).length;simp;omega)
                rw [Int.toNat_of_nonneg en0] at C22
                have HC:Hid (v.cont fr f { t with st:=t.st ++ [[(p:Int),way]],pa:=t.pa ++ [partR (v.P p).ln p way far (v.P p).ln] } j q x=v.walk fr f { t with st:=t.st ++ [[(p:Int),way]],pa:=t.pa ++ [partR (v.P p).ln p way far (v.P p).ln] } ((v.J j).E x).pc.toNat 1 0):=by
                 show v.cont fr f { t with st:=t.st ++ [[(p:Int),way]],pa:=t.pa ++ [partR (v.P p).ln p way far (v.P p).ln] } j q x=_
                 rw [cont_some HOV.out,HWY]
                have HC22:Hid (Calls Tryz.prog 22 _ _ _):=C22
                clear C22 HWY hsd
                go_wp2_with fail
                refine HC22.out.mono ?_
                intro e w20 P20
                obtain ⟨rfl,outk2,seenk2,tk2,rsk2,LP20,hbn⟩:=LP14.out.next hbf P20
                have LP21:Hid (LpS v w0 (some ⟨pb,poff,none⟩) pc (some ⟨b2,off2,none⟩) jc sa sc bf (.slice au rs.length cu) tries rs w11 (none :: (xs.take (k+1)).flatMap (v.cont fr f { t with st:=t.st ++ [[(p:Int),way]],pa:=t.pa ++ [partR (v.P p).ln p way far (v.P p).ln] } j q)) outk2 seenk2 tk2 rsk2 w20):=by
                 show LpS _ _ _ _ _ _ _ _ _ _ _ _ _ _ _ _ _ _ _
                 rw [HCO.out,HC.out]
                 exact LP20
                have hb3:tk2≤20000+f+(k+1):=by
                 unfold bnd at hbn
                 split at hbn <;> omega
                clear LP20 P20 HC22 hbn
                go_wp2_with fail
                go_roundw
                case rel=>exact ⟨k+1,outk2,seenk2,tk2,rsk2,by omega,by go_num,LP21,fun h=>by omega,hb3⟩
                case measure=>simp [intOf];omega
              ·have HOV:Hid (Tl.over { t with st:=t.st ++ [[(p:Int),way]],pa:=t.pa ++ [partR (v.P p).ln p way far (v.P p).ln] } (v.J j).kd j q x=none):=over_ne _ HKD.out HLIE.out hlf hle
               have hle':decide (l=((k:Int)+1))=false:=by simp [hle]
               have LP21:Hid (LpS v w0 (some ⟨pb,poff,none⟩) pc (some ⟨b2,off2,none⟩) jc sa sc bf (.slice au rs.length cu) tries rs w11 (none :: (xs.take (k+1)).flatMap (v.cont fr f { t with st:=t.st ++ [[(p:Int),way]],pa:=t.pa ++ [partR (v.P p).ln p way far (v.P p).ln] } j q)) outk seenk tk rsk w14):=by
                show LpS _ _ _ _ _ _ _ _ _ _ _ _ _ _ _ _ _ _ _
                rw [HCO.out,cont_none HOV.out,List.append_nil]
                exact LP14.out
               clear hle hlf x0 y0 y1 hb14 LP14
               go_wp2_with fail
               go_roundw
               case rel=>exact ⟨k+1,outk,seenk,tk,rsk,by omega,by go_num,LP21,fun h=>by omega,by omega⟩
               case measure=>simp [intOf];omega
             ·obtain ⟨al8,cl8,hv⟩:=go8.val
              subst hv
              rw [List.length_append] at go8 bx8
              have HOV:Hid (Tl.over { t with st:=t.st ++ [[(p:Int),way]],pa:=t.pa ++ [partR (v.P p).ln p way far (v.P p).ln] } (v.J j).kd j q x=some { t with st:=t.st ++ [[(p:Int),way]],pa:=t.pa ++ [partR (v.P p).ln p way far (v.P p).ln],li:=t.li ++ [[(j:Int),((k:Int)+1)]] }):=over_new _ HKD.out HLIE.out hlf
              have HTN:Hid (TlOk v { t with st:=t.st ++ [[(p:Int),way]],pa:=t.pa ++ [partR (v.P p).ln p way far (v.P p).ln],li:=t.li ++ [[(j:Int),((k:Int)+1)]] }):=HTO.out.lie (x:=(k+1)) hjm HKD.out hlie12.out (by simp;omega)
              have TL14:Hid (TlIn w0.heap.size w14 { t with st:=t.st ++ [[(p:Int),way]],pa:=t.pa ++ [partR (v.P p).ln p way far (v.P p).ln],li:=t.li ++ [[(j:Int),((k:Int)+1)]] } (.slice as6 (t.st.length+1) cs6) (.slice al8 (t.li.length+1) cl8) (.slice ax6 t.cr.length cx6) (.slice aq6 (t.pa.length+1) cq6)):=tl_new TL13.out B20.out go8 fr8
              have hxo:∀ g,(Value.slice al6 t.li.length cl6).ownBlock=some g→wr.heap.size+1≤g:=fun g hg=>by have:=(gl.lt hg).1;rw [World.size_alloc] at this;exact this
              have B14:Below wr.heap.size wr w14:=B13.trans (fr8.below B13.size fun k hk y=>by
               rcases y with y | y
               ·omega
               ·have:=hxo k y;omega)
              have LP14:Hid (LpS v w0 (some ⟨pb,poff,none⟩) pc (some ⟨b2,off2,none⟩) jc sa sc bf (.slice au rs.length cu) tries rs w11 (none :: (xs.take k).flatMap (v.cont fr f { t with st:=t.st ++ [[(p:Int),way]],pa:=t.pa ++ [partR (v.P p).ln p way far (v.P p).ln] } j q)) outk seenk tk rsk w14):=LPr.out.mono B14
              have EB14:Hid (Box w14 wr.heap.size 112 #[.int .i64 ((v.J j).E x).pc,.int .i64 ((v.J j).E x).sd]):=EB13.out.keep (fr8.block wr.heap.size EB13.out.lt (fun y=>by
               rcases y with y | y
               ·omega
               ·have:=hxo _ y;omega))
              have XB14:Hid (Box w14 w10.heap.size 115 #[.int .i64 (v.J j).kd,.string (v.J j).nm,.slice ea (v.J j).ne ec]):=XB13.out.keep (fr8.block w10.heap.size XB13.out.lt (fun y=>by
               rcases y with y | y
               ·omega
               ·have:=hxo _ y;omega))
              have BB14:Hid (Box w14 w12.heap.size 64 #[.int .i64 fr,.int .i64 0,.slice as6 (t.st.length+1) cs6,(.slice al8 (t.li.length+1) cl8),(.slice ax6 t.cr.length cx6),.slice aq6 (t.pa.length+1) cq6,.slice none 0 0,.slice none 0 0]):=bx8
              have x1:w14.cell? ⟨w10.heap.size,0,none⟩=some (.int .i64 (v.J j).kd):=XB14.out.cell 0
              clear hlf x0 y0 y1 go8 bx8 fr8 hxo
              have y0:w14.cell? ⟨wr.heap.size,0,none⟩=some (.int .i64 ((v.J j).E x).pc):=EB14.out.cell 0
              have y1:w14.cell? ⟨wr.heap.size,1,none⟩=some (.int .i64 ((v.J j).E x).sd):=EB14.out.cell 1
              have z0:w14.cell? ⟨w12.heap.size,0,none⟩=some (.int .i64 fr):=BB14.out.cell 0
              have z1:w14.cell? ⟨w12.heap.size,1,none⟩=some (.int .i64 0):=BB14.out.cell 1
              have z2:w14.cell? ⟨w12.heap.size,2,none⟩=some (.slice as6 (t.st.length+1) cs6):=BB14.out.cell 2
              have z3:w14.cell? ⟨w12.heap.size,3,none⟩=some (.slice al8 (t.li.length+1) cl8):=BB14.out.cell 3
              have z4:w14.cell? ⟨w12.heap.size,4,none⟩=some (.slice ax6 t.cr.length cx6):=BB14.out.cell 4
              have z5:w14.cell? ⟨w12.heap.size,5,none⟩=some (.slice aq6 (t.pa.length+1) cq6):=BB14.out.cell 5
              have z6:w14.cell? ⟨w12.heap.size,6,none⟩=some (.slice none 0 0):=BB14.out.cell 6
              have z7:w14.cell? ⟨w12.heap.size,7,none⟩=some (.slice none 0 0):=BB14.out.cell 7
              by_cases hsd:((v.J j).E x).sd=1
              ·have hsd':(((v.J j).E x).sd == 1)=true:=by simp [hsd]
               have HWY:wayOf ((v.J j).E x)=(-1):=by simp [wayOf,hsd]
               have C22:=IH.out outk seenk tk rsk { t with st:=t.st ++ [[(p:Int),way]],pa:=t.pa ++ [partR (v.P p).ln p way far (v.P p).ln],li:=t.li ++ [[(j:Int),((k:Int)+1)]] } (.slice as6 (t.st.length+1) cs6) (.slice al8 (t.li.length+1) cl8) (.slice ax6 t.cr.length cx6) (.slice aq6 (t.pa.length+1) cq6) ((v.J j).E x).pc.toNat (-1) 0 w14 LP14.out.bel LP14.out.bx LP14.out.ob LP14.out.rl (by omega) TL14.out HTN.out (by omega) (by first | exact .inl rfl | exact .inr rfl) (by omega) (by have:=OK.out.ln ((v.J j).E x).pc.toNat (by omega);omega) (by show 2*v.n+1≤f+(t.st ++ [[(p:Int),way]]).length;simp;omega)
               rw [Int.toNat_of_nonneg en0] at C22
               have HC:Hid (v.cont fr f { t with st:=t.st ++ [[(p:Int),way]],pa:=t.pa ++ [partR (v.P p).ln p way far (v.P p).ln] } j q x=v.walk fr f { t with st:=t.st ++ [[(p:Int),way]],pa:=t.pa ++ [partR (v.P p).ln p way far (v.P p).ln],li:=t.li ++ [[(j:Int),((k:Int)+1)]] } ((v.J j).E x).pc.toNat (-1) 0):=by
                show v.cont fr f { t with st:=t.st ++ [[(p:Int),way]],pa:=t.pa ++ [partR (v.P p).ln p way far (v.P p).ln] } j q x=_
                rw [cont_some HOV.out,HWY]
               have HC22:Hid (Calls Tryz.prog 22 _ _ _):=C22
               clear C22 HWY hsd
               go_wp2_with fail
               refine HC22.out.mono ?_
               intro e w20 P20
               obtain ⟨rfl,outk2,seenk2,tk2,rsk2,LP20,hbn⟩:=LP14.out.next hbf P20
               have LP21:Hid (LpS v w0 (some ⟨pb,poff,none⟩) pc (some ⟨b2,off2,none⟩) jc sa sc bf (.slice au rs.length cu) tries rs w11 (none :: (xs.take (k+1)).flatMap (v.cont fr f { t with st:=t.st ++ [[(p:Int),way]],pa:=t.pa ++ [partR (v.P p).ln p way far (v.P p).ln] } j q)) outk2 seenk2 tk2 rsk2 w20):=by
                show LpS _ _ _ _ _ _ _ _ _ _ _ _ _ _ _ _ _ _ _
                rw [HCO.out,HC.out]
                exact LP20
               have hb3:tk2≤20000+f+(k+1):=by
                unfold bnd at hbn
                split at hbn <;> omega
               clear LP20 P20 HC22 hbn
               go_wp2_with fail
               go_roundw
               case rel=>exact ⟨k+1,outk2,seenk2,tk2,rsk2,by omega,by go_num,LP21,fun h=>by omega,hb3⟩
               case measure=>simp [intOf];omega
              ·have hsd':(((v.J j).E x).sd == 1)=false:=by simp [hsd]
               have HWY:wayOf ((v.J j).E x)=1:=by simp [wayOf,hsd]
               have C22:=IH.out outk seenk tk rsk { t with st:=t.st ++ [[(p:Int),way]],pa:=t.pa ++ [partR (v.P p).ln p way far (v.P p).ln],li:=t.li ++ [[(j:Int),((k:Int)+1)]] } (.slice as6 (t.st.length+1) cs6) (.slice al8 (t.li.length+1) cl8) (.slice ax6 t.cr.length cx6) (.slice aq6 (t.pa.length+1) cq6) ((v.J j).E x).pc.toNat 1 0 w14 LP14.out.bel LP14.out.bx LP14.out.ob LP14.out.rl (by omega) TL14.out HTN.out (by omega) (by first | exact .inl rfl | exact .inr rfl) (by omega) (by have:=OK.out.ln ((v.J j).E x).pc.toNat (by omega);omega) (by show 2*v.n+1≤f+(t.st ++ [[(p:Int),way]]).length;simp;omega)
               rw [Int.toNat_of_nonneg en0] at C22
               have HC:Hid (v.cont fr f { t with st:=t.st ++ [[(p:Int),way]],pa:=t.pa ++ [partR (v.P p).ln p way far (v.P p).ln] } j q x=v.walk fr f { t with st:=t.st ++ [[(p:Int),way]],pa:=t.pa ++ [partR (v.P p).ln p way far (v.P p).ln],li:=t.li ++ [[(j:Int),((k:Int)+1)]] } ((v.J j).E x).pc.toNat 1 0):=by
                show v.cont fr f { t with st:=t.st ++ [[(p:Int),way]],pa:=t.pa ++ [partR (v.P p).ln p way far (v.P p).ln] } j q x=_
                rw [cont_some HOV.out,HWY]
               have HC22:Hid (Calls Tryz.prog 22 _ _ _):=C22
               clear C22 HWY hsd
               go_wp2_with fail
               refine HC22.out.mono ?_
               intro e w20 P20
               obtain ⟨rfl,outk2,seenk2,tk2,rsk2,LP20,hbn⟩:=LP14.out.next hbf P20
               have LP21:Hid (LpS v w0 (some ⟨pb,poff,none⟩) pc (some ⟨b2,off2,none⟩) jc sa sc bf (.slice au rs.length cu) tries rs w11 (none :: (xs.take (k+1)).flatMap (v.cont fr f { t with st:=t.st ++ [[(p:Int),way]],pa:=t.pa ++ [partR (v.P p).ln p way far (v.P p).ln] } j q)) outk2 seenk2 tk2 rsk2 w20):=by
                show LpS _ _ _ _ _ _ _ _ _ _ _ _ _ _ _ _ _ _ _
                rw [HCO.out,HC.out]
                exact LP20
               have hb3:tk2≤20000+f+(k+1):=by
                unfold bnd at hbn
                split at hbn <;> omega
               clear LP20 P20 HC22 hbn
               go_wp2_with fail
               go_roundw
               case rel=>exact ⟨k+1,outk2,seenk2,tk2,rsk2,by omega,by go_num,LP21,fun h=>by omega,hb3⟩
               case measure=>simp [intOf];omega
            ·exact absurd HKq.out.2 hq0
           ·exact absurd hk (by have:=HKq.out;omega)
          ·obtain rfl:k=xs.length:=by omega
           rw [List.take_length] at LP
           have FIN:=LP.out.done W11.out.fr HWL.out (by unfold bnd;split <;> omega)
           have HFIN:Hid (WalkP v w0 (some ⟨pb,poff,none⟩) pc (some ⟨b2,off2,none⟩) jc sa sc bf fr (f+1) (.slice au rs.length cu) tries rs t p way far w (.returned (.tuple #[])) wr):=FIN
           clear FIN LP
           go_wp2_with fail
           first
            | (go_end0;exact HFIN.out)
            | (refine bodyPost_ret (results_none rfl _ _ _) rfl ?_;exact HFIN.out)
    ·exact absurd (hnx.symm.trans HCs.out.1) (by simp)
end Go.Proofs.YtkhaehpobpkkiaaGreat
