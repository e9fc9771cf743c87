import Derived.Deep.RegionLaw
import Derived.BigQuiet
import Derived.Deep.CutRange
import Derived.Test.YtkhaehpobpkkiaaGreatNc
namespace Go.Proofs.YtkhaehpobpkkiaaGreat
open Go.RowKit
set_option maxRecDepth 100000 in
set_option maxHeartbeats 60000000 in
theorem walkSa {v:Ev}(ok:v.Ok){w0:World}{pa:Option Addr}{pc:Nat}{ja:Option Addr}{jc:Nat}{sa:Option Addr}{sc:Nat}(hN:NetIn w0 v pa ja sa){bf:Nat}(hbf:w0.heap.size≤bf){fr:Int}{f:Nat}(hfm:f≤1000)(ih:WalkC v w0 pa pc ja jc sa sc bf fr f):WalkD v w0 pa pc ja jc sa sc bf (cSig v) fr (f+1):=by
 intro out seen tries rs t sv lv xv qv p way far w hB hb ho hr3 htr ht hok hp hway hf0 hf1 hfu hCs
 obtain ⟨as1,cs1,hv⟩:=ht.s.val
 subst hv
 obtain ⟨al,cl,hv⟩:=ht.l.val
 subst hv
 obtain ⟨ax,cx,hv⟩:=ht.x.val
 subst hv
 obtain ⟨aq,cq,hv⟩:=ht.q.val
 subst hv
 obtain ⟨au,cu,hv⟩:=ho.val
 subst hv
 obtain ⟨as2,cs2,hv,hNs⟩:=ht.s.ls.val
 simp only [Value.slice.injEq] at hv
 obtain ⟨rfl,_,rfl⟩:=hv
 obtain ⟨i1,e11,e12,e13,e14⟩:=info_parts infoStep
 obtain ⟨i3,e31,e32,e33,e34⟩:=info_parts infoInt
 obtain ⟨i4,e41,e42,e43,e44⟩:=info_parts infoPart
 have hn1:=ok.n1
 have hm1:=ok.m1
 have hk1:=ok.k1
 have hln:=ok.ln p hp
 have hsl:=hok.st.len
 have hll:=hok.ll
 have hcl:=hok.cl
 have hpl:=hok.pl
 have hbl:=hb.lt
 have hw0:=hB.size
 have m4:w.cell? ⟨bf,4,none⟩=some (.slice au rs.length cu):=hb.cell 4
 have m5:w.cell? ⟨bf,5,none⟩=some (.int .i64 tries):=hb.cell 5
 have n5:=hb.free 5
 have m4':∀ o u,((w.setCell ⟨bf,5,none⟩ u).alloc o).cell? ⟨bf,4,none⟩=some (.slice au rs.length cu):=fun o u=>((hb.set 5 u).alloc o).cell 4
 have HB:Hid (Below w0.heap.size w0 w):=hB
 have HX:Hid (Box w bf 55 (fBox v pa pc ja jc sa sc (.slice au rs.length cu) tries seen)):=hb
 have HO:Hid (OutAt w0.heap.size w (.slice au rs.length cu) rs):=ho
 have HT:Hid (TlIn w0.heap.size w t (.slice as1 t.st.length cs1) (.slice al t.li.length cl) (.slice ax t.cr.length cx) (.slice aq t.pa.length cq)):=ht
 have HK:Hid (TlOk v t):=hok
 have HN:Hid (NetIn w0 v pa ja sa):=hN
 have OK:Hid v.Ok:=ok
 have IH:Hid (WalkC v w0 pa pc ja jc sa sc bf fr f):=ih
 have HCs:Hid (cSig v t p way far):=hCs
 clear hB hb ho ht hok hN ok ih hCs
 by_cases hx:300<rs.length∨20000<tries+1
 ·have HRS:Hid (Res tries rs (v.walk fr (f+1) t p way far) (tries+1) rs):=Res.stop (walk_pos v fr f t p way far) hx
  have FIN:=walk_stop (fr:=fr) (f:=f) (t:=t) (p:=p) (way:=way) (far:=far) HX.out HO.out hbf hr3 HRS.out (.cells #[.int .i64 fr,.int .i64 0,.slice as1 t.st.length cs1,.slice al t.li.length cl,.slice ax t.cr.length cx,.slice aq t.pa.length cq,.slice none 0 0,.slice none 0 0] 64)
  have HFIN:Hid (WalkP v w0 pa pc ja jc sa sc bf fr (f+1) (.slice au rs.length cu) tries rs t p way far w (.returned (.tuple #[])) _):=FIN
  clear FIN HRS
  by_cases h3:300<rs.length
  ·have h3':decide ((300:Int)<(rs.length:Int))=true:=by simp;omega
   clear hx
   go_enter Tryz.func22,Tryz.ntmps22
   go_wp2_with fail
   refine bodyPost_ret (results_none rfl _ _ _) rfl ?_
   exact HFIN.out
  ·have h3':decide ((300:Int)<(rs.length:Int))=false:=by simp;omega
   have h4':decide ((20000:Int)<(tries:Int)+1)=true:=by simp;omega
   clear hx
   go_enter Tryz.func22,Tryz.ntmps22
   go_wp2_with fail
   refine bodyPost_ret (results_none rfl _ _ _) rfl ?_
   exact HFIN.out
 ·have h3':decide ((300:Int)<(rs.length:Int))=false:=by simp;omega
  have h4':decide ((20000:Int)<(tries:Int)+1)=false:=by simp;omega
  have hR:rs.length≤300:=by omega
  have hT:tries+1≤20000:=by omega
  clear hx
  have WI:=walk_in HB.out HX.out HT.out hbf (.int .i64 fr) (.int .i64 0) (.slice none 0 0) (.slice none 0 0)
  go_enter Tryz.func22,Tryz.ntmps22
  go_wp2_with fail
  have WI1:Hid (WkS v w0 pa pc ja jc sa sc bf (.slice au rs.length cu) w w0.heap.size t (tries+1) seen #[.int .i64 fr,.int .i64 0,.slice as1 t.st.length cs1,.slice al t.li.length cl,.slice ax t.cr.length cx,.slice aq t.pa.length cq,.slice none 0 0,.slice none 0 0] (.slice as1 t.st.length cs1) (.slice al t.li.length cl) (.slice ax t.cr.length cx) (.slice aq t.pa.length cq) _):=WI
  clear WI
  generalize (w.setCell ⟨bf,5,none⟩ (.int .i64 ((tries:Int)+1))).alloc (.cells #[.int .i64 fr,.int .i64 0,.slice as1 t.st.length cs1,.slice al t.li.length cl,.slice ax t.cr.length cx,.slice aq t.pa.length cq,.slice none 0 0,.slice none 0 0] 64)=wa at *
  have hNa:NsAt 2 w0.heap.size wa as1 t.st.length (fnL t.st):=by
   obtain ⟨a9,c9,h9,hN9⟩:=WI1.out.tl.s.ls.val
   simp only [Value.slice.injEq] at h9
   obtain ⟨rfl,_,rfl⟩:=h9
   exact hN9
  have HW2:Hid (Wide 2 t.st):=WI1.out.tl.s.1
  clear hNs
  go_loopw [10,46] (fun b i wr=>∃ k:Nat,k≤t.st.length∧i=.int .i64 k∧b=.bool (decide ([(p:Int),way] ∈ t.st.take k))∧Below wa.heap.size wa wr) (fun _ i _=>t.st.length-(intOf i).toNat)
  case atStart=>exact ⟨0,Nat.zero_le _,rfl,by simp,Below.refl _ _⟩
  case round=>
   obtain ⟨k,hk,rfl,rfl,hbel⟩:=hrel
   by_cases hlt:k<t.st.length
   ·obtain ⟨b,off,rfl,_,hb,hc⟩:=(hNa.mono zl hbel lr) (by omega)
    have c0:wr.cell? ⟨b,off+k*2,none⟩=some (.int .i64 (fnL t.st k 0)):=hc k hlt 0 (by omega)
    have c1:wr.cell? ⟨b,off+k*2+1,none⟩=some (.int .i64 (fnL t.st k 1)):=hc k hlt 1 (by omega)
    have HM:Hid (decide ([(p:Int),way] ∈ t.st.take (k+1))=(decide ([(p:Int),way] ∈ t.st.take k) || (fnL t.st k 0 == (p:Int) && fnL t.st k 1 == way))):=take_mem HW2.out hlt
    clear hc
    have hBa:=hbel.alloc hbel.size (.cells #[.int .i64 (fnL t.st k 0),.int .i64 (fnL t.st k 1)] 100)
    generalize decide ([(p:Int),way] ∈ t.st.take k)=bk at *
    rcases bk with _ | _
    ·by_cases h1:fnL t.st k 0=(p:Int)
     ·have h1':(fnL t.st k 0 == (p:Int))=true:=by simp [h1]
      rw [h1'] at HM
      clear h1
      by_cases h2:fnL t.st k 1=way
      ·have h2':(fnL t.st k 1 == way)=true:=by simp [h2]
       rw [h2'] at HM
       clear h2
       go_wp2_with fail
       go_roundw
       case rel=>exact ⟨k+1,by omega,by go_num,by rw [HM.out];rfl,hBa⟩
       case measure=>simp [intOf];omega
      ·have h2':(fnL t.st k 1 == way)=false:=by simp [h2]
       rw [h2'] at HM
       clear h2
       go_wp2_with fail
       go_roundw
       case rel=>exact ⟨k+1,by omega,by go_num,by rw [HM.out];rfl,hBa⟩
       case measure=>simp [intOf];omega
     ·have h1':(fnL t.st k 0 == (p:Int))=false:=by simp [h1]
      rw [h1'] at HM
      clear h1
      go_wp2_with fail
      go_roundw
      case rel=>exact ⟨k+1,by omega,by go_num,by rw [HM.out];rfl,hBa⟩
      case measure=>simp [intOf];omega
    ·go_wp2_with fail
     go_roundw
     case rel=>exact ⟨k+1,by omega,by go_num,by rw [HM.out];rfl,hBa⟩
     case measure=>simp [intOf];omega
   ·obtain rfl:k=t.st.length:=by omega
    rw [List.take_length]
    have WI2:Hid (WkS v w0 pa pc ja jc sa sc bf (.slice au rs.length cu) w w0.heap.size t (tries+1) seen #[.int .i64 fr,.int .i64 0,.slice as1 t.st.length cs1,.slice al t.li.length cl,.slice ax t.cr.length cx,.slice aq t.pa.length cq,.slice none 0 0,.slice none 0 0] (.slice as1 t.st.length cs1) (.slice al t.li.length cl) (.slice ax t.cr.length cx) (.slice aq t.pa.length cq) wr):=WI1.out.mono hbel
    clear hNa hbel WI1 HW2
    have z2:=WI2.out.bel.size
    have zf2:=WI2.out.fr.size
    have q0:wr.cell? ⟨w.heap.size,0,none⟩=some (.int .i64 fr):=WI2.out.rt.cell 0
    have q1:wr.cell? ⟨w.heap.size,1,none⟩=some (.int .i64 0):=WI2.out.rt.cell 1
    have q2:wr.cell? ⟨w.heap.size,2,none⟩=some (.slice as1 t.st.length cs1):=WI2.out.rt.cell 2
    have q3:wr.cell? ⟨w.heap.size,3,none⟩=some (.slice al t.li.length cl):=WI2.out.rt.cell 3
    have q4:wr.cell? ⟨w.heap.size,4,none⟩=some (.slice ax t.cr.length cx):=WI2.out.rt.cell 4
    have q5:wr.cell? ⟨w.heap.size,5,none⟩=some (.slice aq t.pa.length cq):=WI2.out.rt.cell 5
    have q6:wr.cell? ⟨w.heap.size,6,none⟩=some (.slice none 0 0):=WI2.out.rt.cell 6
    have q7:wr.cell? ⟨w.heap.size,7,none⟩=some (.slice none 0 0):=WI2.out.rt.cell 7
    go_wp2_with fail
    refine (l12copy52 fr 0 (.slice as1 t.st.length cs1) (.slice al t.li.length cl) (.slice ax t.cr.length cx) (.slice aq t.pa.length cq) (.slice none 0 0) (.slice none 0 0) t.st t.li t.cr t.pa wr (WI2.out.tl.s.ls.mono zl (Below.refl wr.heap.size wr) lr) (WI2.out.tl.l.ls.mono zl (Below.refl wr.heap.size wr) lr) (WI2.out.tl.x.ls.mono zl (Below.refl wr.heap.size wr) lr) (WI2.out.tl.q.ls.mono zl (Below.refl wr.heap.size wr) lr) (by omega) (by omega) (by omega) (by omega) ⟨_,_,_,rfl⟩ ⟨_,_,_,rfl⟩).mono ?_
    rintro e1 w1 ⟨sv1,lv1,xv1,qv1,rfl,g1,g2,g3,g4,hb1⟩
    obtain ⟨as3,cs3,hv⟩:=g1.val
    subst hv
    obtain ⟨al3,cl3,hv⟩:=g2.val
    subst hv
    obtain ⟨ax3,cx3,hv⟩:=g3.val
    subst hv
    obtain ⟨aq3,cq3,hv⟩:=g4.val
    subst hv
    clear q0 q1 q2 q3 q4 q5 q6 q7
    have WI3:=WI2.out.mono hb1
    have zr:=WI2.out.rt.lt
    have rb:=WI3.rt
    have f0:=rb.free 0
    have f1:=rb.free 1
    have f2:=rb.free 2
    have f3:=rb.free 3
    have f4:=rb.free 4
    have f5:=rb.free 5
    have f6:=rb.free 6
    have f7:=rb.free 7
    have q0:w1.cell? ⟨w.heap.size,0,none⟩=some (.int .i64 fr):=rb.cell 0
    have q1:w1.cell? ⟨w.heap.size,1,none⟩=some (.int .i64 0):=rb.cell 1
    have q2:w1.cell? ⟨w.heap.size,2,none⟩=some (.slice as1 t.st.length cs1):=rb.cell 2
    have q3:w1.cell? ⟨w.heap.size,3,none⟩=some (.slice al t.li.length cl):=rb.cell 3
    have q4:w1.cell? ⟨w.heap.size,4,none⟩=some (.slice ax t.cr.length cx):=rb.cell 4
    have q5:w1.cell? ⟨w.heap.size,5,none⟩=some (.slice aq t.pa.length cq):=rb.cell 5
    have q6:w1.cell? ⟨w.heap.size,6,none⟩=some (.slice none 0 0):=rb.cell 6
    have q7:w1.cell? ⟨w.heap.size,7,none⟩=some (.slice none 0 0):=rb.cell 7
    have WS4:Hid (WkS v w0 pa pc ja jc sa sc bf (.slice au rs.length cu) w w.heap.size t (tries+1) seen #[.int .i64 fr,.int .i64 0,.slice as3 t.st.length cs3,.slice al3 t.li.length cl3,.slice ax3 t.cr.length cx3,.slice aq3 t.pa.length cq3,.slice none 0 0,.slice none 0 0] (.slice as3 t.st.length cs3) (.slice al3 t.li.length cl3) (.slice ax3 t.cr.length cx3) (.slice aq3 t.pa.length cq3) (set8 w1 w.heap.size (.int .i64 fr) (.int .i64 0) (.slice as3 t.st.length cs3) (.slice al3 t.li.length cl3) (.slice ax3 t.cr.length cx3) (.slice aq3 t.pa.length cq3) (.slice none 0 0) (.slice none 0 0))):=WI3.fill hw0 hbl (g1.keep zf2 fun _ _=>rfl) (g2.keep zf2 fun _ _=>rfl) (g3.keep zf2 fun _ _=>rfl) (g4.keep zf2 fun _ _=>rfl)
    clear rb WI2 WI3 g1 g2 g3 g4
    have z1b:=hb1.size
    go_wp2_with (at_builtin;go_must (refine wpList_appH _ rfl (.tmp 67) (.tmp 71) 58 rfl w.heap.size 100 i1 _ 2 16 Tryz.underlying58 e11 e12 e13 e14 rfl (by decide) _ t.st rfl (WS4.out.tl.s.alloc _) ⟨w1.heap.size,0,none⟩ 1 1 [[(p:Int),way]] rfl rfl (by decide) (Wide.one rfl) (news_at [(p:Int),way] (by simp)) (by simp [maxLen];omega) (by omega) (by simp;omega) ?_))
    refine Halt.mk fun v5 w5 ho5 _ hap5=>?_
    obtain ⟨as5,cs5,rfl⟩:=ho5.val
    rw [List.length_append] at ho5 hap5
    have WS5:=WS4.out.addS hw0 hbl ho5 hap5
    have r5:Box w5 w.heap.size 64 _:=(WS4.out.rt.alloc _).grown hap5.fr (fun e=>WS4.out.tl.s.off WS4.out.rt (by decide) e rfl)
    have fr2:=r5.free 2
    have fc2:w5.cell? ⟨w.heap.size,2,none⟩=some (.slice as3 t.st.length cs3):=r5.cell 2
    have WS6:Hid (WkS v w0 pa pc ja jc sa sc bf (.slice au rs.length cu) w w.heap.size { t with st:=t.st ++ [[(p:Int),way]] } (tries+1) seen #[.int .i64 fr,.int .i64 0,.slice as5 (t.st.length+1) cs5,.slice al3 t.li.length cl3,.slice ax3 t.cr.length cx3,.slice aq3 t.pa.length cq3,.slice none 0 0,.slice none 0 0] (.slice as5 (t.st.length+1) cs5) (.slice al3 t.li.length cl3) (.slice ax3 t.cr.length cx3) (.slice aq3 t.pa.length cq3) (w5.setCell ⟨w.heap.size,2,none⟩ (.slice as5 (t.st.length+1) cs5))):=WS5
    clear WS5 WS4 r5 ho5 hap5 hb1 q0 q1 q2 q3 q4 q5 q6 q7 f0 f1 f2 f3 f4 f5 f6 f7
    go_wp2_with fail
    generalize w5.setCell ⟨w.heap.size,2,none⟩ (.slice as5 (t.st.length+1) cs5)=w6 at *
    have y0:w6.cell? ⟨bf,0,none⟩=some (.slice pa v.n pc):=WS6.out.bx.cell 0
    have y1:w6.cell? ⟨bf,1,none⟩=some (.slice ja v.m jc):=WS6.out.bx.cell 1
    have y2:w6.cell? ⟨bf,2,none⟩=some (.slice sa v.k sc):=WS6.out.bx.cell 2
    have T6:bf<w6.heap.size:=WS6.out.bx.lt
    have hP6:PsAt 0 w6.drew pa v.n v.P:=HN.out.p.mono lr WS6.out.bel.drew lr
    have hS6:PsAt 0 w6.drew sa v.k v.S:=HN.out.s.mono lr WS6.out.bel.drew lr
    have Hsp:Hid (∀ i,i<v.k→0≤(v.S i).sp∧(v.S i).sp≤10000000):=fun i hi=>by
     obtain ⟨s1,s2,s3,s4,s5⟩:=OK.out.sg i hi
     have:=OK.out.ln (v.S i).ln.toNat (by omega)
     omega
    go_region_held3 (fun w'=>w'.cell? ⟨bf,0,none⟩=some (.slice pa v.n pc)∧w'.cell? ⟨bf,1,none⟩=some (.slice ja v.m jc)∧w'.cell? ⟨bf,2,none⟩=some (.slice sa v.k sc)) (go_keep) (first | (go_at_call 53;refine (l12signal74 pa v.n pc v.P ja v.m jc sa v.k sc v.S p way far _ (by omega) hp (by omega) hP6 hS6 hln Hsp.out).mono ?_;rintro e w7 ⟨rfl,hb7⟩;have k0:=(hb7.cell (p:=⟨bf,0,none⟩) T6).trans y0;have k1:=(hb7.cell (p:=⟨bf,1,none⟩) T6).trans y1;have k2:=(hb7.cell (p:=⟨bf,2,none⟩) T6).trans y2))
    have WS7:Hid (WkS v w0 pa pc ja jc sa sc bf (.slice au rs.length cu) w w.heap.size { t with st:=t.st ++ [[(p:Int),way]] } (tries+1) seen #[.int .i64 fr,.int .i64 0,.slice as5 (t.st.length+1) cs5,.slice al3 t.li.length cl3,.slice ax3 t.cr.length cx3,.slice aq3 t.pa.length cq3,.slice none 0 0,.slice none 0 0] (.slice as5 (t.st.length+1) cs5) (.slice al3 t.li.length cl3) (.slice ax3 t.cr.length cx3) (.slice aq3 t.pa.length cq3) w7):=WS6.out.mono ((Below.refl w6.heap.size w6).drew.trans hb7)
    clear k0 k1 k2 y0 y1 y2 hP6 hS6 hb7 WS6 T6
    rcases hnx:nextS (v.P p).ln v.S p way far v.k with _ | bb
    ·exact absurd hnx HCs.out
    ·rw [show bestV (some bb)=(bb:Int) from rfl]
     have HNX:Hid (nextS (v.P p).ln v.S p way far v.k=some bb):=hnx
     have hbb:=nextS_lt hnx
     have hbb0:decide ((bb:Int)<0)=false:=by simp
     have hbb1:decide ((0:Int)≤(bb:Int))=true:=by simp
     clear hnx
     have HRES:Hid (Res tries rs (v.walk fr (f+1) t p way far) (tries+1) (rs ++ [v.fin fr bb { t with st:=t.st ++ [[(p:Int),way]],pa:=t.pa ++ [partR (v.P p).ln p way far (farI (v.P p).ln (v.S bb).sp way)] } (v.bey v.ov.toNat v.ov p way (farI (v.P p).ln (v.S bb).sp way))])):=by
      show Res _ _ _ _ _
      rw [walk_sig HNX.out]
      exact Res.some _ _ _
     obtain ⟨sb,soff,hsa,_,hsb,hsc⟩:=HN.out.s (by omega)
     subst hsa
     have y0:w7.cell? ⟨bf,0,none⟩=some (.slice pa v.n pc):=WS7.out.bx.cell 0
     have y1:w7.cell? ⟨bf,1,none⟩=some (.slice ja v.m jc):=WS7.out.bx.cell 1
     have y2:w7.cell? ⟨bf,2,none⟩=some (.slice (some ⟨sb,soff,none⟩) v.k sc):=WS7.out.bx.cell 2
     have y3:w7.cell? ⟨sb,soff+bb*4+2,none⟩=some (.int .i64 (v.S bb).sp):=(WS7.out.bel.cell (p:=⟨sb,soff+bb*4+2,none⟩) hsb).trans (hsc bb hbb).2.2.1
     have T7:bf<w7.heap.size:=WS7.out.bx.lt
     have T8:sb<w7.heap.size:=by have:=WS7.out.bel.size;omega
     have hP7:PsAt 0 w7.drew pa v.n v.P:=HN.out.p.mono lr WS7.out.bel.drew lr
     have hspb:=Hsp.out bb hbb
     have hbk:(bb:Int)<(v.k:Int):=by omega
     have hb00:(0:Int)≤(bb:Int):=by omega
     obtain ⟨sg1,sg2,sg3,sg4,sg5⟩:=OK.out.sg bb hbb
     clear hsc
     go_wp2_with fail
     go_region_held3 (fun w'=>w'.cell? ⟨bf,0,none⟩=some (.slice pa v.n pc)∧w'.cell? ⟨bf,1,none⟩=some (.slice ja v.m jc)∧w'.cell? ⟨bf,2,none⟩=some (.slice (some ⟨sb,soff,none⟩) v.k sc)∧w'.cell? ⟨sb,soff+bb*4+2,none⟩=some (.int .i64 (v.S bb).sp)) (go_keep) (first | (go_at_call 23;refine (l12far47 pa v.n pc v.P ja v.m jc p (v.S bb).sp way _ (by omega) hp hP7 hln hspb).mono ?_;rintro e w8 ⟨rfl,hb8⟩;have k0:=(hb8.cell (p:=⟨bf,0,none⟩) T7).trans y0;have k1:=(hb8.cell (p:=⟨bf,1,none⟩) T7).trans y1;have k2:=(hb8.cell (p:=⟨bf,2,none⟩) T7).trans y2;have k3:=(hb8.cell (p:=⟨sb,soff+bb*4+2,none⟩) T8).trans y3))
     have WS8:Hid (WkS v w0 pa pc ja jc (some ⟨sb,soff,none⟩) sc bf (.slice au rs.length cu) w w.heap.size { t with st:=t.st ++ [[(p:Int),way]] } (tries+1) seen #[.int .i64 fr,.int .i64 0,.slice as5 (t.st.length+1) cs5,.slice al3 t.li.length cl3,.slice ax3 t.cr.length cx3,.slice aq3 t.pa.length cq3,.slice none 0 0,.slice none 0 0] (.slice as5 (t.st.length+1) cs5) (.slice al3 t.li.length cl3) (.slice ax3 t.cr.length cx3) (.slice aq3 t.pa.length cq3) w8):=WS7.out.mono ((Below.refl w7.heap.size w7).drew.trans hb8)
     clear k0 k1 k2 k3 y0 y1 y2 y3 hP7 hb8 WS7 T7 T8
     have x0:w8.cell? ⟨bf,0,none⟩=some (.slice pa v.n pc):=WS8.out.bx.cell 0
     have x1:w8.cell? ⟨bf,1,none⟩=some (.slice ja v.m jc):=WS8.out.bx.cell 1
     have x5:w8.cell? ⟨w.heap.size,5,none⟩=some (.slice aq3 t.pa.length cq3):=WS8.out.rt.cell 5
     have hP8:PsAt 0 w8.drew pa v.n v.P:=HN.out.p.mono lr WS8.out.bel.drew lr
     obtain ⟨ns1,ns2,ns3⟩:=nextS_spec HNX.out
     rw [ns1] at sg5
     rw [show ((p:Int)).toNat=p by simp] at sg5
     have hen:farI (v.P p).ln (v.S bb).sp way<(v.P p).ln∧0≤farI (v.P p).ln (v.S bb).sp way:=by
      unfold farI
      split <;> omega
     clear ns1 ns2 ns3
     generalize farI (v.P p).ln (v.S bb).sp way=en at *
     go_wp2_with fail
     go_cut [] from 23 (fun wx=>∃ aq4 cq4,Hid (WkS v w0 pa pc ja jc (some ⟨sb,soff,none⟩) sc bf (.slice au rs.length cu) w w.heap.size { t with st:=t.st ++ [[(p:Int),way]],pa:=t.pa ++ [partR (v.P p).ln p way far en] } (tries+1) seen #[.int .i64 fr,.int .i64 0,.slice as5 (t.st.length+1) cs5,.slice al3 t.li.length cl3,.slice ax3 t.cr.length cx3,.slice aq4 (t.pa.length+1) cq4,.slice none 0 0,.slice none 0 0] (.slice as5 (t.st.length+1) cs5) (.slice al3 t.li.length cl3) (.slice ax3 t.cr.length cx3) (.slice aq4 (t.pa.length+1) cq4) wx))
     case first=>
      go_region_law (first | (refine step_call rfl 54 #[.agg #[.slice pa v.n pc,.slice ja v.m jc],.int .i64 p,.int .i64 way,.int .i64 far,.int .i64 en] (by simp [Act.eval,go_sem]) (l12part75 pa v.n pc v.P ja v.m jc p way far en _ (by omega) hp hP8 hln ⟨hf0,by omega⟩ (by omega)) ?_;intro w9 hb9;have WS9:Hid (WkS v w0 pa pc ja jc (some ⟨sb,soff,none⟩) sc bf (.slice au rs.length cu) w w.heap.size { t with st:=t.st ++ [[(p:Int),way]] } (tries+1) seen #[.int .i64 fr,.int .i64 0,.slice as5 (t.st.length+1) cs5,.slice al3 t.li.length cl3,.slice ax3 t.cr.length cx3,.slice aq3 t.pa.length cq3,.slice none 0 0,.slice none 0 0] (.slice as5 (t.st.length+1) cs5) (.slice al3 t.li.length cl3) (.slice ax3 t.cr.length cx3) (.slice aq3 t.pa.length cq3) w9):=WS8.out.mono ((Below.refl w8.heap.size w8).drew.trans hb9);have k5:w9.cell? ⟨w.heap.size,5,none⟩=some (.slice aq3 t.pa.length cq3):=WS9.out.rt.cell 5;have k5':∀ o,(w9.alloc o).cell? ⟨w.heap.size,5,none⟩=some (.slice aq3 t.pa.length cq3):=fun o=>(WS9.out.rt.alloc o).cell 5;have z9:=WS9.out.fr.size) | (refine step_app rfl (.tmp 109) (.tmp 119) 61 rfl w.heap.size 104 i4 (.agg #[.int .i64 0,.int .i64 0,.int .i64 0]) 3 24 Tryz.underlying61 e41 e42 e43 e44 rfl (by decide) (.slice aq3 t.pa.length cq3) t.pa (by simp [Act.eval]) (WS9.out.tl.q.alloc _) ⟨w9.heap.size,0,none⟩ 1 1 [partR (v.P p).ln p way far en] (by simp [Act.eval]) rfl (by decide) (Wide.one rfl) (news_at (partR (v.P p).ln p way far en) rfl) (by simp [maxLen];omega) (by omega) (by simp;omega) ?_;intro v10 w10 ho10 hx10 hap10;have r10:Box w10 w.heap.size 64 _:=(WS9.out.rt.alloc _).grown hap10.fr (fun e=>WS9.out.tl.q.off WS9.out.rt (by decide) e rfl);have t10:=r10.free 5;have u10:w10.cell? ⟨w.heap.size,5,none⟩=some (.slice aq3 t.pa.length cq3):=r10.cell 5;obtain ⟨aq4,cq4,rfl⟩:=ho10.val;rw [List.length_append] at ho10 hap10))
      all_goals
       go_wp2_with fail
       go_meet
       case rel=>exact ⟨_,_,WS9.out.addQ hw0 hbl ho10 hap10⟩
     case rest=>
      obtain ⟨aq4,cq4,WC⟩:=hcut
      clear WS8 x0 x1 x5 hP8
      have r1:wc.cell? ⟨w.heap.size,1,none⟩=some (.int .i64 0):=WC.out.rt.cell 1
      have s1:=WC.out.rt.free 1
      have WD:Hid (WkS v w0 pa pc ja jc (some ⟨sb,soff,none⟩) sc bf (.slice au rs.length cu) w w.heap.size { t with st:=t.st ++ [[(p:Int),way]],pa:=t.pa ++ [partR (v.P p).ln p way far en] } (tries+1) seen #[.int .i64 fr,.int .i64 bb,.slice as5 (t.st.length+1) cs5,.slice al3 t.li.length cl3,.slice ax3 t.cr.length cx3,.slice aq4 (t.pa.length+1) cq4,.slice none 0 0,.slice none 0 0] (.slice as5 (t.st.length+1) cs5) (.slice al3 t.li.length cl3) (.slice ax3 t.cr.length cx3) (.slice aq4 (t.pa.length+1) cq4) (wc.setCell ⟨w.heap.size,1,none⟩ (.int .i64 bb))):=by
       have:=WC.out.putR hw0 hbl 1 (.int .i64 bb)
       simp at this
       exact this
      have zc:=WC.out.fr.size
      have zc0:=WC.out.bel.size
      go_wp2_with fail
      generalize wc.setCell ⟨w.heap.size,1,none⟩ (.int .i64 bb)=wd at *
      refine (beyond55 v OK.out bf pa pc ja jc (some ⟨sb,soff,none⟩) sc _ _ _ p way en wd WD.out.bx (HN.out.mono WD.out.bel lr) hp hway (by omega) (by omega)).mono ?_
      rintro e we ⟨ovv,rfl,hov,hbe⟩
      obtain ⟨ovl,hovl⟩:∃ ovl,ovl=v.bey v.ov.toNat v.ov p way en:=⟨_,rfl⟩
      rw [← hovl] at hov HRES
      obtain ⟨ao,co,hv⟩:=hov.val
      subst hv
      have WE:Hid (WkS v w0 pa pc ja jc (some ⟨sb,soff,none⟩) sc bf (.slice au rs.length cu) w w.heap.size { t with st:=t.st ++ [[(p:Int),way]],pa:=t.pa ++ [partR (v.P p).ln p way far en] } (tries+1) seen #[.int .i64 fr,.int .i64 bb,.slice as5 (t.st.length+1) cs5,.slice al3 t.li.length cl3,.slice ax3 t.cr.length cx3,.slice aq4 (t.pa.length+1) cq4,.slice none 0 0,.slice none 0 0] (.slice as5 (t.st.length+1) cs5) (.slice al3 t.li.length cl3) (.slice ax3 t.cr.length cx3) (.slice aq4 (t.pa.length+1) cq4) we):=WD.out.mono hbe
      have r6:we.cell? ⟨w.heap.size,6,none⟩=some (.slice none 0 0):=WE.out.rt.cell 6
      have s6:=WE.out.rt.free 6
      have zd:=WD.out.bel.size
      have OV:Own w0.heap.size 104 3 (we.setCell ⟨w.heap.size,6,none⟩ (.slice ao ovl.length co)) (.slice ao ovl.length co) ovl:=(hov.keep zd fun _ _=>rfl).set WE.out.rt (by decide) 6 _
      have HOV:Hid (Own w0.heap.size 104 3 (we.setCell ⟨w.heap.size,6,none⟩ (.slice ao ovl.length co)) (.slice ao ovl.length co) ovl):=OV
      have WF:Hid (WkS v w0 pa pc ja jc (some ⟨sb,soff,none⟩) sc bf (.slice au rs.length cu) w w.heap.size { t with st:=t.st ++ [[(p:Int),way]],pa:=t.pa ++ [partR (v.P p).ln p way far en] } (tries+1) seen #[.int .i64 fr,.int .i64 bb,.slice as5 (t.st.length+1) cs5,.slice al3 t.li.length cl3,.slice ax3 t.cr.length cx3,.slice aq4 (t.pa.length+1) cq4,.slice ao ovl.length co,.slice none 0 0] (.slice as5 (t.st.length+1) cs5) (.slice al3 t.li.length cl3) (.slice ax3 t.cr.length cx3) (.slice aq4 (t.pa.length+1) cq4) (we.setCell ⟨w.heap.size,6,none⟩ (.slice ao ovl.length co))):=by
       have:=WE.out.putR hw0 hbl 6 (.slice ao ovl.length co)
       simp at this
       exact this
      have HOVL:Hid (ovl=v.bey v.ov.toNat v.ov p way en):=hovl
      clear hovl OV hov hbe WC WD WE
      have c0:(we.setCell ⟨w.heap.size,6,none⟩ (.slice ao ovl.length co)).cell? ⟨w.heap.size,0,none⟩=some (.int .i64 fr):=WF.out.rt.cell 0
      have c1:(we.setCell ⟨w.heap.size,6,none⟩ (.slice ao ovl.length co)).cell? ⟨w.heap.size,1,none⟩=some (.int .i64 bb):=WF.out.rt.cell 1
      have c2:(we.setCell ⟨w.heap.size,6,none⟩ (.slice ao ovl.length co)).cell? ⟨w.heap.size,2,none⟩=some (.slice as5 (t.st.length+1) cs5):=WF.out.rt.cell 2
      have c3:(we.setCell ⟨w.heap.size,6,none⟩ (.slice ao ovl.length co)).cell? ⟨w.heap.size,3,none⟩=some (.slice al3 t.li.length cl3):=WF.out.rt.cell 3
      have c4:(we.setCell ⟨w.heap.size,6,none⟩ (.slice ao ovl.length co)).cell? ⟨w.heap.size,4,none⟩=some (.slice ax3 t.cr.length cx3):=WF.out.rt.cell 4
      have c5:(we.setCell ⟨w.heap.size,6,none⟩ (.slice ao ovl.length co)).cell? ⟨w.heap.size,5,none⟩=some (.slice aq4 (t.pa.length+1) cq4):=WF.out.rt.cell 5
      have c6:(we.setCell ⟨w.heap.size,6,none⟩ (.slice ao ovl.length co)).cell? ⟨w.heap.size,6,none⟩=some (.slice ao ovl.length co):=WF.out.rt.cell 6
      have c7:(we.setCell ⟨w.heap.size,6,none⟩ (.slice ao ovl.length co)).cell? ⟨w.heap.size,7,none⟩=some (.slice none 0 0):=WF.out.rt.cell 7
      go_wp2_with fail
      refine (done56 OK.out HN.out hbf _ _ seen rs fr bb { t with st:=t.st ++ [[(p:Int),way]],pa:=t.pa ++ [partR (v.P p).ln p way far en] } ovl _ _ _ _ _ _ WF.out.bel WF.out.bx (WF.out.ob HX.out HO.out) hR (WF.out.tl.lower hw0).s (WF.out.tl.lower hw0).l (WF.out.tl.lower hw0).x (WF.out.tl.lower hw0).q HOV.out HK.out.li (by show t.li.length≤200;omega)).mono ?_
      intro e wg hd
      have FIN:=walk_route (rs:=rs) (fr:=fr) (f:=f) (t0:=t) (p:=p) (way:=way) (far:=far) WF.out hR HRES.out hd
      obtain ⟨rfl,FIN2⟩:=FIN
      have HFIN:Hid (WalkP v w0 pa pc ja jc (some ⟨sb,soff,none⟩) sc bf fr (f+1) (.slice au rs.length cu) tries rs t p way far w (.returned (.tuple #[])) wg):=⟨rfl,FIN2⟩
      clear FIN2 hd WF c0 c1 c2 c3 c4 c5 c6 c7
      go_wp2_with fail
      refine bodyPost_ret (results_none rfl _ _ _) rfl ?_
      exact HFIN.out
set_option maxRecDepth 100000 in
set_option maxHeartbeats 60000000 in
theorem walkSb {v:Ev}(ok:v.Ok){w0:World}{pa:Option Addr}{pc:Nat}{ja:Option Addr}{jc:Nat}{sa:Option Addr}{sc:Nat}(hN:NetIn w0 v pa ja sa){bf:Nat}(hbf:w0.heap.size≤bf){fr:Int}{f:Nat}(hfm:f≤1000)(ih:WalkC v w0 pa pc ja jc sa sc bf fr f):WalkD v w0 pa pc ja jc sa sc bf (cAgain v) fr (f+1):=by
 intro out seen tries rs t sv lv xv qv p way far w hB hb ho hr3 htr ht hok hp hway hf0 hf1 hfu hCs
 obtain ⟨as1,cs1,hv⟩:=ht.s.val
 subst hv
 obtain ⟨al,cl,hv⟩:=ht.l.val
 subst hv
 obtain ⟨ax,cx,hv⟩:=ht.x.val
 subst hv
 obtain ⟨aq,cq,hv⟩:=ht.q.val
 subst hv
 obtain ⟨au,cu,hv⟩:=ho.val
 subst hv
 obtain ⟨as2,cs2,hv,hNs⟩:=ht.s.ls.val
 simp only [Value.slice.injEq] at hv
 obtain ⟨rfl,_,rfl⟩:=hv
 obtain ⟨i1,e11,e12,e13,e14⟩:=info_parts infoStep
 obtain ⟨i3,e31,e32,e33,e34⟩:=info_parts infoInt
 obtain ⟨i4,e41,e42,e43,e44⟩:=info_parts infoPart
 have hn1:=ok.n1
 have hm1:=ok.m1
 have hk1:=ok.k1
 have hln:=ok.ln p hp
 have hsl:=hok.st.len
 have hll:=hok.ll
 have hcl:=hok.cl
 have hpl:=hok.pl
 have hbl:=hb.lt
 have hw0:=hB.size
 have m4:w.cell? ⟨bf,4,none⟩=some (.slice au rs.length cu):=hb.cell 4
 have m5:w.cell? ⟨bf,5,none⟩=some (.int .i64 tries):=hb.cell 5
 have n5:=hb.free 5
 have m4':∀ o u,((w.setCell ⟨bf,5,none⟩ u).alloc o).cell? ⟨bf,4,none⟩=some (.slice au rs.length cu):=fun o u=>((hb.set 5 u).alloc o).cell 4
 have HB:Hid (Below w0.heap.size w0 w):=hB
 have HX:Hid (Box w bf 55 (fBox v pa pc ja jc sa sc (.slice au rs.length cu) tries seen)):=hb
 have HO:Hid (OutAt w0.heap.size w (.slice au rs.length cu) rs):=ho
 have HT:Hid (TlIn w0.heap.size w t (.slice as1 t.st.length cs1) (.slice al t.li.length cl) (.slice ax t.cr.length cx) (.slice aq t.pa.length cq)):=ht
 have HK:Hid (TlOk v t):=hok
 have HN:Hid (NetIn w0 v pa ja sa):=hN
 have OK:Hid v.Ok:=ok
 have IH:Hid (WalkC v w0 pa pc ja jc sa sc bf fr f):=ih
 have HCs:Hid (cAgain v t p way far):=hCs
 clear hB hb ho ht hok hN ok ih hCs
 by_cases hx:300<rs.length∨20000<tries+1
 ·have HRS:Hid (Res tries rs (v.walk fr (f+1) t p way far) (tries+1) rs):=Res.stop (walk_pos v fr f t p way far) hx
  have FIN:=walk_stop (fr:=fr) (f:=f) (t:=t) (p:=p) (way:=way) (far:=far) HX.out HO.out hbf hr3 HRS.out (.cells #[.int .i64 fr,.int .i64 0,.slice as1 t.st.length cs1,.slice al t.li.length cl,.slice ax t.cr.length cx,.slice aq t.pa.length cq,.slice none 0 0,.slice none 0 0] 64)
  have HFIN:Hid (WalkP v w0 pa pc ja jc sa sc bf fr (f+1) (.slice au rs.length cu) tries rs t p way far w (.returned (.tuple #[])) _):=FIN
  clear FIN HRS
  by_cases h3:300<rs.length
  ·have h3':decide ((300:Int)<(rs.length:Int))=true:=by simp;omega
   clear hx
   go_enter Tryz.func22,Tryz.ntmps22
   go_wp2_with fail
   refine bodyPost_ret (results_none rfl _ _ _) rfl ?_
   exact HFIN.out
  ·have h3':decide ((300:Int)<(rs.length:Int))=false:=by simp;omega
   have h4':decide ((20000:Int)<(tries:Int)+1)=true:=by simp;omega
   clear hx
   go_enter Tryz.func22,Tryz.ntmps22
   go_wp2_with fail
   refine bodyPost_ret (results_none rfl _ _ _) rfl ?_
   exact HFIN.out
 ·have h3':decide ((300:Int)<(rs.length:Int))=false:=by simp;omega
  have h4':decide ((20000:Int)<(tries:Int)+1)=false:=by simp;omega
  have hR:rs.length≤300:=by omega
  have hT:tries+1≤20000:=by omega
  clear hx
  have WI:=walk_in HB.out HX.out HT.out hbf (.int .i64 fr) (.int .i64 0) (.slice none 0 0) (.slice none 0 0)
  go_enter Tryz.func22,Tryz.ntmps22
  go_wp2_with fail
  have WI1:Hid (WkS v w0 pa pc ja jc sa sc bf (.slice au rs.length cu) w w0.heap.size t (tries+1) seen #[.int .i64 fr,.int .i64 0,.slice as1 t.st.length cs1,.slice al t.li.length cl,.slice ax t.cr.length cx,.slice aq t.pa.length cq,.slice none 0 0,.slice none 0 0] (.slice as1 t.st.length cs1) (.slice al t.li.length cl) (.slice ax t.cr.length cx) (.slice aq t.pa.length cq) _):=WI
  clear WI
  generalize (w.setCell ⟨bf,5,none⟩ (.int .i64 ((tries:Int)+1))).alloc (.cells #[.int .i64 fr,.int .i64 0,.slice as1 t.st.length cs1,.slice al t.li.length cl,.slice ax t.cr.length cx,.slice aq t.pa.length cq,.slice none 0 0,.slice none 0 0] 64)=wa at *
  have hNa:NsAt 2 w0.heap.size wa as1 t.st.length (fnL t.st):=by
   obtain ⟨a9,c9,h9,hN9⟩:=WI1.out.tl.s.ls.val
   simp only [Value.slice.injEq] at h9
   obtain ⟨rfl,_,rfl⟩:=h9
   exact hN9
  have HW2:Hid (Wide 2 t.st):=WI1.out.tl.s.1
  clear hNs
  go_loopw [10,46] (fun b i wr=>∃ k:Nat,k≤t.st.length∧i=.int .i64 k∧b=.bool (decide ([(p:Int),way] ∈ t.st.take k))∧Below wa.heap.size wa wr) (fun _ i _=>t.st.length-(intOf i).toNat)
  case atStart=>exact ⟨0,Nat.zero_le _,rfl,by simp,Below.refl _ _⟩
  case round=>
   obtain ⟨k,hk,rfl,rfl,hbel⟩:=hrel
   by_cases hlt:k<t.st.length
   ·obtain ⟨b,off,rfl,_,hb,hc⟩:=(hNa.mono zl hbel lr) (by omega)
    have c0:wr.cell? ⟨b,off+k*2,none⟩=some (.int .i64 (fnL t.st k 0)):=hc k hlt 0 (by omega)
    have c1:wr.cell? ⟨b,off+k*2+1,none⟩=some (.int .i64 (fnL t.st k 1)):=hc k hlt 1 (by omega)
    have HM:Hid (decide ([(p:Int),way] ∈ t.st.take (k+1))=(decide ([(p:Int),way] ∈ t.st.take k) || (fnL t.st k 0 == (p:Int) && fnL t.st k 1 == way))):=take_mem HW2.out hlt
    clear hc
    have hBa:=hbel.alloc hbel.size (.cells #[.int .i64 (fnL t.st k 0),.int .i64 (fnL t.st k 1)] 100)
    generalize decide ([(p:Int),way] ∈ t.st.take k)=bk at *
    rcases bk with _ | _
    ·by_cases h1:fnL t.st k 0=(p:Int)
     ·have h1':(fnL t.st k 0 == (p:Int))=true:=by simp [h1]
      rw [h1'] at HM
      clear h1
      by_cases h2:fnL t.st k 1=way
      ·have h2':(fnL t.st k 1 == way)=true:=by simp [h2]
       rw [h2'] at HM
       clear h2
       go_wp2_with fail
       go_roundw
       case rel=>exact ⟨k+1,by omega,by go_num,by rw [HM.out];rfl,hBa⟩
       case measure=>simp [intOf];omega
      ·have h2':(fnL t.st k 1 == way)=false:=by simp [h2]
       rw [h2'] at HM
       clear h2
       go_wp2_with fail
       go_roundw
       case rel=>exact ⟨k+1,by omega,by go_num,by rw [HM.out];rfl,hBa⟩
       case measure=>simp [intOf];omega
     ·have h1':(fnL t.st k 0 == (p:Int))=false:=by simp [h1]
      rw [h1'] at HM
      clear h1
      go_wp2_with fail
      go_roundw
      case rel=>exact ⟨k+1,by omega,by go_num,by rw [HM.out];rfl,hBa⟩
      case measure=>simp [intOf];omega
    ·go_wp2_with fail
     go_roundw
     case rel=>exact ⟨k+1,by omega,by go_num,by rw [HM.out];rfl,hBa⟩
     case measure=>simp [intOf];omega
   ·obtain rfl:k=t.st.length:=by omega
    rw [List.take_length]
    have WI2:Hid (WkS v w0 pa pc ja jc sa sc bf (.slice au rs.length cu) w w0.heap.size t (tries+1) seen #[.int .i64 fr,.int .i64 0,.slice as1 t.st.length cs1,.slice al t.li.length cl,.slice ax t.cr.length cx,.slice aq t.pa.length cq,.slice none 0 0,.slice none 0 0] (.slice as1 t.st.length cs1) (.slice al t.li.length cl) (.slice ax t.cr.length cx) (.slice aq t.pa.length cq) wr):=WI1.out.mono hbel
    clear hNa hbel WI1 HW2
    have z2:=WI2.out.bel.size
    have zf2:=WI2.out.fr.size
    have q0:wr.cell? ⟨w.heap.size,0,none⟩=some (.int .i64 fr):=WI2.out.rt.cell 0
    have q1:wr.cell? ⟨w.heap.size,1,none⟩=some (.int .i64 0):=WI2.out.rt.cell 1
    have q2:wr.cell? ⟨w.heap.size,2,none⟩=some (.slice as1 t.st.length cs1):=WI2.out.rt.cell 2
    have q3:wr.cell? ⟨w.heap.size,3,none⟩=some (.slice al t.li.length cl):=WI2.out.rt.cell 3
    have q4:wr.cell? ⟨w.heap.size,4,none⟩=some (.slice ax t.cr.length cx):=WI2.out.rt.cell 4
    have q5:wr.cell? ⟨w.heap.size,5,none⟩=some (.slice aq t.pa.length cq):=WI2.out.rt.cell 5
    have q6:wr.cell? ⟨w.heap.size,6,none⟩=some (.slice none 0 0):=WI2.out.rt.cell 6
    have q7:wr.cell? ⟨w.heap.size,7,none⟩=some (.slice none 0 0):=WI2.out.rt.cell 7
    go_wp2_with fail
    refine (l12copy52 fr 0 (.slice as1 t.st.length cs1) (.slice al t.li.length cl) (.slice ax t.cr.length cx) (.slice aq t.pa.length cq) (.slice none 0 0) (.slice none 0 0) t.st t.li t.cr t.pa wr (WI2.out.tl.s.ls.mono zl (Below.refl wr.heap.size wr) lr) (WI2.out.tl.l.ls.mono zl (Below.refl wr.heap.size wr) lr) (WI2.out.tl.x.ls.mono zl (Below.refl wr.heap.size wr) lr) (WI2.out.tl.q.ls.mono zl (Below.refl wr.heap.size wr) lr) (by omega) (by omega) (by omega) (by omega) ⟨_,_,_,rfl⟩ ⟨_,_,_,rfl⟩).mono ?_
    rintro e1 w1 ⟨sv1,lv1,xv1,qv1,rfl,g1,g2,g3,g4,hb1⟩
    obtain ⟨as3,cs3,hv⟩:=g1.val
    subst hv
    obtain ⟨al3,cl3,hv⟩:=g2.val
    subst hv
    obtain ⟨ax3,cx3,hv⟩:=g3.val
    subst hv
    obtain ⟨aq3,cq3,hv⟩:=g4.val
    subst hv
    clear q0 q1 q2 q3 q4 q5 q6 q7
    have WI3:=WI2.out.mono hb1
    have zr:=WI2.out.rt.lt
    have rb:=WI3.rt
    have f0:=rb.free 0
    have f1:=rb.free 1
    have f2:=rb.free 2
    have f3:=rb.free 3
    have f4:=rb.free 4
    have f5:=rb.free 5
    have f6:=rb.free 6
    have f7:=rb.free 7
    have q0:w1.cell? ⟨w.heap.size,0,none⟩=some (.int .i64 fr):=rb.cell 0
    have q1:w1.cell? ⟨w.heap.size,1,none⟩=some (.int .i64 0):=rb.cell 1
    have q2:w1.cell? ⟨w.heap.size,2,none⟩=some (.slice as1 t.st.length cs1):=rb.cell 2
    have q3:w1.cell? ⟨w.heap.size,3,none⟩=some (.slice al t.li.length cl):=rb.cell 3
    have q4:w1.cell? ⟨w.heap.size,4,none⟩=some (.slice ax t.cr.length cx):=rb.cell 4
    have q5:w1.cell? ⟨w.heap.size,5,none⟩=some (.slice aq t.pa.length cq):=rb.cell 5
    have q6:w1.cell? ⟨w.heap.size,6,none⟩=some (.slice none 0 0):=rb.cell 6
    have q7:w1.cell? ⟨w.heap.size,7,none⟩=some (.slice none 0 0):=rb.cell 7
    have WS4:Hid (WkS v w0 pa pc ja jc sa sc bf (.slice au rs.length cu) w w.heap.size t (tries+1) seen #[.int .i64 fr,.int .i64 0,.slice as3 t.st.length cs3,.slice al3 t.li.length cl3,.slice ax3 t.cr.length cx3,.slice aq3 t.pa.length cq3,.slice none 0 0,.slice none 0 0] (.slice as3 t.st.length cs3) (.slice al3 t.li.length cl3) (.slice ax3 t.cr.length cx3) (.slice aq3 t.pa.length cq3) (set8 w1 w.heap.size (.int .i64 fr) (.int .i64 0) (.slice as3 t.st.length cs3) (.slice al3 t.li.length cl3) (.slice ax3 t.cr.length cx3) (.slice aq3 t.pa.length cq3) (.slice none 0 0) (.slice none 0 0))):=WI3.fill hw0 hbl (g1.keep zf2 fun _ _=>rfl) (g2.keep zf2 fun _ _=>rfl) (g3.keep zf2 fun _ _=>rfl) (g4.keep zf2 fun _ _=>rfl)
    clear rb WI2 WI3 g1 g2 g3 g4
    have z1b:=hb1.size
    go_wp2_with (at_builtin;go_must (refine wpList_appH _ rfl (.tmp 67) (.tmp 71) 58 rfl w.heap.size 100 i1 _ 2 16 Tryz.underlying58 e11 e12 e13 e14 rfl (by decide) _ t.st rfl (WS4.out.tl.s.alloc _) ⟨w1.heap.size,0,none⟩ 1 1 [[(p:Int),way]] rfl rfl (by decide) (Wide.one rfl) (news_at [(p:Int),way] (by simp)) (by simp [maxLen];omega) (by omega) (by simp;omega) ?_))
    refine Halt.mk fun v5 w5 ho5 _ hap5=>?_
    obtain ⟨as5,cs5,rfl⟩:=ho5.val
    rw [List.length_append] at ho5 hap5
    have WS5:=WS4.out.addS hw0 hbl ho5 hap5
    have r5:Box w5 w.heap.size 64 _:=(WS4.out.rt.alloc _).grown hap5.fr (fun e=>WS4.out.tl.s.off WS4.out.rt (by decide) e rfl)
    have fr2:=r5.free 2
    have fc2:w5.cell? ⟨w.heap.size,2,none⟩=some (.slice as3 t.st.length cs3):=r5.cell 2
    have WS6:Hid (WkS v w0 pa pc ja jc sa sc bf (.slice au rs.length cu) w w.heap.size { t with st:=t.st ++ [[(p:Int),way]] } (tries+1) seen #[.int .i64 fr,.int .i64 0,.slice as5 (t.st.length+1) cs5,.slice al3 t.li.length cl3,.slice ax3 t.cr.length cx3,.slice aq3 t.pa.length cq3,.slice none 0 0,.slice none 0 0] (.slice as5 (t.st.length+1) cs5) (.slice al3 t.li.length cl3) (.slice ax3 t.cr.length cx3) (.slice aq3 t.pa.length cq3) (w5.setCell ⟨w.heap.size,2,none⟩ (.slice as5 (t.st.length+1) cs5))):=WS5
    clear WS5 WS4 r5 ho5 hap5 hb1 q0 q1 q2 q3 q4 q5 q6 q7 f0 f1 f2 f3 f4 f5 f6 f7
    go_wp2_with fail
    generalize w5.setCell ⟨w.heap.size,2,none⟩ (.slice as5 (t.st.length+1) cs5)=w6 at *
    have y0:w6.cell? ⟨bf,0,none⟩=some (.slice pa v.n pc):=WS6.out.bx.cell 0
    have y1:w6.cell? ⟨bf,1,none⟩=some (.slice ja v.m jc):=WS6.out.bx.cell 1
    have y2:w6.cell? ⟨bf,2,none⟩=some (.slice sa v.k sc):=WS6.out.bx.cell 2
    have T6:bf<w6.heap.size:=WS6.out.bx.lt
    have hP6:PsAt 0 w6.drew pa v.n v.P:=HN.out.p.mono lr WS6.out.bel.drew lr
    have hS6:PsAt 0 w6.drew sa v.k v.S:=HN.out.s.mono lr WS6.out.bel.drew lr
    have Hsp:Hid (∀ i,i<v.k→0≤(v.S i).sp∧(v.S i).sp≤10000000):=fun i hi=>by
     obtain ⟨s1,s2,s3,s4,s5⟩:=OK.out.sg i hi
     have:=OK.out.ln (v.S i).ln.toNat (by omega)
     omega
    go_region_held3 (fun w'=>w'.cell? ⟨bf,0,none⟩=some (.slice pa v.n pc)∧w'.cell? ⟨bf,1,none⟩=some (.slice ja v.m jc)∧w'.cell? ⟨bf,2,none⟩=some (.slice sa v.k sc)) (go_keep) (first | (go_at_call 53;refine (l12signal74 pa v.n pc v.P ja v.m jc sa v.k sc v.S p way far _ (by omega) hp (by omega) hP6 hS6 hln Hsp.out).mono ?_;rintro e w7 ⟨rfl,hb7⟩;have k0:=(hb7.cell (p:=⟨bf,0,none⟩) T6).trans y0;have k1:=(hb7.cell (p:=⟨bf,1,none⟩) T6).trans y1;have k2:=(hb7.cell (p:=⟨bf,2,none⟩) T6).trans y2))
    have WS7:Hid (WkS v w0 pa pc ja jc sa sc bf (.slice au rs.length cu) w w.heap.size { t with st:=t.st ++ [[(p:Int),way]] } (tries+1) seen #[.int .i64 fr,.int .i64 0,.slice as5 (t.st.length+1) cs5,.slice al3 t.li.length cl3,.slice ax3 t.cr.length cx3,.slice aq3 t.pa.length cq3,.slice none 0 0,.slice none 0 0] (.slice as5 (t.st.length+1) cs5) (.slice al3 t.li.length cl3) (.slice ax3 t.cr.length cx3) (.slice aq3 t.pa.length cq3) w7):=WS6.out.mono ((Below.refl w6.heap.size w6).drew.trans hb7)
    clear k0 k1 k2 y0 y1 y2 hP6 hS6 hb7 WS6 T6
    rcases hnx:nextS (v.P p).ln v.S p way far v.k with _ | bb
    ·rw [show bestV none=-1 from rfl]
     by_cases hm:[(p:Int),way] ∈ t.st
     ·have FIN:=walk_one (fr:=fr) (f:=f) (t0:=t) (p:=p) (way:=way) (far:=far) WS7.out HX.out HO.out hr3 (by rw [walk_again hnx hm];exact Res.none _ _)
      have HFIN:Hid (WalkP v w0 pa pc ja jc sa sc bf fr (f+1) (.slice au rs.length cu) tries rs t p way far w (.returned (.tuple #[])) _):=FIN
      have hm':decide ([(p:Int),way] ∈ t.st)=true:=by simp [hm]
      clear FIN hm hnx
      go_wp2_with fail
      refine bodyPost_ret (results_none rfl _ _ _) rfl ?_
      exact HFIN.out
     ·exact absurd HCs.out.2 hm
    ·exact absurd (hnx.symm.trans HCs.out.1) (by simp)
end Go.Proofs.YtkhaehpobpkkiaaGreat
