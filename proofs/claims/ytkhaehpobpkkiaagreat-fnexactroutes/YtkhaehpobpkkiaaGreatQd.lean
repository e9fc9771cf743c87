import Derived.Deep.RegionWith
import Derived.Test.YtkhaehpobpkkiaaGreatPb
import Derived.Test.YtkhaehpobpkkiaaGreatQa
import Derived.Test.YtkhaehpobpkkiaaGreatMe
namespace Go.Proofs.YtkhaehpobpkkiaaGreat
open Go.RowKit
set_option maxRecDepth 100000 in
set_option maxHeartbeats 4000000 in
theorem impl14 (pa:Option Addr)(n pc:Nat)(P:Nat→Pc)(ja:Option Addr)(m jc:Nat)(J:Nat→Jt)(sa:Option Addr)(k sc:Nat)(S:Nat→Pc)(w:World)(hn:n≤1048576)(hm:m≤1048576)(hpc:n≤pc)(hpm:pc≤maxLen)(hjc:m≤jc)(hjm:jc≤maxLen)
 (hP:PsAt 0 w pa n P) (hJ:JsAt 0 w ja m J) (hps:∀ i,i<n→(P i).nm.size≤maxLen) (hjs:∀ i,i<m→(J i).ne≤1048576∧(J i).nm.size≤maxLen)
 (hk:k≤1048576) (hsc:k≤sc) (_hsm:sc≤maxLen) (hS:PsAt 0 w sa k S) (hss:∀ i,i<k→(S i).nm.size≤maxLen):
 Calls Tryz.prog 27 #[.agg #[.slice pa n pc,.slice ja m jc],.slice sa k sc] w fun r w'=>r=.returned (.agg #[.int .i64 (sigF n P m J k S).1,.int .i64 (sigF n P m J k S).2])∧Below w.heap.size w w':=by
 unfold maxLen at _hsm
 have Hps:Hid (∀ i,i<n→(P i).nm.size≤maxLen):=hps
 have Hjs:Hid (∀ i,i<m→(J i).ne≤1048576∧(J i).nm.size≤maxLen):=hjs
 have Hss:Hid (∀ i,i<k→(S i).nm.size≤maxLen):=hss
 clear hps hjs hss
 go_enter Tryz.func27,Tryz.ntmps27
 go_wp2_with fail
 refine (impl8 pa n pc P ja m jc J _ hn hm hpc hpm hjc hjm (hP.mono lr (bel2 w _ _) lr) (hJ.mono lr (bel2 w _ _) lr) Hps.out Hjs.out).mono ?_
 rintro e w1 ⟨rfl,hb1⟩
 have hbel:Below (w.heap.size+1+1) (X6 w pa n pc ja m jc) w1:=hb1.mono (by simp)
 clear hb1
 by_cases hz0:(netF n P m J).1=0
 ·have hz1:=(netF_zero hz0).1
  have Hln:Hid (∀ i,i<n→1≤(P i).ln∧(P i).ln≤10000000):=(netF_zero hz0).2
  have Hs0:Hid (sigF n P m J k S=if 60<k then (2,0) else sig3 n P k S):=by
   show sigF n P m J k S=_
   simp [sigF,hz0]
  rw [hz1]
  clear hz0 hz1
  obtain ⟨z0,z1,y0,y1,r0,r1,f0,f1,hB⟩:=facts6 hbel
  by_cases h60:60<k
  ·have Hv:Hid (sigF n P m J k S=(2,0)):=by
    show sigF n P m J k S=_
    rw [Hs0.out,if_pos h60]
   go_wp2_with fail
   exact bodyPost_ret (v:=.agg #[.int .i64 2,.int .i64 0]) (by simp [results,Tryz.results27,go_sem,r0,r1]) rfl ⟨by rw [Hv.out],belS2 hB _ _⟩
  ·have Hs:Hid (sigF n P m J k S=sig3 n P k S):=by
    show sigF n P m J k S=_
    rw [Hs0.out,if_neg h60]
   have h60':decide (60<(k:Int))=false:=by simp;omega
   clear Hs0 h60
   go_wp2_with fail
   clear z0 z1 y0 y1 r0 r1 f0 f1 hB
   go_loopw [20] (fun i wr=>∃ q:Nat,q≤k∧i=.int .i64 q∧Hid (∀ j,j<q→sgBad n P (S j)=false)∧Below (w.heap.size+1+1) (X6 w pa n pc ja m jc) wr) (fun i _=>k-(intOf i).toNat)
   case atStart=>exact ⟨0,Nat.zero_le _,rfl,fun j hj=>absurd hj (Nat.not_lt_zero _),hbel⟩
   case round=>
    obtain ⟨q,hq,rfl,hall,hbel2⟩:=hrel
    clear hbel
    obtain ⟨z0,z1,y0,y1,r0,r1,f0,f1,hB⟩:=facts6 hbel2
    by_cases hlq:q<k
    ·have hsk:=Hss.out q hlq
     obtain ⟨b,off,rfl,_,hb,hc⟩:=(hS.mono lr hB lr) (by omega)
     obtain ⟨d0,d1,d2,d3⟩:=hc q hlq
     clear hc
     have b3:=bel1 wr (.cells #[.string (S q).nm,.int .i64 (S q).ln,.int .i64 (S q).sp,.int .i64 (S q).br] 56)
     have hP4:=(hP.mono lr hB lr).mono lr b3 lr
     cases hv:sgBad n P (S q)
     ·have Hall:Hid (∀ j,j<q+1→sgBad n P (S j)=false):=snoc_all (p:=fun j=>sgBad n P (S j)) hall.out hv
      clear hall
      go_wp2_with fail
      refine (signalOk34 pa n pc P ja m jc (S q) _ hn hP4 hsk Hln.out).mono ?_
      rintro e w2 ⟨rfl,hb2⟩
      have hbel5:=(hbel2.trans (b3.mono (by omega))).trans (hb2.mono (by simp;omega))
      clear z0 z1 y0 y1 r0 r1 f0 f1 hB hb2 hP4 b3 d0 d1 d2 d3
      go_wp2_with fail
      go_roundw
      case rel=>first | exact ⟨q+1,by omega,by go_num,Hall,hbel5⟩ | ((repeat apply Exists.intro);exact ⟨⟨q+1,by omega,by go_num,Hall,hbel5⟩,rfl⟩)
      case measure=>simp [intOf];omega
     ·have Hv:Hid (sigF n P m J k S=(3,(q:Int))):=by
       show sigF n P m J k S=_
       rw [Hs.out]
       exact sig3_hit hlq hall.out hv
      clear hall
      go_wp2_with fail
      refine (signalOk34 pa n pc P ja m jc (S q) _ hn hP4 hsk Hln.out).mono ?_
      rintro e w2 ⟨rfl,hb2⟩
      have hbel5:=(hbel2.trans (b3.mono (by omega))).trans (hb2.mono (by simp;omega))
      clear z0 z1 y0 y1 r0 r1 f0 f1 hB hb2 hP4 b3 d0 d1 d2 d3
      obtain ⟨z0,z1,y0,y1,r0,r1,f0,f1,hB⟩:=facts6 hbel5
      go_wp2_with fail
      exact bodyPost_ret (v:=.agg #[.int .i64 3,.int .i64 q]) (by simp [results,Tryz.results27,go_sem,r0,r1]) rfl ⟨by rw [Hv.out],belS2 hB _ _⟩
    ·obtain rfl:q=k:=by omega
     have Hs4:Hid (sigF n P m J q S=sig4 q S):=by
      show sigF n P m J q S=_
      rw [Hs.out,sig3_none hall.out]
     clear hall Hs Hln Hss
     go_wp2_with fail
     clear z0 z1 y0 y1 r0 r1 f0 f1 hB
     obtain ⟨wo,hwo⟩:∃ wo:World,wo=wr:=⟨_,rfl⟩
     subst hwo
     go_loopw [34] (fun i wr=>∃ t:Nat,t≤q∧i=.int .i64 t∧Hid (∀ j,j<t→clashB S (S j) j=false)∧Below (w.heap.size+1+1) (X6 w pa n pc ja m jc) wr) (fun i _=>q-(intOf i).toNat)
     case atStart=>exact ⟨0,Nat.zero_le _,rfl,fun j hj=>absurd hj (Nat.not_lt_zero _),hbel2⟩
     case round=>
      obtain ⟨t,ht,rfl,hall,hbel4⟩:=hrel
      clear hbel2
      obtain ⟨z0,z1,y0,y1,r0,r1,f0,f1,hB⟩:=facts6 hbel4
      by_cases hlt2:t<q
      ·obtain ⟨b,off,rfl,_,hb,hc⟩:=hS (by omega)
       obtain ⟨d0',d1',d2',d3'⟩:=hc t hlt2
       have d0:=(hB.cell (p:=⟨b,off+t*4,none⟩) hb).trans d0'
       have d1:=(hB.cell (p:=⟨b,off+t*4+1,none⟩) hb).trans d1'
       have d2:=(hB.cell (p:=⟨b,off+t*4+2,none⟩) hb).trans d2'
       have d3:=(hB.cell (p:=⟨b,off+t*4+3,none⟩) hb).trans d3'
       have b3:=(bel1 wr (.cells #[.string (S t).nm,.int .i64 (S t).ln,.int .i64 (S t).sp,.int .i64 (S t).br] 56)).drew
       have hS5:PsAt 0 w (some ⟨b,off,none⟩) t S:=fun _=>⟨b,off,rfl,Nat.zero_le _,hb,fun i hi=>hc i (by omega)⟩
       have hS6:=(hS5.mono lr hB lr).mono lr b3 lr
       have ht0:(0:Int)≤(t:Int):=by omega
       have htc:(t:Int)≤(sc:Int):=by omega
       clear hc d0' d1' d2' d3' hS5
       cases hv:clashB S (S t) t
       ·have Hall:Hid (∀ j,j<t+1→clashB S (S j) j=false):=snoc_all (p:=fun j=>clashB S (S j) j) hall.out hv
        clear hall
        go_wp2_with fail
        go_region_with (go_at_call 65;refine (clashes35 (some ⟨b,off,none⟩) t sc S (S t) _ (by omega) hS6).mono ?_;rintro e w2 ⟨rfl,hb2⟩)
        all_goals
         have hbel5:=(hbel4.trans (b3.mono (by omega))).trans (hb2.mono (by show w.heap.size+1+1≤(wr.alloc _).heap.size;simp;omega))
         clear z0 z1 y0 y1 r0 r1 f0 f1 hB hb2 b3 d0 d1 d2 d3 hS6
         go_wp2_with fail
         go_roundw
         case rel=>first | exact ⟨t+1,by omega,by go_num,Hall,hbel5⟩ | ((repeat apply Exists.intro);exact ⟨⟨t+1,by omega,by go_num,Hall,hbel5⟩,rfl⟩)
         case measure=>simp [intOf];omega
       ·have Hv:Hid (sigF n P m J q S=(4,(t:Int))):=by
         show sigF n P m J q S=_
         rw [Hs4.out]
         exact sig4_hit hlt2 hall.out hv
        clear hall
        go_wp2_with fail
        go_region_with (go_at_call 65;refine (clashes35 (some ⟨b,off,none⟩) t sc S (S t) _ (by omega) hS6).mono ?_;rintro e w2 ⟨rfl,hb2⟩)
        all_goals
         have hbel5:=(hbel4.trans (b3.mono (by omega))).trans (hb2.mono (by show w.heap.size+1+1≤(wr.alloc _).heap.size;simp;omega))
         clear z0 z1 y0 y1 r0 r1 f0 f1 hB hb2 b3 d0 d1 d2 d3 hS6
         obtain ⟨z0,z1,y0,y1,r0,r1,f0,f1,hB⟩:=facts6 hbel5
         go_wp2_with fail
         exact bodyPost_ret (v:=.agg #[.int .i64 4,.int .i64 t]) (by simp [results,Tryz.results27,go_sem,r0,r1]) rfl ⟨by rw [Hv.out],belS2 hB _ _⟩
      ·obtain rfl:t=q:=by omega
       have Hv:Hid (sigF n P m J t S=(0,0)):=by
        show sigF n P m J t S=_
        rw [Hs4.out,sig4_none hall.out]
       clear hall Hs4
       go_wp2_with fail
       exact bodyPost_ret (v:=.agg #[.int .i64 0,.int .i64 0]) (by simp [results,Tryz.results27,go_sem,r0,r1]) rfl ⟨by rw [Hv.out],belS2 hB _ _⟩
 ·have Hv:Hid (sigF n P m J k S=(1,0)):=by
   show sigF n P m J k S=_
   simp [sigF,hz0]
  obtain ⟨z0,z1,y0,y1,r0,r1,f0,f1,hB⟩:=facts6 hbel
  go_wp2_with fail
  exact bodyPost_ret (v:=.agg #[.int .i64 1,.int .i64 0]) (by simp [results,Tryz.results27,go_sem,r0,r1]) rfl ⟨by rw [Hv.out],belS2 hB _ _⟩
end Go.Proofs.YtkhaehpobpkkiaaGreat
