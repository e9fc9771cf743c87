import Derived.Deep.RegionWith
import Derived.Test.YtkhaehpobpkkiaaGreatP12
import Derived.Test.YtkhaehpobpkkiaaGreatP34
import Derived.Test.YtkhaehpobpkkiaaGreatPa
import Derived.Test.YtkhaehpobpkkiaaGreatMe
namespace Go.Proofs.YtkhaehpobpkkiaaGreat
open Go.RowKit
set_option maxRecDepth 100000 in
set_option maxHeartbeats 2000000 in
theorem endsOk25_0 (pa:Option Addr)(n pc:Nat)(ja:Option Addr)(m jc:Nat)(kd:Int)(nm:ByteArray)(ea:Option Addr)(ne ec:Nat)(w:World)(hk:¬(1≤kd∧kd≤4)):
 Calls Tryz.prog 90 #[.agg #[.slice pa n pc,.slice ja m jc],.agg #[.int .i64 kd,.string nm,.slice ea ne ec]] w fun e w'=>e=.returned (.bool false)∧Below w.heap.size w w':=by
 have hkv:kindV kd=.nilIface:=by
  rw [kindV,if_neg (by omega),if_neg (by omega),if_neg (by omega),if_neg (by omega)]
 clear hk
 go_enter Tryz.func90,Tryz.ntmps90
 go_wp2_with (go_at_call 113;refine (kindOf44 _ _).mono ?_;rintro e w1 ⟨rfl,rfl⟩)
 go_quiet (fail)
 go_wp2_with fail
 go_ret
 exact ⟨rfl,below_drewN (bel2 _ _ _) _⟩
theorem endsBad_of {n:Nat}{kd:Int}{nm:ByteArray}{ne:Nat}{E:Nat→En}(d:Nat)(hd:kd=(d:Int))(h1:1≤d)(h4:d≤4):(!endsBad n ⟨kd,nm,ne,E⟩)=(decide (ne=d) && allE n E ne):=by
 subst hd
 have hin:inB (d:Int) 1 4=true:=by simp [inB];omega
 simp only [endsBad,hin,Bool.not_true,Bool.false_or]
 by_cases h:ne=d
 ·simp [h]
 ·have:¬((ne:Int)=(d:Int)):=by omega
  simp [h,this]
theorem endsOk25 (pa:Option Addr)(n pc:Nat)(ja:Option Addr)(m jc:Nat)(j:Jt)(ea:Option Addr)(ec:Nat)(w:World)(hn:n≤1048576)(hne:j.ne≤1048576)(hE:EsAt 0 w ea j.ne j.E):
 Calls Tryz.prog 90 #[.agg #[.slice pa n pc,.slice ja m jc],.agg #[.int .i64 j.kd,.string j.nm,.slice ea j.ne ec]] w fun e w'=>e=.returned (.bool (!endsBad n j))∧Below w.heap.size w w':=by
 obtain ⟨kd,nm,ne,E⟩:=j
 by_cases hk:1≤kd∧kd≤4
 ·have h5:kd=1∨kd=2∨kd=3∨kd=4:=by omega
  rcases h5 with rfl | rfl | rfl | rfl
  ·rw [show (!endsBad n ⟨1,nm,ne,E⟩)=(decide (ne=1) && allE n E ne) from endsBad_of 1 rfl (by omega) (by omega)]
   exact endsOk25_1 pa n pc ja m jc nm ea ne ec E w hn hne hE
  ·rw [show (!endsBad n ⟨2,nm,ne,E⟩)=(decide (ne=2) && allE n E ne) from endsBad_of 2 rfl (by omega) (by omega)]
   exact endsOk25_2 pa n pc ja m jc nm ea ne ec E w hn hne hE
  ·rw [show (!endsBad n ⟨3,nm,ne,E⟩)=(decide (ne=3) && allE n E ne) from endsBad_of 3 rfl (by omega) (by omega)]
   exact endsOk25_3 pa n pc ja m jc nm ea ne ec E w hn hne hE
  ·rw [show (!endsBad n ⟨4,nm,ne,E⟩)=(decide (ne=4) && allE n E ne) from endsBad_of 4 rfl (by omega) (by omega)]
   exact endsOk25_4 pa n pc ja m jc nm ea ne ec E w hn hne hE
 ·have Hv:endsBad n ⟨kd,nm,ne,E⟩=true:=by
   have:inB kd 1 4=false:=by simp only [inB];simp;omega
   simp [endsBad,this]
  rw [Hv]
  exact endsOk25_0 pa n pc ja m jc kd nm ea ne ec w hk
set_option maxHeartbeats 4000000 in
theorem impl8_1 (pa:Option Addr)(n pc:Nat)(P:Nat→Pc)(ja:Option Addr)(m jc:Nat)(J:Nat→Jt)(w:World)(hn:n≤1048576)(hm:m≤1048576)(h:n=0∨100<n∨120<m):
 Calls Tryz.prog 63 #[.agg #[.slice pa n pc,.slice ja m jc]] w fun r w'=>r=.returned (.agg #[.int .i64 (netF n P m J).1,.int .i64 (netF n P m J).2])∧Below w.heap.size w w':=by
 rw [netF_1 h]
 by_cases h1:n=0
 ·subst h1
  go_enter Tryz.func63,Tryz.ntmps63
  go_wp2_with fail
  exact bodyPost_ret (v:=.agg #[.int .i64 1,.int .i64 0]) (by simp [results,Tryz.results63,go_sem]) rfl ⟨rfl,bel2 _ _ _⟩
 ·have h1':((n:Int) == 0)=false:=by simp;omega
  by_cases h2:100<n
  ·clear h h1
   go_enter Tryz.func63,Tryz.ntmps63
   go_wp2_with fail
   exact bodyPost_ret (v:=.agg #[.int .i64 1,.int .i64 0]) (by simp [results,Tryz.results63,go_sem]) rfl ⟨rfl,bel2 _ _ _⟩
  ·have h3:120<m:=by omega
   have h2':decide (100<(n:Int))=false:=by simp;omega
   clear h h1 h2
   go_enter Tryz.func63,Tryz.ntmps63
   go_wp2_with fail
   exact bodyPost_ret (v:=.agg #[.int .i64 1,.int .i64 0]) (by simp [results,Tryz.results63,go_sem]) rfl ⟨rfl,bel2 _ _ _⟩
theorem ends_of {n:Nat}{j:Jt}(h:endsBad n j=false):inB j.kd 1 4=true∧∀ q,q<j.ne→endB n (j.E q)=true:=by
 simp only [endsBad,Bool.or_eq_false_iff,Bool.not_eq_eq_eq_not,Bool.not_false] at h
 refine ⟨h.1.1,fun q hq=>?_⟩
 cases hb:endB n (j.E q)
 ·have:=allE_false (E:=j.E) (n:=n) hq hb
  rw [h.2] at this
  exact this.symm
 ·rfl
set_option maxRecDepth 100000 in
set_option maxHeartbeats 4000000 in
theorem impl8_2 (pa:Option Addr)(n pc:Nat)(P:Nat→Pc)(ja:Option Addr)(m jc:Nat)(J:Nat→Jt)(w:World)(h:¬(n=0∨100<n∨120<m))(hpc:n≤pc)(hpm:pc≤maxLen)(hjc:m≤jc)(hjm:jc≤maxLen)
 (hP:PsAt 0 w pa n P) (hJ:JsAt 0 w ja m J) (hps:∀ i,i<n→(P i).nm.size≤maxLen) (hjs:∀ i,i<m→(J i).ne≤1048576∧(J i).nm.size≤maxLen):
 Calls Tryz.prog 63 #[.agg #[.slice pa n pc,.slice ja m jc]] w fun r w'=>r=.returned (.agg #[.int .i64 (netF n P m J).1,.int .i64 (netF n P m J).2])∧Below w.heap.size w w':=by
 have hn1:1≤n:=by omega
 have hn2:n≤100:=by omega
 have hm2:m≤120:=by omega
 have h1':((n:Int) == 0)=false:=by simp;omega
 have h2':decide (100<(n:Int))=false:=by simp;omega
 have h3':decide (120<(m:Int))=false:=by simp;omega
 have Hps:Hid (∀ i,i<n→(P i).nm.size≤maxLen):=hps
 have Hjs:Hid (∀ i,i<m→(J i).ne≤1048576∧(J i).nm.size≤maxLen):=hjs
 clear hps hjs
 go_enter Tryz.func63,Tryz.ntmps63
 go_wp2_with fail
 go_loopw [26] (fun i wr=>∃ k:Nat,k≤n∧i=.int .i64 k∧Hid (∀ q,q<k→pieceBad P q=false)∧Below (w.heap.size+1+1) (X6 w pa n pc ja m jc) wr) (fun i _=>n-(intOf i).toNat)
 case atStart=>exact ⟨0,Nat.zero_le _,rfl,fun j hj=>absurd hj (Nat.not_lt_zero _),Below.refl _ _⟩
 case round=>
  obtain ⟨k,hk,rfl,hall,hbel⟩:=hrel
  obtain ⟨z0,z1,y0,y1,r0,r1,f0,f1,hB⟩:=facts6 hbel
  by_cases hlt:k<n
  ·have hP4:=hP.mono lr hB lr
   cases hv:pieceBad P k
   ·have Hall:Hid (∀ q,q<k+1→pieceBad P q=false):=snoc_all hall.out hv
    clear hall
    go_wp2_with fail
    refine (pieceOk24 pa n pc P k _ (by omega) hpc hpm hlt hP4 (Hps.out k hlt)).mono ?_
    rintro e w1 ⟨rfl,hb1⟩
    have hbel5:=hbel.trans (hb1.mono (by omega))
    clear z0 z1 y0 y1 r0 r1 f0 f1 hB hb1 hP4
    go_wp2_with fail
    go_roundw
    case rel=>first | exact ⟨k+1,by omega,by go_num,Hall,hbel5⟩ | ((repeat apply Exists.intro);exact ⟨⟨k+1,by omega,by go_num,Hall,hbel5⟩,rfl⟩)
    case measure=>simp [intOf];omega
   ·have Hv:Hid (netF n P m J=(2,(k:Int))):=netF_2 h hlt hall.out hv
    clear hall h
    go_wp2_with fail
    refine (pieceOk24 pa n pc P k _ (by omega) hpc hpm hlt hP4 (Hps.out k hlt)).mono ?_
    rintro e w1 ⟨rfl,hb1⟩
    have hbel5:=hbel.trans (hb1.mono (by omega))
    clear z0 z1 y0 y1 r0 r1 f0 f1 hB hb1 hP4
    obtain ⟨z0,z1,y0,y1,r0,r1,f0,f1,hB⟩:=facts6 hbel5
    go_wp2_with fail
    exact bodyPost_ret (v:=.agg #[.int .i64 2,.int .i64 k]) (by simp [results,Tryz.results63,go_sem,r0,r1]) rfl ⟨by rw [Hv.out],belS2 hB _ _⟩
  ·obtain rfl:k=n:=by omega
   have Hs:Hid (netF k P m J=stage3 k m J):=netF_s3 h hall.out
   clear hall h Hps
   go_wp2_with fail
   clear z0 z1 y0 y1 r0 r1 f0 f1 hB
   obtain ⟨wo,hwo⟩:∃ wo:World,wo=wr:=⟨_,rfl⟩
   subst hwo
   go_loopw [40] (fun i wr=>∃ q:Nat,q≤m∧i=.int .i64 q∧Hid (∀ j,j<q→endsBad k (J j)=false)∧Below (w.heap.size+1+1) (X6 w pa k pc ja m jc) wr) (fun i _=>m-(intOf i).toNat)
   case atStart=>exact ⟨0,Nat.zero_le _,rfl,fun j hj=>absurd hj (Nat.not_lt_zero _),hbel⟩
   case round=>
    obtain ⟨q,hq,rfl,hall,hbel3⟩:=hrel
    clear hbel
    obtain ⟨z0,z1,y0,y1,r0,r1,f0,f1,hB⟩:=facts6 hbel3
    by_cases hlq:q<m
    ·obtain ⟨b,off,rfl,_,hb,hc⟩:=(hJ.mono lr hB.drew lr) (by omega)
     obtain ⟨ea,ec,c0,c1,c2,hE⟩:=hc q hlq
     have hq0:(0:Int)≤(q:Int):=by omega
     have hqm:(q:Int)<(m:Int):=by omega
     have hnq:=(Hjs.out q hlq).1
     clear hc
     have c00:wr.cell? _=_:=c0
     have c10:wr.cell? _=_:=c1
     have c20:wr.cell? _=_:=c2
     clear c0 c1 c2
     cases hv:endsBad k (J q)
     ·have Hall:Hid (∀ j,j<q+1→endsBad k (J j)=false):=snoc_all (p:=fun j=>endsBad k (J j)) hall.out hv
      clear hall
      go_wp2_with fail
      go_region_with (go_at_call 90;refine (endsOk25 pa k pc (some ⟨b,off,none⟩) m jc (J q) ea ec _ (by omega) hnq hE).mono ?_;rintro e w1 ⟨rfl,hb1⟩)
      all_goals
       go_wp2_with fail
       go_roundw
       case rel=>exact ⟨q+1,by omega,by go_num,Hall,hbel3.drew.trans (hb1.mono (show w.heap.size+1+1≤wr.heap.size by omega))⟩
       case measure=>simp [intOf];omega
     ·have Hv:Hid (netF k P m J=(3,(q:Int))):=by
       show netF k P m J=_
       rw [Hs.out]
       exact s3_hit hlq hall.out hv
      clear hall
      go_wp2_with fail
      go_region_with (go_at_call 90;refine (endsOk25 pa k pc (some ⟨b,off,none⟩) m jc (J q) ea ec _ (by omega) hnq hE).mono ?_;rintro e w1 ⟨rfl,hb1⟩)
      all_goals
       have hbel5:=hbel3.drew.trans (hb1.mono (show w.heap.size+1+1≤wr.heap.size by omega))
       clear z0 z1 y0 y1 r0 r1 f0 f1 hB hb1
       obtain ⟨z0,z1,y0,y1,r0,r1,f0,f1,hB⟩:=facts6 hbel5
       go_wp2_with fail
       exact bodyPost_ret (v:=.agg #[.int .i64 3,.int .i64 q]) (by simp [results,Tryz.results63,go_sem,r0,r1]) rfl ⟨by rw [Hv.out],belS2 hB _ _⟩
    ·obtain rfl:q=m:=by omega
     have Hen:Hid (∀ j,j<q→endsBad k (J j)=false):=hall
     have Hs4:Hid (netF k P q J=stage4 k q J):=by
      show netF k P q J=_
      rw [Hs.out,s3_none hall.out]
     clear hall Hs
     go_wp2_with fail
     clear z0 z1 y0 y1 r0 r1 f0 f1 hB
     obtain ⟨wo,hwo⟩:∃ wo:World,wo=wr:=⟨_,rfl⟩
     subst hwo
     go_loopw [57] (fun i wr=>∃ t:Nat,t≤q∧i=.int .i64 t∧Hid (∀ j,j<t→nameBad J j=false)∧Below (w.heap.size+1+1) (X6 w pa k pc ja q jc) wr) (fun i _=>q-(intOf i).toNat)
     case atStart=>exact ⟨0,Nat.zero_le _,rfl,fun j hj=>absurd hj (Nat.not_lt_zero _),hbel3⟩
     case round=>
      obtain ⟨t,ht,rfl,hall,hbel4⟩:=hrel
      clear hbel3
      obtain ⟨z0,z1,y0,y1,r0,r1,f0,f1,hB⟩:=facts6 hbel4
      have hJ4:=hJ.mono lr hB lr
      by_cases hlt2:t<q
      ·cases hv:nameBad J t
       ·have Hall:Hid (∀ j,j<t+1→nameBad J j=false):=snoc_all hall.out hv
        clear hall
        go_wp2_with fail
        refine (jointNameOk26 ja q jc J t _ (by omega) hjc hjm hlt2 hJ4 (Hjs.out t hlt2).2 (ends_of (Hen.out t hlt2)).1).mono ?_
        rintro e w1 ⟨rfl,hb1⟩
        have hbel5:=hbel4.trans (hb1.mono (by omega))
        clear z0 z1 y0 y1 r0 r1 f0 f1 hB hb1 hJ4
        go_wp2_with fail
        go_roundw
        case rel=>first | exact ⟨t+1,by omega,by go_num,Hall,hbel5⟩ | ((repeat apply Exists.intro);exact ⟨⟨t+1,by omega,by go_num,Hall,hbel5⟩,rfl⟩)
        case measure=>simp [intOf];omega
       ·have Hv:Hid (netF k P q J=(4,(t:Int))):=by
         show netF k P q J=_
         rw [Hs4.out]
         exact s4_hit hlt2 hall.out hv
        clear hall
        go_wp2_with fail
        refine (jointNameOk26 ja q jc J t _ (by omega) hjc hjm hlt2 hJ4 (Hjs.out t hlt2).2 (ends_of (Hen.out t hlt2)).1).mono ?_
        rintro e w1 ⟨rfl,hb1⟩
        have hbel5:=hbel4.trans (hb1.mono (by omega))
        clear z0 z1 y0 y1 r0 r1 f0 f1 hB hb1 hJ4
        obtain ⟨z0,z1,y0,y1,r0,r1,f0,f1,hB⟩:=facts6 hbel5
        go_wp2_with fail
        exact bodyPost_ret (v:=.agg #[.int .i64 4,.int .i64 t]) (by simp [results,Tryz.results63,go_sem,r0,r1]) rfl ⟨by rw [Hv.out],belS2 hB _ _⟩
      ·obtain rfl:t=q:=by omega
       have Hs5:Hid (netF k P t J=stage5 k t J):=by
        show netF k P t J=_
        rw [Hs4.out,s4_none hall.out]
       clear hall Hs4
       go_wp2_with fail
       refine (loose27 pa k pc ja t jc J _ (by omega) (by omega) hJ4 (fun i hi=>(Hjs.out i hi).1) (fun i hi=>(ends_of (Hen.out i hi)).2)).mono ?_
       rintro e w1 ⟨rfl,hb1⟩
       have hbel5:=hbel4.trans (hb1.mono (by omega))
       clear z0 z1 y0 y1 r0 r1 f0 f1 hB hb1 hJ4
       obtain ⟨z0,z1,y0,y1,r0,r1,f0,f1,hB⟩:=facts6 hbel5
       go_wp2_with fail
       exact bodyPost_ret (v:=.agg #[.int .i64 (stage5 k t J).1,.int .i64 (stage5 k t J).2]) (by simp [results,Tryz.results63,go_sem,r0,r1]) rfl ⟨by rw [Hs5.out],belS2 hB _ _⟩
theorem impl8 (pa:Option Addr)(n pc:Nat)(P:Nat→Pc)(ja:Option Addr)(m jc:Nat)(J:Nat→Jt)(w:World)(hn:n≤1048576)(hm:m≤1048576)(hpc:n≤pc)(hpm:pc≤maxLen)(hjc:m≤jc)(hjm:jc≤maxLen)
 (hP:PsAt 0 w pa n P) (hJ:JsAt 0 w ja m J) (hps:∀ i,i<n→(P i).nm.size≤maxLen) (hjs:∀ i,i<m→(J i).ne≤1048576∧(J i).nm.size≤maxLen):
 Calls Tryz.prog 63 #[.agg #[.slice pa n pc,.slice ja m jc]] w fun r w'=>r=.returned (.agg #[.int .i64 (netF n P m J).1,.int .i64 (netF n P m J).2])∧Below w.heap.size w w':=by
 by_cases h:n=0∨100<n∨120<m
 ·exact impl8_1 pa n pc P ja m jc J w hn hm h
 ·exact impl8_2 pa n pc P ja m jc J w h hpc hpm hjc hjm hP hJ hps hjs
theorem spec6 (pa:Option Addr)(n pc:Nat)(P:Nat→Pc)(ja:Option Addr)(m jc:Nat)(J:Nat→Jt)(w:World)(hn:n≤1048576)(hm:m≤1048576)
 (hP:PsAt 0 w pa n P) (hJ:JsAt 0 w ja m J) (hps:∀ i,i<n→(P i).nm.size≤maxLen) (hjs:∀ i,i<m→(J i).ne≤1048576∧(J i).nm.size≤maxLen):
 Calls Tryz.prog 111 #[.agg #[.slice pa n pc,.slice ja m jc]] w fun r w'=>r=.returned (.agg #[.int .i64 (netF n P m J).1,.int .i64 (netF n P m J).2])∧Below w.heap.size w w':=by
 by_cases h:n=0∨100<n∨120<m
 ·exact spec6_1 pa n pc P ja m jc J w hn hm h
 ·exact spec6_2 pa n pc P ja m jc J w h hP hJ hps hjs
set_option maxHeartbeats 2000000 in
theorem l11ok31 (pa:Option Addr)(n pc:Nat)(P:Nat→Pc)(ja:Option Addr)(m jc:Nat)(J:Nat→Jt)(w:World)(hn:n≤1048576)(hm:m≤1048576)
 (hP:PsAt 0 w pa n P) (hJ:JsAt 0 w ja m J) (hps:∀ i,i<n→(P i).nm.size≤maxLen) (hjs:∀ i,i<m→(J i).ne≤1048576∧(J i).nm.size≤maxLen):
 Calls Tryz.prog 84 #[.agg #[.slice pa n pc,.slice ja m jc]] w fun r w'=>r=.returned (.bool ((netF n P m J).1 == 0))∧Below w.heap.size w w':=by
 have Hps:Hid (∀ i,i<n→(P i).nm.size≤maxLen):=hps
 have Hjs:Hid (∀ i,i<m→(J i).ne≤1048576∧(J i).nm.size≤maxLen):=hjs
 clear hps hjs
 go_enter Tryz.func84,Tryz.ntmps84
 go_wp2_with fail
 refine (spec6 pa n pc P ja m jc J _ hn hm (hP.mono lr (bel1 w _) lr) (hJ.mono lr (bel1 w _) lr) Hps.out Hjs.out).mono ?_
 rintro e w1 ⟨rfl,hb1⟩
 have hB:=(bel1 w _).trans (hb1.mono (by simp))
 clear hb1
 go_wp2_with fail
 go_ret
 exact ⟨rfl,hB.alloc hB.size _⟩
set_option maxRecDepth 100000 in
set_option maxHeartbeats 4000000 in
theorem spec12 (pa:Option Addr)(n pc:Nat)(P:Nat→Pc)(ja:Option Addr)(m jc:Nat)(J:Nat→Jt)(sa:Option Addr)(k sc:Nat)(S:Nat→Pc)(w:World)(hn:n≤1048576)(hm:m≤1048576)
 (hP:PsAt 0 w pa n P) (hJ:JsAt 0 w ja m J) (hps:∀ i,i<n→(P i).nm.size≤maxLen) (hjs:∀ i,i<m→(J i).ne≤1048576∧(J i).nm.size≤maxLen)
 (hk:k≤1048576) (hS:PsAt 0 w sa k S) (hss:∀ i,i<k→(S i).nm.size≤maxLen):
 Calls Tryz.prog 51 #[.agg #[.slice pa n pc,.slice ja m jc],.slice sa k sc] w fun r w'=>r=.returned (.agg #[.int .i64 (sigF n P m J k S).1,.int .i64 (sigF n P m J k S).2])∧Below w.heap.size w w':=by
 have Hps:Hid (∀ i,i<n→(P i).nm.size≤maxLen):=hps
 have Hjs:Hid (∀ i,i<m→(J i).ne≤1048576∧(J i).nm.size≤maxLen):=hjs
 have Hss:Hid (∀ i,i<k→(S i).nm.size≤maxLen):=hss
 clear hps hjs hss
 go_enter Tryz.func51,Tryz.ntmps51
 go_wp2_with fail
 refine (l11ok31 pa n pc P ja m jc J _ hn hm (hP.mono lr (bel2 w _ _) lr) (hJ.mono lr (bel2 w _ _) lr) Hps.out Hjs.out).mono ?_
 rintro e w1 ⟨rfl,hb1⟩
 have hbel:Below (w.heap.size+1+1) (X6 w pa n pc ja m jc) w1:=hb1.mono (by simp)
 clear hb1
 cases hz:((netF n P m J).1 == 0)
 ·have Hv:Hid (sigF n P m J k S=(1,0)):=by
   show sigF n P m J k S=_
   have:¬(netF n P m J).1=0:=by simpa using hz
   simp [sigF,this]
  obtain ⟨z0,z1,y0,y1,r0,r1,f0,f1,hB⟩:=facts6 hbel
  go_wp2_with fail
  exact bodyPost_ret (v:=.agg #[.int .i64 1,.int .i64 0]) (by simp [results,Tryz.results51,go_sem,r0,r1]) rfl ⟨by rw [Hv.out],belS2 hB _ _⟩
 ·have hz0:(netF n P m J).1=0:=by simpa using hz
  have Hln:Hid (∀ i,i<n→1≤(P i).ln∧(P i).ln≤10000000):=(netF_zero hz0).2
  have Hs0:Hid (sigF n P m J k S=if 60<k then (2,0) else sig3 n P k S):=by
   show sigF n P m J k S=_
   simp [sigF,hz0]
  clear hz0
  obtain ⟨z0,z1,y0,y1,r0,r1,f0,f1,hB⟩:=facts6 hbel
  by_cases h60:60<k
  ·have Hv:Hid (sigF n P m J k S=(2,0)):=by
    show sigF n P m J k S=_
    rw [Hs0.out,if_pos h60]
   go_wp2_with fail
   exact bodyPost_ret (v:=.agg #[.int .i64 2,.int .i64 0]) (by simp [results,Tryz.results51,go_sem,r0,r1]) rfl ⟨by rw [Hv.out],belS2 hB _ _⟩
  ·have Hs:Hid (sigF n P m J k S=sig3 n P k S):=by
    show sigF n P m J k S=_
    rw [Hs0.out,if_neg h60]
   have h60':decide (60<(k:Int))=false:=by simp;omega
   clear Hs0 h60
   go_wp2_with fail
   clear z0 z1 y0 y1 r0 r1 f0 f1 hB hz
   go_loopw [18] (fun i wr=>∃ q:Nat,q≤k∧i=.int .i64 q∧Hid (∀ j,j<q→sgBad n P (S j)=false)∧Below (w.heap.size+1+1) (X6 w pa n pc ja m jc) wr) (fun i _=>k-(intOf i).toNat)
   case atStart=>exact ⟨0,Nat.zero_le _,rfl,fun j hj=>absurd hj (Nat.not_lt_zero _),hbel⟩
   case round=>
    obtain ⟨q,hq,rfl,hall,hbel2⟩:=hrel
    clear hbel
    have hbel:=hbel2
    clear hbel2
    obtain ⟨z0,z1,y0,y1,r0,r1,f0,f1,hB⟩:=facts6 hbel
    by_cases hlq:q<k
    ·have hsk:=Hss.out q hlq
     obtain ⟨b,off,rfl,_,hb,hc⟩:=(hS.mono lr hB lr) (by omega)
     obtain ⟨d0,d1,d2,d3⟩:=hc q hlq
     clear hc
     have HB:Hid (sgBad n P (S q)=true→sigF n P m J k S=(3,(q:Int))):=fun h=>by rw [Hs.out];exact sig3_hit hlq hall.out h
     have HF:Hid (sgBad n P (S q)=false→∀ j,j<q+1→sgBad n P (S j)=false):=fun h=>snoc_all (p:=fun j=>sgBad n P (S j)) hall.out h
     clear hall
     cases n1:nameB (S q).nm
     ·have Hv:Hid (sigF n P m J k S=(3,(q:Int))):=HB.out (sg_bad1 n1)
      clear HB HF
      go_wp2_with (first | (go_at_call 85;refine (name18 _ _ hsk).mono ?_;rintro e wr ⟨rfl,rfl⟩) | (go_at_call 21;refine (in19 _ _ _ _).mono ?_;rintro e wr ⟨rfl,rfl⟩))
      exact bodyPost_ret (v:=.agg #[.int .i64 3,.int .i64 q]) (by simp [results,Tryz.results51,go_sem,r0,r1,z1]) rfl ⟨by rw [Hv.out],belS2a hB _ _ _⟩
     ·cases i1:inB (S q).ln 0 ((n:Int)-1)
      ·have Hv:Hid (sigF n P m J k S=(3,(q:Int))):=HB.out (sg_bad2 i1)
       clear HB HF
       go_wp2_with (first | (go_at_call 85;refine (name18 _ _ hsk).mono ?_;rintro e wr ⟨rfl,rfl⟩) | (go_at_call 21;refine (in19 _ _ _ _).mono ?_;rintro e wr ⟨rfl,rfl⟩))
       exact bodyPost_ret (v:=.agg #[.int .i64 3,.int .i64 q]) (by simp [results,Tryz.results51,go_sem,r0,r1,z1]) rfl ⟨by rw [Hv.out],belS2a hB _ _ _⟩
      ·cases w1:((S q).br != 1)
       ·have h3:(S q).br=1∨(S q).br=-1:=Or.inl (by simpa using w1)
        have Hl0:=sg_last (P:=P) n1 i1 h3
        have hrange:0≤(S q).ln∧(S q).ln≤(n:Int)-1:=by simpa [inB] using i1
        obtain ⟨p,hp⟩:∃ p:Nat,(S q).ln=(p:Int):=⟨(S q).ln.toNat,by omega⟩
        have hpn:p<n:=by omega
        have hp0:(0:Int)≤(p:Int):=by omega
        have hp1:(p:Int)<(n:Int):=by omega
        obtain ⟨b2,off2,rfl,_,hb2,hc2⟩:=(hP.mono lr hB lr) (by omega)
        have c1:=(hc2 p hpn).2.1
        obtain ⟨hl1,hl2⟩:=Hln.out p hpn
        rw [show (S q).ln.toNat=p by omega] at Hl0
        have Hl:Hid (sgBad n P (S q)=!(inB (S q).sp 1 ((P p).ln-1))):=Hl0
        rw [hp] at d1 i1
        clear hc2 hrange hp h3 Hl0
        have hB2:=hB.alloc hB.size (.cells #[.string (S q).nm,.int .i64 (p:Int),.int .i64 (S q).sp,.int .i64 (S q).br] 56)
        cases v1:inB (S q).sp 1 ((P p).ln-1)
        ·have Hv:Hid (sigF n P m J k S=(3,(q:Int))):=HB.out (by rw [Hl.out,v1];rfl)
         clear HB HF
         go_wp2_with (first | (go_at_call 85;refine (name18 _ _ hsk).mono ?_;rintro e wr ⟨rfl,rfl⟩) | (go_at_call 21;refine (in19 _ _ _ _).mono ?_;rintro e wr ⟨rfl,rfl⟩))
         go_quiet ((go_at_call 21;exact Calls.quiet_of_same (in19 _ _ _ _)))
         go_wp2_with fail
         exact bodyPost_ret (v:=.agg #[.int .i64 3,.int .i64 q]) (by simp [results,Tryz.results51,go_sem,r0,r1,z1]) rfl ⟨by rw [Hv.out],belS2 (below_drewN hB2 _) _ _⟩
        ·have HV:Hid (∀ j,j<q+1→sgBad n P (S j)=false):=HF.out (by rw [Hl.out,v1];rfl)
         clear HB HF
         go_wp2_with (first | (go_at_call 85;refine (name18 _ _ hsk).mono ?_;rintro e wr ⟨rfl,rfl⟩) | (go_at_call 21;refine (in19 _ _ _ _).mono ?_;rintro e wr ⟨rfl,rfl⟩))
         go_quiet ((go_at_call 21;exact Calls.quiet_of_same (in19 _ _ _ _)))
         go_wp2_with fail
         go_roundw
         case rel=>exact ⟨q+1,by omega,by go_num,HV,below_drewN (hbel.alloc (by omega) _) _⟩
         case measure=>simp [intOf];omega
       ·cases w2:((S q).br != -1)
        ·have h3:(S q).br=1∨(S q).br=-1:=Or.inr (by simpa using w2)
         have Hl0:=sg_last (P:=P) n1 i1 h3
         have hrange:0≤(S q).ln∧(S q).ln≤(n:Int)-1:=by simpa [inB] using i1
         obtain ⟨p,hp⟩:∃ p:Nat,(S q).ln=(p:Int):=⟨(S q).ln.toNat,by omega⟩
         have hpn:p<n:=by omega
         have hp0:(0:Int)≤(p:Int):=by omega
         have hp1:(p:Int)<(n:Int):=by omega
         obtain ⟨b2,off2,rfl,_,hb2,hc2⟩:=(hP.mono lr hB lr) (by omega)
         have c1:=(hc2 p hpn).2.1
         obtain ⟨hl1,hl2⟩:=Hln.out p hpn
         rw [show (S q).ln.toNat=p by omega] at Hl0
         have Hl:Hid (sgBad n P (S q)=!(inB (S q).sp 1 ((P p).ln-1))):=Hl0
         rw [hp] at d1 i1
         clear hc2 hrange hp h3 Hl0
         have hB2:=hB.alloc hB.size (.cells #[.string (S q).nm,.int .i64 (p:Int),.int .i64 (S q).sp,.int .i64 (S q).br] 56)
         cases v1:inB (S q).sp 1 ((P p).ln-1)
         ·have Hv:Hid (sigF n P m J k S=(3,(q:Int))):=HB.out (by rw [Hl.out,v1];rfl)
          clear HB HF
          go_wp2_with (first | (go_at_call 85;refine (name18 _ _ hsk).mono ?_;rintro e wr ⟨rfl,rfl⟩) | (go_at_call 21;refine (in19 _ _ _ _).mono ?_;rintro e wr ⟨rfl,rfl⟩))
          go_quiet ((go_at_call 21;exact Calls.quiet_of_same (in19 _ _ _ _)))
          go_wp2_with fail
          exact bodyPost_ret (v:=.agg #[.int .i64 3,.int .i64 q]) (by simp [results,Tryz.results51,go_sem,r0,r1,z1]) rfl ⟨by rw [Hv.out],belS2 (below_drewN hB2 _) _ _⟩
         ·have HV:Hid (∀ j,j<q+1→sgBad n P (S j)=false):=HF.out (by rw [Hl.out,v1];rfl)
          clear HB HF
          go_wp2_with (first | (go_at_call 85;refine (name18 _ _ hsk).mono ?_;rintro e wr ⟨rfl,rfl⟩) | (go_at_call 21;refine (in19 _ _ _ _).mono ?_;rintro e wr ⟨rfl,rfl⟩))
          go_quiet ((go_at_call 21;exact Calls.quiet_of_same (in19 _ _ _ _)))
          go_wp2_with fail
          go_roundw
          case rel=>exact ⟨q+1,by omega,by go_num,HV,below_drewN (hbel.alloc (by omega) _) _⟩
          case measure=>simp [intOf];omega
        ·have Hv:Hid (sigF n P m J k S=(3,(q:Int))):=HB.out (sg_bad3 w1 w2)
         clear HB HF
         go_wp2_with (first | (go_at_call 85;refine (name18 _ _ hsk).mono ?_;rintro e wr ⟨rfl,rfl⟩) | (go_at_call 21;refine (in19 _ _ _ _).mono ?_;rintro e wr ⟨rfl,rfl⟩))
         exact bodyPost_ret (v:=.agg #[.int .i64 3,.int .i64 q]) (by simp [results,Tryz.results51,go_sem,r0,r1,z1]) rfl ⟨by rw [Hv.out],belS2a hB _ _ _⟩
    ·obtain rfl:q=k:=by omega
     have Hs4:Hid (sigF n P m J q S=sig4 q S):=by
      show sigF n P m J q S=_
      rw [Hs.out,sig3_none hall.out]
     clear hall Hs Hln Hss
     go_wp2_with fail
     clear z0 z1 y0 y1 r0 r1 f0 f1 hB
     obtain ⟨wo,hwo⟩:∃ wo:World,wo=wr:=⟨_,rfl⟩
     subst hwo
     go_loopw [66] (fun i wr=>∃ t:Nat,t≤q∧i=.int .i64 t∧Hid (∀ j,j<t→clashB S (S j) j=false)∧Below (w.heap.size+1+1) (X6 w pa n pc ja m jc) wr) (fun i _=>q-(intOf i).toNat)
     case atStart=>exact ⟨0,Nat.zero_le _,rfl,fun j hj=>absurd hj (Nat.not_lt_zero _),hbel⟩
     case round=>
      obtain ⟨t,ht,rfl,hall,hbel4⟩:=hrel
      clear hbel
      obtain ⟨z0,z1,y0,y1,r0,r1,f0,f1,hB⟩:=facts6 hbel4
      have hS4:=hS.mono lr hB lr
      by_cases hlt2:t<q
      ·cases hv:clashB S (S t) t
       ·have Hall:Hid (∀ j,j<t+1→clashB S (S j) j=false):=snoc_all (p:=fun j=>clashB S (S j) j) hall.out hv
        clear hall
        go_wp2_with fail
        refine (l11before32 sa q sc S t _ hk hlt2 hS4).mono ?_
        rintro e w2 ⟨rfl,hb1⟩
        have hbel5:=hbel4.trans (hb1.mono (by omega))
        clear z0 z1 y0 y1 r0 r1 f0 f1 hB hb1 hS4
        go_wp2_with fail
        go_roundw
        case rel=>first | exact ⟨t+1,by omega,by go_num,Hall,hbel5⟩ | ((repeat apply Exists.intro);exact ⟨⟨t+1,by omega,by go_num,Hall,hbel5⟩,rfl⟩)
        case measure=>simp [intOf];omega
       ·have Hv:Hid (sigF n P m J q S=(4,(t:Int))):=by
         show sigF n P m J q S=_
         rw [Hs4.out]
         exact sig4_hit hlt2 hall.out hv
        clear hall
        go_wp2_with fail
        refine (l11before32 sa q sc S t _ hk hlt2 hS4).mono ?_
        rintro e w2 ⟨rfl,hb1⟩
        have hbel5:=hbel4.trans (hb1.mono (by omega))
        clear z0 z1 y0 y1 r0 r1 f0 f1 hB hb1 hS4
        obtain ⟨z0,z1,y0,y1,r0,r1,f0,f1,hB⟩:=facts6 hbel5
        go_wp2_with fail
        exact bodyPost_ret (v:=.agg #[.int .i64 4,.int .i64 t]) (by simp [results,Tryz.results51,go_sem,r0,r1]) rfl ⟨by rw [Hv.out],belS2 hB _ _⟩
      ·obtain rfl:t=q:=by omega
       have Hv:Hid (sigF n P m J t S=(0,0)):=by
        show sigF n P m J t S=_
        rw [Hs4.out,sig4_none hall.out]
       clear hall Hs4
       go_wp2_with fail
       exact bodyPost_ret (v:=.agg #[.int .i64 0,.int .i64 0]) (by simp [results,Tryz.results51,go_sem,r0,r1]) rfl ⟨by rw [Hv.out],belS2 hB _ _⟩
set_option maxHeartbeats 1000000 in
theorem l11all20 (pa:Option Addr)(n pc:Nat)(P:Nat→Pc)(ja:Option Addr)(m jc:Nat)(J:Nat→Jt)(sa:Option Addr)(k sc:Nat)(S:Nat→Pc)(w:World)(hn:n≤1048576)(hm:m≤1048576)
 (hP:PsAt 0 w pa n P) (hJ:JsAt 0 w ja m J) (hps:∀ i,i<n→(P i).nm.size≤maxLen) (hjs:∀ i,i<m→(J i).ne≤1048576∧(J i).nm.size≤maxLen)
 (hk:k≤1048576) (hS:PsAt 0 w sa k S) (hss:∀ i,i<k→(S i).nm.size≤maxLen):
 Calls Tryz.prog 20 #[.agg #[.slice pa n pc,.slice ja m jc],.slice sa k sc] w fun r w'=>r=.returned (.bool ((sigF n P m J k S).1 == 0))∧Below w.heap.size w w':=by
 have C:=spec12 pa n pc P ja m jc J sa k sc S (w.alloc (.cells #[.slice pa n pc,.slice ja m jc] 34)) hn hm (hP.mono lr (bel1 w _) lr) (hJ.mono lr (bel1 w _) lr) hps hjs hk (hS.mono lr (bel1 w _) lr) hss
 have HC:Hid (Calls Tryz.prog 51 _ _ _):=C
 clear C hP hJ hS hps hjs hss
 go_enter Tryz.func20,Tryz.ntmps20
 go_wp2_with fail
 refine HC.out.mono ?_
 rintro e w1 ⟨rfl,hb1⟩
 clear HC
 have B1:=(bel1 w (.cells #[.slice pa n pc,.slice ja m jc] 34)).trans (hb1.mono (by simp))
 go_wp2_with fail
 go_ret
 exact ⟨rfl,B1.alloc B1.size _⟩
end Go.Proofs.YtkhaehpobpkkiaaGreat
