import Derived.Deep.OwnRows
import Derived.Test.YtkhaehpobpkkiaaGreatMd
import Derived.Test.YtkhaehpobpkkiaaGreatKi
import Derived.Test.YtkhaehpobpkkiaaGreatBa
namespace Go.Proofs.YtkhaehpobpkkiaaGreat
open Go.RowKit
set_option maxHeartbeats 2000000 in
theorem pieceOk24 (a:Option Addr)(n cap:Nat)(P:Nat→Pc)(p:Nat)(w:World)(hn:n≤1048576)(hcap:n≤cap)(hcm:cap≤maxLen)(hp:p<n)(hP:PsAt 0 w a n P)(hsk:(P p).nm.size≤maxLen):
 Calls Tryz.prog 89 #[.slice a n cap,.int .i64 p] w fun e w'=>e=.returned (.bool (!pieceBad P p))∧Below w.heap.size w w':=by
 unfold maxLen at hcm
 obtain ⟨b,off,rfl,_,hb,hc0⟩:=hP (by omega)
 obtain ⟨c0,c1,c2,c3⟩:=hc0 p hp
 have Hc:Hid (∀ i,i<n→w.cell? ⟨b,off+i*4,none⟩=some (.string (P i).nm)∧w.cell? ⟨b,off+i*4+1,none⟩=some (.int .i64 (P i).ln)∧
  w.cell? ⟨b,off+i*4+2,none⟩=some (.int .i64 (P i).sp)∧w.cell? ⟨b,off+i*4+3,none⟩=some (.int .i64 (P i).br)):=hc0
 clear hc0 hP
 cases n1:nameB (P p).nm
 ·have Hv:Hid (pieceBad P p=true):=by
   show pieceBad P p=true
   simp [pieceBad,n1]
  go_enter Tryz.func89,Tryz.ntmps89
  go_wp2_with (first | (go_at_call 93;refine (nameOk42 _ _ hsk).mono ?_;rintro e w1 ⟨rfl,rfl⟩) | (go_at_call 28;refine (within43 _ _ _ _).mono ?_;rintro e w1 ⟨rfl,rfl⟩))
  go_ret
  exact ⟨by rw [Hv.out] <;> rfl,bel1 _ _⟩
 cases i1:inB (P p).ln 1 10000000
 ·have Hv:Hid (pieceBad P p=true):=by
   show pieceBad P p=true
   simp [pieceBad,n1,i1]
  go_enter Tryz.func89,Tryz.ntmps89
  go_wp2_with (first | (go_at_call 93;refine (nameOk42 _ _ hsk).mono ?_;rintro e w1 ⟨rfl,rfl⟩) | (go_at_call 28;refine (within43 _ _ _ _).mono ?_;rintro e w1 ⟨rfl,rfl⟩))
  go_ret
  exact ⟨by rw [Hv.out] <;> rfl,bel1 _ _⟩
 cases i2:inB (P p).sp 1 10000
 ·have Hv:Hid (pieceBad P p=true):=by
   show pieceBad P p=true
   simp [pieceBad,n1,i1,i2]
  go_enter Tryz.func89,Tryz.ntmps89
  go_wp2_with (first | (go_at_call 93;refine (nameOk42 _ _ hsk).mono ?_;rintro e w1 ⟨rfl,rfl⟩) | (go_at_call 28;refine (within43 _ _ _ _).mono ?_;rintro e w1 ⟨rfl,rfl⟩))
  go_ret
  exact ⟨by rw [Hv.out] <;> rfl,bel1 _ _⟩
 cases i3:inB (P p).br 1 1000
 ·have Hv:Hid (pieceBad P p=true):=by
   show pieceBad P p=true
   simp [pieceBad,n1,i1,i2,i3]
  go_enter Tryz.func89,Tryz.ntmps89
  go_wp2_with (first | (go_at_call 93;refine (nameOk42 _ _ hsk).mono ?_;rintro e w1 ⟨rfl,rfl⟩) | (go_at_call 28;refine (within43 _ _ _ _).mono ?_;rintro e w1 ⟨rfl,rfl⟩))
  go_ret
  exact ⟨by rw [Hv.out] <;> rfl,bel1 _ _⟩
 have Hd:Hid (pieceBad P p=dupN (fun q=>(P q).nm) (P p).nm p):=by
  show pieceBad P p=_
  simp [pieceBad,n1,i1,i2,i3]
 go_enter Tryz.func89,Tryz.ntmps89
 go_wp2_with (first | (go_at_call 93;refine (nameOk42 _ _ hsk).mono ?_;rintro e w1 ⟨rfl,rfl⟩) | (go_at_call 28;refine (within43 _ _ _ _).mono ?_;rintro e w1 ⟨rfl,rfl⟩))
 clear c0 c1 c2 c3 n1 i1 i2 i3
 go_loopw [38] (fun i wr=>∃ q:Nat,q≤p∧i=.int .i64 q∧Hid (∀ j,j<q→((P j).nm.toList == (P p).nm.toList)=false)∧
  Below (w.heap.size+1) (w.alloc (.cells #[.string (P p).nm,.int .i64 (P p).ln,.int .i64 (P p).sp,.int .i64 (P p).br] 108)) wr) (fun i _=>p-(intOf i).toNat)
 case atStart=>exact ⟨0,Nat.zero_le _,rfl,fun j hj=>absurd hj (Nat.not_lt_zero _),Below.refl _ _⟩
 case round=>
  obtain ⟨q,hq,rfl,hall,hbel⟩:=hrel
  have hB:Below w.heap.size w wr:=(bel1 w _).trans (hbel.mono (by omega))
  have p0:wr.cell? ⟨w.heap.size,0,none⟩=some (.string (P p).nm):=by rw [hbel.cell (by show w.heap.size < _;omega),World.cell?_alloc_at _ _ _ _ (by simp)];rfl
  have zz:w.heap.size<wr.heap.size:=by have:=hbel.size;simp at this;omega
  by_cases hlq:q<p
  ·obtain ⟨d0',d1',d2',d3'⟩:=Hc.out q (by omega)
   have d0:=(hB.cell (p:=⟨b,off+q*4,none⟩) hb).trans d0'
   have d1:=(hB.cell (p:=⟨b,off+q*4+1,none⟩) hb).trans d1'
   have d2:=(hB.cell (p:=⟨b,off+q*4+2,none⟩) hb).trans d2'
   have d3:=(hB.cell (p:=⟨b,off+q*4+3,none⟩) hb).trans d3'
   clear d0' d1' d2' d3'
   cases h5:((P q).nm.toList == (P p).nm.toList)
   ·have Hall:Hid (∀ j,j<q+1→((P j).nm.toList == (P p).nm.toList)=false):=snoc_all hall.out h5
    clear hall
    go_wp2_with fail
    go_roundw
    case rel=>exact ⟨q+1,by omega,by go_num,Hall,hbel.alloc (by omega) _⟩
    case measure=>simp [intOf];omega
   ·have Hv:Hid (pieceBad P p=true):=by
     show pieceBad P p=true
     rw [Hd.out]
     exact dupN_true hlq h5
    clear hall
    go_wp2_with fail
    go_ret
    exact ⟨by rw [Hv.out] <;> rfl,hB.alloc hB.size _⟩
  ·obtain rfl:q=p:=by omega
   have Hv:Hid (pieceBad P q=false):=by
    show pieceBad P q=false
    rw [Hd.out]
    exact dupN_false hall.out
   clear hall
   go_wp2_with fail
   go_ret
   exact ⟨by rw [Hv.out] <;> rfl,hB⟩
set_option maxHeartbeats 2000000 in
theorem jointNameOk26 (a:Option Addr)(n cap:Nat)(J:Nat→Jt)(p:Nat)(w:World)(hn:n≤1048576)(hcap:n≤cap)(hcm:cap≤maxLen)(hp:p<n)(hJ:JsAt 0 w a n J)(hsk:(J p).nm.size≤maxLen)(hkd:inB (J p).kd 1 4=true):
 Calls Tryz.prog 91 #[.slice a n cap,.int .i64 p] w fun e w'=>e=.returned (.bool (!nameBad J p))∧Below w.heap.size w w':=by
 unfold maxLen at hcm
 have hk14:1≤(J p).kd∧(J p).kd≤4:=by simpa [inB] using hkd
 clear hkd
 obtain ⟨b,off,rfl,_,hb,hc0⟩:=hJ (by omega)
 obtain ⟨ea,ec,c0,c1,c2,_⟩:=hc0 p hp
 have Hc:Hid (∀ i,i<n→∃ ea ec,w.cell? ⟨b,off+i*3,none⟩=some (.int .i64 (J i).kd)∧w.cell? ⟨b,off+i*3+1,none⟩=some (.string (J i).nm)∧w.cell? ⟨b,off+i*3+2,none⟩=some (.slice ea (J i).ne ec)):=fun i hi=>by
  obtain ⟨ea,ec,h1,h2,h3,_⟩:=hc0 i hi
  exact ⟨ea,ec,h1,h2,h3⟩
 clear hc0 hJ
 cases h1:namedB (J p).kd
 ·have Hv:Hid (nameBad J p=!(J p).nm.toList.isEmpty):=by
   show nameBad J p=_
   simp only [namedB,decide_eq_false_iff_not] at h1
   rw [nameBad,if_pos (by omega)]
  go_enter Tryz.func91,Tryz.ntmps91
  go_wp2_with (first | (go_at_call 113;refine (kindOf44 _ _).mono ?_;rintro e w1 ⟨rfl,rfl⟩) | (go_at_call 114;refine (hasName45 _ _).mono ?_;rintro e w1 ⟨rfl,rfl⟩))
  go_ret
  exact ⟨by rw [Hv.out];simp,Below.refl _ _⟩
 ·have Hd0:Hid (nameBad J p=(!(nameB (J p).nm) || dupN (fun k=>(J k).nm) (J p).nm p)):=by
   show nameBad J p=_
   simp only [namedB,decide_eq_true_eq] at h1
   rw [nameBad,if_neg (by omega)]
  cases n1:nameB (J p).nm
  ·have Hv:Hid (nameBad J p=true):=by
    show nameBad J p=_
    rw [Hd0.out,n1];rfl
   go_enter Tryz.func91,Tryz.ntmps91
   go_wp2_with (first | (go_at_call 113;refine (kindOf44 _ _).mono ?_;rintro e w1 ⟨rfl,rfl⟩) | (go_at_call 114;refine (hasName45 _ _).mono ?_;rintro e w1 ⟨rfl,rfl⟩) | (go_at_call 93;refine (nameOk42 _ _ hsk).mono ?_;rintro e w1 ⟨rfl,rfl⟩))
   go_ret
   exact ⟨by rw [Hv.out] <;> rfl,Below.refl _ _⟩
  ·have Hd:Hid (nameBad J p=dupN (fun k=>(J k).nm) (J p).nm p):=by
    show nameBad J p=_
    rw [Hd0.out,n1];rfl
   go_enter Tryz.func91,Tryz.ntmps91
   go_wp2_with (first | (go_at_call 113;refine (kindOf44 _ _).mono ?_;rintro e w ⟨rfl,rfl⟩) | (go_at_call 114;refine (hasName45 _ _).mono ?_;rintro e w ⟨rfl,rfl⟩) | (go_at_call 93;refine (nameOk42 _ _ hsk).mono ?_;rintro e w ⟨rfl,rfl⟩))
   clear c0 c1 c2 n1
   go_loopw [30] (fun i wr=>∃ q:Nat,q≤p∧i=.int .i64 q∧Hid (∀ j,j<q→((J j).nm.toList == (J p).nm.toList)=false)∧Below w.heap.size w wr) (fun i _=>p-(intOf i).toNat)
   case atStart=>exact ⟨0,Nat.zero_le _,rfl,fun j hj=>absurd hj (Nat.not_lt_zero _),Below.refl _ _⟩
   case round=>
    obtain ⟨q,hq,rfl,hall,hB⟩:=hrel
    by_cases hlq:q<p
    ·obtain ⟨ea2,ec2,d0',d1',d2'⟩:=Hc.out q (by omega)
     have d0:=(hB.cell (p:=⟨b,off+q*3,none⟩) hb).trans d0'
     have d1:=(hB.cell (p:=⟨b,off+q*3+1,none⟩) hb).trans d1'
     have d2:=(hB.cell (p:=⟨b,off+q*3+2,none⟩) hb).trans d2'
     clear d0' d1' d2'
     cases h5:((J q).nm.toList == (J p).nm.toList)
     ·have Hall:Hid (∀ j,j<q+1→((J j).nm.toList == (J p).nm.toList)=false):=snoc_all hall.out h5
      clear hall
      go_wp2_with fail
      go_roundw
      case rel=>exact ⟨q+1,by omega,by go_num,Hall,hB.alloc hB.size _⟩
      case measure=>simp [intOf];omega
     ·have Hv:Hid (nameBad J p=true):=by
       show nameBad J p=true
       rw [Hd.out]
       exact dupN_true hlq h5
      clear hall
      go_wp2_with fail
      go_ret
      exact ⟨by rw [Hv.out] <;> rfl,hB.alloc hB.size _⟩
    ·obtain rfl:q=p:=by omega
     have Hv:Hid (nameBad J q=false):=by
      show nameBad J q=false
      rw [Hd.out]
      exact dupN_false hall.out
     clear hall
     go_wp2_with fail
     go_ret
     exact ⟨by rw [Hv.out] <;> rfl,hB⟩
def Z90:Array Value:=Array.replicate 200 (.int .i64 0)
theorem zero90 (w:World):(zeroValue 189).run Tryz.prog w=.ok (.agg Z90) w:=by kernel_rfl
def eOf (i:Nat):En:=⟨((i / 2:Nat):Int),((i % 2:Nat):Int)⟩
def cur (J:Nat→Jt)(k q i:Nat):Nat:=cntJ J (eOf i) k+cntE (J k).E (eOf i) q
def RwZ (w:World)(B:Nat)(J:Nat→Jt)(k q:Nat):Prop:=w.rowIs B 189 200 (fun i=>.int .i64 (cur J k q i))
theorem rw_start (w:World)(J:Nat→Jt):RwZ (w.alloc (.cells Z90 189)) w.heap.size J 0 0:=by
 have h:=World.rowIs_alloc w Z90 189 (fun i=>.int .i64 (cur J 0 0 i)) (fun i hi=>by
  have:i<200:=by simpa [Z90] using hi
  simp [Z90,this,cur,cntJ,cntE])
 have e:Z90.size=200:=by simp [Z90]
 rw [e] at h
 exact h
theorem cur_next (J:Nat→Jt)(k i:Nat):cur J k (J k).ne i=cur J (k+1) 0 i:=by simp [cur,cntJ,cntE]
theorem rw_next {w:World}{B:Nat}{J:Nat→Jt}{k:Nat}(h:RwZ w B J k (J k).ne):RwZ w B J (k+1) 0:=by
 refine World.rowIs.congr h fun i _=>?_
 rw [cur_next]
theorem cur_le {J:Nat→Jt}{k q i:Nat}(h:∀ i,i<k→(J i).ne≤1048576)(hk:k≤120)(hq:q≤1048576):cur J k q i≤126877696:=by
 have h1:=cntJ_le J (eOf i) k h
 have h2:=cntE_le (J k).E (eOf i) q
 unfold cur
 omega
theorem cur_step {J:Nat→Jt}{k q p s:Nat}(hp:((J k).E q).pc=(p:Int))(hs:((J k).E q).sd=(s:Int))(hs2:s<2)(i:Nat):cur J k (q+1) i=if i=p*2+s then cur J k q i+1 else cur J k q i:=by
 unfold cur
 by_cases e:i=p*2+s
 ·rw [if_pos e,cnt_yes (by rw [hp];simp only [eOf];omega) (by rw [hs];simp only [eOf];omega)]
  omega
 ·rw [if_neg e]
  by_cases e1:i / 2=p
  ·rw [cnt_no2 (by rw [hs];simp only [eOf];omega)]
  ·rw [cnt_no1 (by rw [hp];simp only [eOf];omega)]
theorem rw_step {w:World}{B:Nat}{J:Nat→Jt}{k q p s:Nat}(h:RwZ w B J k q)(hp:((J k).E q).pc=(p:Int))(hs:((J k).E q).sd=(s:Int))(hs2:s<2):
 RwZ (w.setCell ⟨B,p*2+s,none⟩ (.int .i64 ((cur J k q (p*2+s):Int)+1))) B J k (q+1):=by
 refine World.rowIs.congr (World.rowIs.set h _ _) fun i _=>?_
 rw [cur_step hp hs hs2]
 by_cases e:i=p*2+s
 ·subst e;simp
 ·simp [e]
set_option maxRecDepth 100000 in
set_option maxHeartbeats 2000000 in
theorem loose27 (pa:Option Addr)(n pc:Nat)(ja:Option Addr)(m jc:Nat)(J:Nat→Jt)(w:World)(hn:n≤100)(hm:m≤120)(hJ:JsAt 0 w ja m J)(hne:∀ i,i<m→(J i).ne≤1048576)(hok:∀ i,i<m→∀ q,q<(J i).ne→endB n ((J i).E q)=true):
 Calls Tryz.prog 92 #[.agg #[.slice pa n pc,.slice ja m jc]] w fun r w'=>r=.returned (.agg #[.int .i64 (stage5 n m J).1,.int .i64 (stage5 n m J).2])∧Below w.heap.size w w':=by
 have Hne:Hid (∀ i,i<m→(J i).ne≤1048576):=hne
 have Hok:Hid (∀ i,i<m→∀ q,q<(J i).ne→endB n ((J i).E q)=true):=hok
 clear hne hok
 have hz:=zero90
 have hst:RwZ ((X6 w pa n pc ja m jc).alloc (.cells Z90 189)) (w.heap.size+1+1) J 0 0:=by
  have h:=rw_start (X6 w pa n pc ja m jc) J
  rw [show (X6 w pa n pc ja m jc).heap.size=w.heap.size+1+1 by simp [X6]] at h
  exact h
 have hbst:Below (w.heap.size+1+1) (X6 w pa n pc ja m jc) ((X6 w pa n pc ja m jc).alloc (.cells Z90 189)):=(Below.refl _ _).alloc (by simp [X6]) _
 unfold X6 at hst hbst
 go_enter Tryz.func92,Tryz.ntmps92
 go_wp2_with fail
 go_loopw [12] (fun i wr=>∃ k:Nat,k≤m∧i=.int .i64 k∧RwZ wr (w.heap.size+1+1) J k 0∧Below (w.heap.size+1+1) (X6 w pa n pc ja m jc) wr) (fun i _=>m-(intOf i).toNat)
 case atStart=>exact ⟨0,Nat.zero_le _,rfl,hst,hbst⟩
 case round=>
  obtain ⟨k,hk,rfl,hrow,hbel⟩:=hrel
  clear hst hbst hz
  obtain ⟨z0,z1,y0,y1,r0,r1,f0,f1,hB⟩:=facts6 hbel
  by_cases hlt:k<m
  ·obtain ⟨b,off,rfl,_,hb,hc⟩:=hJ (by omega)
   obtain ⟨ea,ec,c0',c1',c2',hE⟩:=hc k hlt
   have c0:=(hB.cell (p:=⟨b,off+k*3,none⟩) hb).trans c0'
   have c1:=(hB.cell (p:=⟨b,off+k*3+1,none⟩) hb).trans c1'
   have c2:=(hB.cell (p:=⟨b,off+k*3+2,none⟩) hb).trans c2'
   have hnk:=Hne.out k hlt
   clear hc c0' c1' c2'
   go_wp2_with fail
   clear z0 z1 y0 y1 r0 r1 f0 f1 c0 c1 c2
   obtain ⟨wo,hwo⟩:∃ wo:World,wo=wr:=⟨_,rfl⟩
   subst hwo
   go_loopw [19] (fun i wr=>∃ q:Nat,q≤(J k).ne∧i=.int .i64 q∧RwZ wr (w.heap.size+1+1) J k q∧Below (w.heap.size+1+1) (X6 w pa n pc (some ⟨b,off,none⟩) m jc) wr) (fun i _=>(J k).ne-(intOf i).toNat)
   case atStart=>exact ⟨0,Nat.zero_le _,rfl,hrow.alloc _,hbel.alloc (by have:=hrow.lt;omega) _⟩
   case round=>
    obtain ⟨q,hq,rfl,hrow2,hbel2⟩:=hrel
    clear hB
    have hB:Below w.heap.size w wr:=(facts6 hbel2).hB
    by_cases hlq:q<(J k).ne
    ·obtain ⟨b2,off2,rfl,_,hb2,hc2⟩:=(hE.mono lr hB lr) (by omega)
     obtain ⟨d0,d1⟩:=hc2 q hlq
     clear hc2
     have hk1:=Hok.out k hlt q hlq
     have hk2:0≤((J k).E q).pc∧((J k).E q).pc≤(n:Int)-1∧0≤((J k).E q).sd∧((J k).E q).sd≤1:=by
      simp only [endB,inB,Bool.and_eq_true,decide_eq_true_eq] at hk1
      omega
     clear hk1
     obtain ⟨p,hp⟩:∃ p:Nat,((J k).E q).pc=(p:Int):=⟨((J k).E q).pc.toNat,by omega⟩
     obtain ⟨s,hs⟩:∃ s:Nat,((J k).E q).sd=(s:Int):=⟨((J k).E q).sd.toNat,by omega⟩
     have hp0:(0:Int)≤(p:Int):=by omega
     have hp1:(p:Int)<100:=by omega
     have hs0:(0:Int)≤(s:Int):=by omega
     have hs1:(s:Int)<2:=by omega
     have hR:=rw_step hrow2 hp hs (by omega)
     have g0:=hrow2.cell (i:=p*2+s) (by omega)
     have g1:=hrow2.frozen (p*2+s)
     have hlt2:=hrow2.lt
     have hcl:=cur_le (J:=J) (k:=k) (q:=q) (i:=p*2+s) (fun i hi=>Hne.out i (by omega)) (by omega) (by omega)
     rw [hp] at d0
     rw [hs] at d1
     clear hk2 hp hs
     generalize cur J k q (p*2+s)=cv at *
     go_wp2_with fail
     go_region
     go_wp2_with fail
     go_roundw
     case rel=>exact ⟨q+1,by omega,by go_num,(hR.alloc _).drew,((hbel2.setCell (p:=⟨w.heap.size+1+1,p*2+s,none⟩) (by show w.heap.size+1+1≤w.heap.size+1+1;omega) _).alloc (by have:=size_set wr ⟨w.heap.size+1+1,p*2+s,none⟩ (.int .i64 ((cv:Int)+1));omega) _).drew⟩
     case measure=>simp [intOf];omega
    ·obtain rfl:q=(J k).ne:=by omega
     have hR:=rw_next hrow2
     go_wp2_with fail
     go_roundw
     case rel=>exact ⟨k+1,by omega,by go_num,hR,hbel2⟩
     case measure=>simp [intOf];omega
  ·obtain rfl:k=m:=by omega
   go_wp2_with fail
   clear z0 z1 y0 y1 r0 r1 f0 f1
   obtain ⟨wo,hwo⟩:∃ wo:World,wo=wr:=⟨_,rfl⟩
   subst hwo
   go_loopw [38] (fun i wr=>∃ p:Nat,p≤n∧i=.int .i64 p∧Hid (∀ q,q<p→looseBad J k q=false)∧wr=wo) (fun i _=>n-(intOf i).toNat)
   case atStart=>exact ⟨0,Nat.zero_le _,rfl,fun j hj=>absurd hj (Nat.not_lt_zero _),rfl⟩
   case round=>
    obtain ⟨p,hp,rfl,hall,hwr⟩:=hrel
    subst hwr
    by_cases hlp:p<n
    ·have g0:=hrow.cell (i:=p*2) (by omega)
     have g1:=hrow.cell (i:=p*2+1) (by omega)
     have e0:cur J k 0 (p*2)=cntJ J ⟨(p:Int),0⟩ k:=by
      have h1:p*2 / 2=p:=by omega
      have h2:p*2 % 2=0:=by omega
      simp [cur,cntE,eOf,h1,h2]
     have e1:cur J k 0 (p*2+1)=cntJ J ⟨(p:Int),1⟩ k:=by
      have h1:(p*2+1) / 2=p:=by omega
      have h2:(p*2+1) % 2=1:=by omega
      simp [cur,cntE,eOf,h1,h2]
     rw [e0] at g0
     rw [e1] at g1
     clear e0 e1
     obtain ⟨z0,z1,y0,y1,r0,r1,f0,f1,hB⟩:=facts6 hbel
     have hp0:(0:Int)≤(p:Int):=by omega
     have hp1:(p:Int)<100:=by omega
     have heq:=eq89
     by_cases hgood:cntJ J ⟨(p:Int),0⟩ k=1∧cntJ J ⟨(p:Int),1⟩ k=1
     ·have Hall:Hid (∀ q,q<p+1→looseBad J k q=false):=snoc_all hall.out (by simp [looseBad,hgood.1,hgood.2])
      have hbb:((((cntJ J ⟨(p:Int),0⟩ k:Nat):Int) == 1) && (((cntJ J ⟨(p:Int),1⟩ k:Nat):Int) == 1))=true:=by simp [hgood.1,hgood.2]
      rw [hgood.1] at g0
      rw [hgood.2] at g1
      clear hgood hall hbb
      go_wp2_with fail
      go_roundw
      case rel=>exact ⟨p+1,by omega,by go_num,Hall,trivial⟩
      case measure=>simp [intOf];omega
     ·have Hv:Hid (stage5 n k J=(5,(p:Int))):=s5_hit hlp hall.out (by
       simp only [looseBad]
       by_cases h1:cntJ J ⟨(p:Int),0⟩ k=1
       ·have h2:¬cntJ J ⟨(p:Int),1⟩ k=1:=fun h=>hgood ⟨h1,h⟩
        simp [h2]
       ·simp [h1])
      clear hall
      by_cases h1:cntJ J ⟨(p:Int),0⟩ k=1
      ·have hb2:(((cntJ J ⟨(p:Int),1⟩ k:Nat):Int) == 1)=false:=by simp;omega
       rw [h1] at g0
       clear hgood h1
       go_wp2_with fail
       exact bodyPost_ret (v:=.agg #[.int .i64 5,.int .i64 p]) (by simp [results,Tryz.results92,go_sem,r0,r1]) rfl ⟨by rw [Hv.out],belS2 hB _ _⟩
      ·have hb1:(((cntJ J ⟨(p:Int),0⟩ k:Nat):Int) == 1)=false:=by simp;omega
       clear hgood h1
       go_wp2_with fail
       exact bodyPost_ret (v:=.agg #[.int .i64 5,.int .i64 p]) (by simp [results,Tryz.results92,go_sem,r0,r1]) rfl ⟨by rw [Hv.out],belS2 hB _ _⟩
    ·obtain rfl:p=n:=by omega
     have Hv:Hid (stage5 p k J=(0,0)):=s5_none hall.out
     clear hall
     obtain ⟨z0,z1,y0,y1,r0,r1,f0,f1,hB⟩:=facts6 hbel
     go_wp2_with fail
     exact bodyPost_ret (v:=.agg #[.int .i64 0,.int .i64 0]) (by simp [results,Tryz.results92,go_sem,r0,r1]) rfl ⟨by rw [Hv.out],belS2 hB _ _⟩
end Go.Proofs.YtkhaehpobpkkiaaGreat
