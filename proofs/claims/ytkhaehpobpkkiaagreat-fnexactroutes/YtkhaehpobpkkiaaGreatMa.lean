import Derived.Test.YtkhaehpobpkkiaaGreatBa
namespace Go.Proofs.YtkhaehpobpkkiaaGreat
open Go.RowKit
def okB (c:Int):Bool:=decide ((97≤c∧c≤122)∨(48≤c∧c≤57)∨c=95)
def OkI (c:Int):Prop:=okB c=true
theorem okI_iff (c:Int):OkI c↔((97≤c∧c≤122)∨(48≤c∧c≤57)∨c=95):=by simp [OkI,okB]
def nameB (s:ByteArray):Bool:=decide (1≤s.size) && decide (s.size≤20) && s.data.toList.all (fun c=>okB (c.toNat:Int))
theorem all_of (s:ByteArray)(h:∀ i,(hi:i<s.size)→OkI (s[i].toNat:Int)):s.data.toList.all (fun c=>okB (c.toNat:Int))=true:=by
 rw [List.all_eq_true]
 intro c hc
 obtain ⟨i,hi,rfl⟩:=List.getElem_of_mem hc
 have:=h i (by simpa using hi)
 simp only [Array.getElem_toList]
 exact this
theorem not_all (s:ByteArray)(i:Nat)(hi:i<s.size)(h:¬OkI (s[i].toNat:Int)):s.data.toList.all (fun c=>okB (c.toNat:Int))=false:=by
 rw [List.all_eq_false]
 refine ⟨s[i],?_,h⟩
 show s.data[i] ∈ s.data.toList
 simp
theorem nameB_bad (s:ByteArray)(i:Nat)(hi:i<s.size)(h:¬OkI (s[i].toNat:Int)):nameB s=false:=by
 simp [nameB,not_all s i hi h]
theorem nameB_end (s:ByteArray)(h:∀ i,(hi:i<s.size)→OkI (s[i].toNat:Int)):nameB s=(decide (1≤s.size) && decide (s.size≤20)):=by
 simp [nameB,all_of s h]
theorem six (c:Int):(97≤c∧c≤122)∨(97≤c∧decide (c≤122)=false∧48≤c∧decide (c≤57)=false∧(c == 95)=false)∨(c<97∧48≤c∧c≤57)∨(c<97∧48≤c∧decide (c≤57)=false∧(c == 95)=true)∨(c<97∧48≤c∧decide (c≤57)=false∧(c == 95)=false)∨(c<97∧c<48∧(c == 95)=false):=by
 simp only [beq_iff_eq,beq_eq_false_iff_ne,decide_eq_false_iff_not]
 omega
set_option maxHeartbeats 1000000 in
theorem name18 (s:ByteArray)(w:World)(hs:s.size≤maxLen):
 Calls Tryz.prog 85 #[.string s] w fun e w'=>e=.returned (.bool (nameB s))∧w'=w:=by
 unfold maxLen at hs
 go_enter Tryz.func85,Tryz.ntmps85
 go_wp2_with fail
 go_loop [3] (fun i=>∃ k:Nat,k≤s.size∧i=.int .i64 k∧Hid (∀ j,j<k→(hj:j<s.size)→OkI (s[j].toNat:Int))) (fun i=>s.size-(intOf i).toNat)
 case atStart=>exact ⟨0,Nat.zero_le _,rfl,fun j hj=>absurd hj (Nat.not_lt_zero _)⟩
 case round=>
  obtain ⟨k,hk,rfl,hall⟩:=hrel
  by_cases hlt:k<s.size
  ·have HS:Hid (OkI (s[k].toNat:Int)→∀ j,j<k+1→(hj:j<s.size)→OkI (s[j].toNat:Int)):=by
    intro hok j hj hj'
    by_cases e:j=k
    ·subst e;exact hok
    ·exact hall.out j (by omega) hj'
   have HB:Hid (¬OkI (s[k].toNat:Int)→nameB s=false):=nameB_bad s k hlt
   clear hall
   rcases six (s[k].toNat:Int) with ⟨h1,h2⟩ | ⟨h1,h2,h3,h4,h5⟩ | ⟨h1,h2,h3⟩ | ⟨h1,h2,h3,h4⟩ | ⟨h1,h2,h3,h4⟩ | ⟨h1,h2,h3⟩
   ·go_wp2
    go_round
    case rel=>exact ⟨k+1,by omega,by go_num,HS.out (by rw [okI_iff];omega)⟩
    case measure=>simp [intOf];omega
   ·go_wp2
    go_ret
    exact ⟨(by rw [HB.out (by rw [okI_iff];simp only [beq_eq_false_iff_ne,decide_eq_false_iff_not] at h2 h4 h5;omega)] <;> rfl),rfl⟩
   ·go_wp2
    go_round
    case rel=>exact ⟨k+1,by omega,by go_num,HS.out (by rw [okI_iff];omega)⟩
    case measure=>simp [intOf];omega
   ·go_wp2
    go_round
    case rel=>exact ⟨k+1,by omega,by go_num,HS.out (by rw [okI_iff];simp only [beq_iff_eq] at h4;omega)⟩
    case measure=>simp [intOf];omega
   ·go_wp2
    go_ret
    exact ⟨(by rw [HB.out (by rw [okI_iff];simp only [beq_eq_false_iff_ne,decide_eq_false_iff_not] at h3 h4;omega)] <;> rfl),rfl⟩
   ·go_wp2
    go_ret
    exact ⟨(by rw [HB.out (by rw [okI_iff];simp only [beq_eq_false_iff_ne] at h3;omega)] <;> rfl),rfl⟩
  ·obtain rfl:k=s.size:=by omega
   have Hb:Hid (nameB s=(decide (1≤s.size) && decide (s.size≤20))):=nameB_end s (fun i hi=>hall.out i hi hi)
   clear hall
   by_cases h1:1≤s.size
   ·go_wp2
    go_ret
    exact ⟨by rw [Hb.out];simp [h1];omega,rfl⟩
   ·go_wp2
    go_ret
    exact ⟨by rw [Hb.out];simp [h1],rfl⟩
set_option maxHeartbeats 1000000 in
theorem nameByte50 (c:Int)(w:World):
 Calls Tryz.prog 115 #[.int .u8 c] w fun e w'=>e=.returned (.bool (okB c))∧w'=w:=by
 have HD:Hid (OkI c→okB c=true):=fun h=>h
 have HE:Hid (¬OkI c→okB c=false):=fun h=>by simpa [OkI] using h
 rcases six c with ⟨h1,h2⟩ | ⟨h1,h2,h3,h4,h5⟩ | ⟨h1,h2,h3⟩ | ⟨h1,h2,h3,h4⟩ | ⟨h1,h2,h3,h4⟩ | ⟨h1,h2,h3⟩
 ·go_enter Tryz.func115,Tryz.ntmps115
  go_wp2
  go_ret
  exact ⟨(by rw [HD.out (by rw [okI_iff];omega)] <;> rfl),rfl⟩
 ·go_enter Tryz.func115,Tryz.ntmps115
  go_wp2
  go_ret
  exact ⟨(by rw [HE.out (by rw [okI_iff];simp only [beq_eq_false_iff_ne,decide_eq_false_iff_not] at h2 h4 h5;omega)] <;> rfl),rfl⟩
 ·go_enter Tryz.func115,Tryz.ntmps115
  go_wp2
  go_ret
  exact ⟨(by rw [HD.out (by rw [okI_iff];omega)] <;> rfl),rfl⟩
 ·go_enter Tryz.func115,Tryz.ntmps115
  go_wp2
  go_ret
  exact ⟨(by rw [HD.out (by rw [okI_iff];simp only [beq_iff_eq] at h4;omega)] <;> rfl),rfl⟩
 ·go_enter Tryz.func115,Tryz.ntmps115
  go_wp2
  go_ret
  exact ⟨(by rw [HE.out (by rw [okI_iff];simp only [beq_eq_false_iff_ne,decide_eq_false_iff_not] at h3 h4;omega)] <;> rfl),rfl⟩
 ·go_enter Tryz.func115,Tryz.ntmps115
  go_wp2
  go_ret
  exact ⟨(by rw [HE.out (by rw [okI_iff];simp only [beq_eq_false_iff_ne] at h3;omega)] <;> rfl),rfl⟩
set_option maxHeartbeats 1000000 in
theorem nameOk42 (s:ByteArray)(w:World)(hs:s.size≤maxLen):
 Calls Tryz.prog 93 #[.string s] w fun e w'=>e=.returned (.bool (nameB s))∧w'=w:=by
 unfold maxLen at hs
 by_cases hsz:1≤s.size∧s.size≤20
 ·obtain ⟨h1,h2⟩:=hsz
  go_enter Tryz.func93,Tryz.ntmps93
  go_wp2_with fail
  go_loop [3] (fun i=>∃ k:Nat,k≤s.size∧i=.int .i64 k∧Hid (∀ j,j<k→(hj:j<s.size)→OkI (s[j].toNat:Int))) (fun i=>s.size-(intOf i).toNat)
  case atStart=>exact ⟨0,Nat.zero_le _,rfl,fun j hj=>absurd hj (Nat.not_lt_zero _)⟩
  case round=>
   obtain ⟨k,hk,rfl,hall⟩:=hrel
   by_cases hlt:k<s.size
   ·by_cases hok:OkI (s[k].toNat:Int)
    ·have HS:Hid (∀ j,j<k+1→(hj:j<s.size)→OkI (s[j].toNat:Int)):=by
      intro j hj hj'
      by_cases e:j=k
      ·subst e;exact hok
      ·exact hall.out j (by omega) hj'
     have hd:okB (s[k].toNat:Int)=true:=hok
     clear hall hok
     go_wp2_with (go_at_call 115;refine (nameByte50 _ _).mono ?_;rintro e w' ⟨rfl,rfl⟩)
     go_round
     case rel=>exact ⟨k+1,by omega,by go_num,HS⟩
     case measure=>simp [intOf];omega
    ·have Hb:Hid (nameB s=false):=nameB_bad s k hlt hok
     have hd:okB (s[k].toNat:Int)=false:=by simpa [OkI] using hok
     clear hall hok
     go_wp2_with (go_at_call 115;refine (nameByte50 _ _).mono ?_;rintro e w' ⟨rfl,rfl⟩)
     go_ret
     exact ⟨(by rw [Hb.out] <;> rfl),rfl⟩
   ·obtain rfl:k=s.size:=by omega
    have Hb:Hid (nameB s=(decide (1≤s.size) && decide (s.size≤20))):=nameB_end s (fun i hi=>hall.out i hi hi)
    clear hall
    go_wp2
    go_ret
    exact ⟨by rw [Hb.out];simp [h1,h2],rfl⟩
 ·have Hb:Hid (nameB s=false):=by
   show nameB s=false
   simp only [nameB]
   by_cases h1:1≤s.size
   ·have:¬s.size≤20:=by omega
    simp [this]
   ·simp [h1]
  by_cases h1:1≤s.size
  ·have h2:20<s.size:=by omega
   clear hsz
   go_enter Tryz.func93,Tryz.ntmps93
   go_wp2_with fail
   go_ret
   exact ⟨(by rw [Hb.out] <;> rfl),rfl⟩
  ·clear hsz
   go_enter Tryz.func93,Tryz.ntmps93
   go_wp2_with fail
   go_ret
   exact ⟨(by rw [Hb.out] <;> rfl),rfl⟩
def endB (n:Nat)(e:En):Bool:=inB e.pc 0 ((n:Int)-1) && inB e.sd 0 1
set_option maxHeartbeats 1000000 in
theorem l11end39 (pa:Option Addr)(n pc:Nat)(ja:Option Addr)(m jc:Nat)(e:En)(w:World)(hn:n≤1048576):
 Calls Tryz.prog 122 #[.agg #[.slice pa n pc,.slice ja m jc],.agg #[.int .i64 e.pc,.int .i64 e.sd]] w fun r w'=>r=.returned (.bool (endB n e))∧Below w.heap.size w w':=by
 cases h1:inB e.pc 0 ((n:Int)-1)
 ·go_enter Tryz.func122,Tryz.ntmps122
  go_wp2_with fail
  refine (in19 _ _ _ _).mono ?_
  rintro r w1 ⟨rfl,rfl⟩
  go_wp2_with fail
  go_ret
  exact ⟨by simp [endB,h1],bel2 _ _ _⟩
 ·go_enter Tryz.func122,Tryz.ntmps122
  go_wp2_with fail
  refine (in19 _ _ _ _).mono ?_
  rintro r w1 ⟨rfl,rfl⟩
  go_wp2_with fail
  refine (in19 _ _ _ _).mono ?_
  rintro r w1 ⟨rfl,rfl⟩
  go_wp2_with fail
  go_ret
  exact ⟨by simp [endB,h1],bel2 _ _ _⟩
def eqB (x e:En):Bool:=x.pc == e.pc && x.sd == e.sd
def cntE (E:Nat→En)(e:En):Nat→Nat
 | 0=>0
 | k+1=>cntE E e k+if eqB (E k) e then 1 else 0
def cntJ (J:Nat→Jt)(e:En):Nat→Nat
 | 0=>0
 | k+1=>cntJ J e k+cntE (J k).E e (J k).ne
theorem cnt_yes {E:Nat→En}{e:En}{q:Nat}(h1:(E q).pc=e.pc)(h2:(E q).sd=e.sd):cntE E e (q+1)=cntE E e q+1:=by simp [cntE,eqB,h1,h2]
theorem cnt_no1 {E:Nat→En}{e:En}{q:Nat}(h1:¬(E q).pc=e.pc):cntE E e (q+1)=cntE E e q:=by simp [cntE,eqB,h1]
theorem cnt_no2 {E:Nat→En}{e:En}{q:Nat}(h1:¬(E q).sd=e.sd):cntE E e (q+1)=cntE E e q:=by simp [cntE,eqB,h1]
theorem cntE_le (E:Nat→En)(e:En)(k:Nat):cntE E e k≤k:=by
 induction k with
 | zero=>simp [cntE]
 | succ k ih=>simp only [cntE];split <;> omega
theorem cntJ_le (J:Nat→Jt)(e:En)(k:Nat)(h:∀ i,i<k→(J i).ne≤1048576):cntJ J e k≤k*1048576:=by
 induction k with
 | zero=>simp [cntJ]
 | succ k ih=>
  have h1:=ih (fun i hi=>h i (by omega))
  have h2:=cntE_le (J k).E e (J k).ne
  have h3:=h k (by omega)
  simp only [cntJ]
  omega
set_option maxHeartbeats 1000000 in
theorem l11uses21 (pa:Option Addr)(n pc:Nat)(ja:Option Addr)(m jc:Nat)(J:Nat→Jt)(e:En)(w:World)(hm:m≤1048576)(hJ:JsAt 0 w ja m J)(hne:∀ i,i<m→(J i).ne≤1048576):
 Calls Tryz.prog 121 #[.agg #[.slice pa n pc,.slice ja m jc],.agg #[.int .i64 e.pc,.int .i64 e.sd]] w fun r w'=>r=.returned (.int .i64 (cntJ J e m))∧Below w.heap.size w w':=by
 have Hne:Hid (∀ i,i<m→(J i).ne≤1048576):=hne
 clear hne
 go_enter Tryz.func121,Tryz.ntmps121
 go_wp2_with fail
 go_loopw [5,13] (fun c i wr=>∃ k:Nat,k≤m∧i=.int .i64 k∧c=.int .i64 (cntJ J e k)∧Below (w.heap.size+1+1) ((w.alloc (.cells #[.slice pa n pc,.slice ja m jc] 34)).alloc (.cells #[.int .i64 e.pc,.int .i64 e.sd] 112)) wr) (fun _ i _=>m-(intOf i).toNat)
 case atStart=>exact ⟨0,Nat.zero_le _,rfl,rfl,Below.refl _ _⟩
 case round=>
  obtain ⟨k,hk,rfl,rfl,hbel⟩:=hrel
  have hB:Below w.heap.size w wr:=(bel2 w _ _).trans (hbel.mono (by omega))
  by_cases hlt:k<m
  ·obtain ⟨b,off,rfl,_,hb,hc⟩:=(hJ.mono lr hB lr) (by omega)
   obtain ⟨ea,ec,c0,c1,c2,hE⟩:=hc k hlt
   have hnk:=Hne.out k hlt
   have hcl:=cntJ_le J e k (fun i hi=>Hne.out i (by omega))
   have HCS:Hid (cntJ J e (k+1)=cntJ J e k+cntE (J k).E e (J k).ne):=rfl
   have z1:wr.cell? ⟨w.heap.size+1,0,none⟩=some (.int .i64 e.pc):=by rw [hbel.cell (by show w.heap.size+1 < _;omega)];simp
   have z2:wr.cell? ⟨w.heap.size+1,1,none⟩=some (.int .i64 e.sd):=by rw [hbel.cell (by show w.heap.size+1 < _;omega)];simp
   have zs:w.heap.size+1+1≤wr.heap.size:=by have:=hbel.size;simpa using this
   clear hc
   generalize hcv:cntJ J e k=cv at *
   have Hcv:Hid (cntJ J e k=cv):=hcv
   clear hcv
   go_wp2_with fail
   obtain ⟨wo,hwo⟩:∃ wo:World,wo=wr:=⟨_,rfl⟩
   subst hwo
   go_loopw [5,20] (fun c i wr=>∃ q:Nat,q≤(J k).ne∧i=.int .i64 q∧c=.int .i64 ((cv+cntE (J k).E e q:Nat):Int)∧Below wo.heap.size wo wr) (fun _ i _=>(J k).ne-(intOf i).toNat)
   case atStart=>exact ⟨0,Nat.zero_le _,rfl,rfl,(Below.refl _ _).alloc lr _⟩
   case round=>
    obtain ⟨q,hq,rfl,rfl,hbel2⟩:=hrel
    by_cases hlq:q<(J k).ne
    ·obtain ⟨b2,off2,rfl,_,hb2,hc2⟩:=(hE.mono lr hbel2 lr) (by omega)
     obtain ⟨d0,d1⟩:=hc2 q hlq
     clear hc2
     have y1:wr.cell? ⟨w.heap.size+1,0,none⟩=some (.int .i64 e.pc):=by rw [hbel2.cell (by show w.heap.size+1 < _;omega)];exact z1
     have y2:wr.cell? ⟨w.heap.size+1,1,none⟩=some (.int .i64 e.sd):=by rw [hbel2.cell (by show w.heap.size+1 < _;omega)];exact z2
     have hcq:=cntE_le (J k).E e q
     have hz3:w.heap.size+1<wr.heap.size:=by have:=hbel2.size;omega
     go_wp2_with fail
     all_goals
      go_roundw
      case rel=>
       first
        | exact ⟨q+1,by omega,by go_num,by rw [cnt_yes (by assumption) (by assumption)];go_num,hbel2.alloc hbel2.size _⟩
        | exact ⟨q+1,by omega,by go_num,by rw [cnt_no2 (by assumption)];go_num,hbel2.alloc hbel2.size _⟩
        | exact ⟨q+1,by omega,by go_num,by rw [cnt_no1 (by assumption)];go_num,hbel2.alloc hbel2.size _⟩
      case measure=>simp [intOf];omega
    ·obtain rfl:q=(J k).ne:=by omega
     go_wp2_with fail
     go_roundw
     case rel=>exact ⟨k+1,by omega,by go_num,by rw [HCS.out],hbel.trans (hbel2.mono zs)⟩
     case measure=>simp [intOf];omega
  ·obtain rfl:k=m:=by omega
   go_wp2_with fail
   go_ret
   exact ⟨rfl,hB⟩
def allE (n:Nat)(E:Nat→En):Nat→Bool
 | 0=>true
 | k+1=>allE n E k && endB n (E k)
theorem allE_true {n:Nat}{E:Nat→En}{k:Nat}(h:∀ q,q<k→endB n (E q)=true):allE n E k=true:=by
 induction k with
 | zero=>rfl
 | succ k ih=>simp [allE,ih (fun q hq=>h q (by omega)),h k (by omega)]
theorem allE_false {n:Nat}{E:Nat→En}{k q:Nat}(hq:q<k)(h:endB n (E q)=false):allE n E k=false:=by
 induction k with
 | zero=>omega
 | succ k ih=>
  by_cases e:q=k
  ·subst e;simp [allE,h]
  ·simp [allE,ih (by omega)]
def dupN (N:Nat→ByteArray)(s:ByteArray):Nat→Bool
 | 0=>false
 | k+1=>dupN N s k || ((N k).toList == s.toList)
theorem dupN_true {N:Nat→ByteArray}{s:ByteArray}{k q:Nat}(hq:q<k)(h:((N q).toList == s.toList)=true):dupN N s k=true:=by
 induction k with
 | zero=>omega
 | succ k ih=>
  by_cases e:q=k
  ·subst e;simp [dupN,h]
  ·simp [dupN,ih (by omega)]
theorem dupN_false {N:Nat→ByteArray}{s:ByteArray}{k:Nat}(h:∀ q,q<k→((N q).toList == s.toList)=false):dupN N s k=false:=by
 induction k with
 | zero=>rfl
 | succ k ih=>simp [dupN,ih (fun q hq=>h q (by omega)),h k (by omega)]
def firstB (p:Nat→Bool):Nat→Option Nat
 | 0=>none
 | k+1=>match firstB p k with
  | some i=>some i
  | none=>if p k then some k else none
theorem firstB_none {p:Nat→Bool}{n:Nat}(h:∀ q,q<n→p q=false):firstB p n=none:=by
 induction n with
 | zero=>rfl
 | succ n ih=>simp [firstB,ih (fun q hq=>h q (by omega)),h n (by omega)]
theorem firstB_hit {p:Nat→Bool}{n k:Nat}(h:∀ q,q<k→p q=false)(hk:k<n)(hp:p k=true):firstB p n=some k:=by
 induction n with
 | zero=>omega
 | succ n ih=>
  by_cases e:k=n
  ·subst e;simp [firstB,firstB_none h,hp]
  ·simp [firstB,ih (by omega)]
def endsBad (n:Nat)(j:Jt):Bool:=!(inB j.kd 1 4) || !(decide ((j.ne:Int)=j.kd)) || !(allE n j.E j.ne)
def nameBad (J:Nat→Jt)(i:Nat):Bool:=if (J i).kd<3 then !(J i).nm.toList.isEmpty else !(nameB (J i).nm) || dupN (fun k=>(J k).nm) (J i).nm i
def pieceBad (P:Nat→Pc)(i:Nat):Bool:=!(nameB (P i).nm) || !(inB (P i).ln 1 10000000) || !(inB (P i).sp 1 10000) || !(inB (P i).br 1 1000) || dupN (fun k=>(P k).nm) (P i).nm i
def looseBad (J:Nat→Jt)(m p:Nat):Bool:=!(decide (cntJ J ⟨p,0⟩ m=1)) || !(decide (cntJ J ⟨p,1⟩ m=1))
def jcode (n:Nat)(J:Nat→Jt)(i:Nat):Int:=if endsBad n (J i) then 3 else if nameBad J i then 4 else 0
def stage5 (n m:Nat)(J:Nat→Jt):Int × Int:=match firstB (looseBad J m) n with
 | some p=>(5,p)
 | none=>(0,0)
def stage4 (n m:Nat)(J:Nat→Jt):Int × Int:=match firstB (nameBad J) m with
 | some j=>(4,j)
 | none=>stage5 n m J
def stage3 (n m:Nat)(J:Nat→Jt):Int × Int:=match firstB (fun j=>endsBad n (J j)) m with
 | some j=>(3,j)
 | none=>stage4 n m J
def stage2 (n:Nat)(P:Nat→Pc)(m:Nat)(J:Nat→Jt):Int × Int:=match firstB (pieceBad P) n with
 | some p=>(2,p)
 | none=>stage3 n m J
def netF (n:Nat)(P:Nat→Pc)(m:Nat)(J:Nat→Jt):Int × Int:=if n=0∨100<n∨120<m then (1,0) else stage2 n P m J
end Go.Proofs.YtkhaehpobpkkiaaGreat
