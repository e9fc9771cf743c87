import Derived.Deep.QuietTactic
import Derived.Test.YtkhaehpobpkkiaaGreatMd
namespace Go.Proofs.YtkhaehpobpkkiaaGreat
open Go.RowKit
def sgBad (n:Nat)(P:Nat→Pc)(s:Pc):Bool:=!(nameB s.nm) || !(inB s.ln 0 ((n:Int)-1)) || !(s.br == 1 || s.br == -1) || !(inB s.sp 1 ((P s.ln.toNat).ln-1))
def sameB (a s:Pc):Bool:=(a.nm.toList == s.nm.toList) || (a.ln == s.ln && a.sp == s.sp && a.br == s.br)
def clashB (S:Nat→Pc)(s:Pc):Nat→Bool
 | 0=>false
 | k+1=>clashB S s k || sameB (S k) s
theorem clashB_true {S:Nat→Pc}{s:Pc}{k q:Nat}(hq:q<k)(h:sameB (S q) s=true):clashB S s k=true:=by
 induction k with
 | zero=>omega
 | succ k ih=>
  by_cases e:q=k
  ·subst e;simp [clashB,h]
  ·simp [clashB,ih (by omega)]
theorem clashB_false {S:Nat→Pc}{s:Pc}{k:Nat}(h:∀ q,q<k→sameB (S q) s=false):clashB S s k=false:=by
 induction k with
 | zero=>rfl
 | succ k ih=>simp [clashB,ih (fun q hq=>h q (by omega)),h k (by omega)]
theorem same5 (a s:Pc):((a.nm.toList == s.nm.toList)=true∧sameB a s=true)∨((a.nm.toList == s.nm.toList)=false∧(a.ln == s.ln)=false∧sameB a s=false) ∨
 ((a.nm.toList == s.nm.toList)=false∧(a.ln == s.ln)=true∧(a.sp == s.sp)=false∧sameB a s=false) ∨
 ((a.nm.toList == s.nm.toList)=false∧(a.ln == s.ln)=true∧(a.sp == s.sp)=true∧(a.br == s.br)=false∧sameB a s=false) ∨
 ((a.nm.toList == s.nm.toList)=false∧(a.ln == s.ln)=true∧(a.sp == s.sp)=true∧(a.br == s.br)=true∧sameB a s=true):=by
 unfold sameB
 cases h1:(a.nm.toList == s.nm.toList) <;> cases h2:(a.ln == s.ln) <;> cases h3:(a.sp == s.sp) <;> cases h4:(a.br == s.br) <;> simp
def sig4 (k:Nat)(S:Nat→Pc):Int × Int:=match firstB (fun i=>clashB S (S i) i) k with
 | some i=>(4,i)
 | none=>(0,0)
def sig3 (n:Nat)(P:Nat→Pc)(k:Nat)(S:Nat→Pc):Int × Int:=match firstB (fun i=>sgBad n P (S i)) k with
 | some i=>(3,i)
 | none=>sig4 k S
def sigF (n:Nat)(P:Nat→Pc)(m:Nat)(J:Nat→Jt)(k:Nat)(S:Nat→Pc):Int × Int:=if (netF n P m J).1=0 then (if 60<k then (2,0) else sig3 n P k S) else (1,0)
theorem sig3_hit {n:Nat}{P:Nat→Pc}{k:Nat}{S:Nat→Pc}{i:Nat}(hi:i<k)(ha:∀ q,q<i→sgBad n P (S q)=false)(hp:sgBad n P (S i)=true):sig3 n P k S=(3,(i:Int)):=by
 rw [sig3,firstB_hit (p:=fun i=>sgBad n P (S i)) ha hi hp]
theorem sig3_none {n:Nat}{P:Nat→Pc}{k:Nat}{S:Nat→Pc}(ha:∀ q,q<k→sgBad n P (S q)=false):sig3 n P k S=sig4 k S:=by
 rw [sig3,firstB_none (p:=fun i=>sgBad n P (S i)) ha]
theorem sig4_hit {k:Nat}{S:Nat→Pc}{i:Nat}(hi:i<k)(ha:∀ q,q<i→clashB S (S q) q=false)(hp:clashB S (S i) i=true):sig4 k S=(4,(i:Int)):=by
 rw [sig4,firstB_hit (p:=fun i=>clashB S (S i) i) ha hi hp]
theorem sig4_none {k:Nat}{S:Nat→Pc}(ha:∀ q,q<k→clashB S (S q) q=false):sig4 k S=(0,0):=by
 rw [sig4,firstB_none (p:=fun i=>clashB S (S i) i) ha]
theorem firstB_some {p:Nat→Bool}{n k:Nat}(h:firstB p n=none)(hk:k<n):p k=false:=by
 induction n with
 | zero=>omega
 | succ n ih=>
  simp only [firstB] at h
  cases h1:firstB p n with
  | some i=>rw [h1] at h;simp at h
  | none=>
   rw [h1] at h
   by_cases e:k=n
   ·subst e
    cases hp:p k with
    | false=>rfl
    | true=>simp [hp] at h
   ·exact ih h1 (by omega)
theorem netF_zero {n:Nat}{P:Nat→Pc}{m:Nat}{J:Nat→Jt}(h:(netF n P m J).1=0):netF n P m J=(0,0)∧∀ i,i<n→1≤(P i).ln∧(P i).ln≤10000000:=by
 unfold netF at h ⊢
 by_cases h0:n=0∨100<n∨120<m
 ·rw [if_pos h0] at h;simp at h
 ·rw [if_neg h0] at h ⊢
  unfold stage2 at h ⊢
  cases h2:firstB (pieceBad P) n with
  | some i=>rw [h2] at h;simp at h
  | none=>
   rw [h2] at h
   simp only at h ⊢
   refine ⟨?_,fun i hi=>?_⟩
   ·unfold stage3 at h ⊢
    cases h3:firstB (fun j=>endsBad n (J j)) m with
    | some i=>rw [h3] at h;simp at h
    | none=>
     rw [h3] at h
     simp only at h ⊢
     unfold stage4 at h ⊢
     cases h4:firstB (nameBad J) m with
     | some i=>rw [h4] at h;simp at h
     | none=>
      rw [h4] at h
      simp only at h ⊢
      unfold stage5 at h ⊢
      cases h5:firstB (looseBad J m) n with
      | some i=>rw [h5] at h;simp at h
      | none=>rfl
   ·have:=firstB_some h2 hi
    simp only [pieceBad,Bool.or_eq_false_iff,Bool.not_eq_eq_eq_not,Bool.not_false,inB,Bool.and_eq_true,decide_eq_true_eq] at this
    exact this.1.1.1.2
set_option maxHeartbeats 2000000 in
theorem l11before32 (a:Option Addr)(n cap:Nat)(S:Nat→Pc)(p:Nat)(w:World)(hn:n≤1048576)(hp:p<n)(hS:PsAt 0 w a n S):
 Calls Tryz.prog 86 #[.slice a n cap,.int .i64 p] w fun e w'=>e=.returned (.bool (clashB S (S p) p))∧Below w.heap.size w w':=by
 obtain ⟨b,off,rfl,_,hb,hc0⟩:=hS (by omega)
 have Hc:Hid (∀ i,i<n→w.cell? ⟨b,off+i*4,none⟩=some (.string (S i).nm)∧w.cell? ⟨b,off+i*4+1,none⟩=some (.int .i64 (S i).ln)∧
  w.cell? ⟨b,off+i*4+2,none⟩=some (.int .i64 (S i).sp)∧w.cell? ⟨b,off+i*4+3,none⟩=some (.int .i64 (S i).br)):=hc0
 clear hc0 hS
 go_enter Tryz.func86,Tryz.ntmps86
 go_wp2_with fail
 go_loopw [5] (fun i wr=>∃ q:Nat,q≤p∧i=.int .i64 q∧Hid (∀ j,j<q→sameB (S j) (S p)=false)∧Below w.heap.size w wr) (fun i _=>p-(intOf i).toNat)
 case atStart=>exact ⟨0,Nat.zero_le _,rfl,fun j hj=>absurd hj (Nat.not_lt_zero _),Below.refl _ _⟩
 case round=>
  obtain ⟨q,hq,rfl,hall,hB⟩:=hrel
  by_cases hlq:q<p
  ·obtain ⟨c0',c1',c2',c3'⟩:=Hc.out p hp
   have c0:=(hB.cell (p:=⟨b,off+p*4,none⟩) hb).trans c0'
   have c1:=(hB.cell (p:=⟨b,off+p*4+1,none⟩) hb).trans c1'
   have c2:=(hB.cell (p:=⟨b,off+p*4+2,none⟩) hb).trans c2'
   have c3:=(hB.cell (p:=⟨b,off+p*4+3,none⟩) hb).trans c3'
   obtain ⟨d0',d1',d2',d3'⟩:=Hc.out q (by omega)
   have d0:=(hB.cell (p:=⟨b,off+q*4,none⟩) hb).trans d0'
   have d1:=(hB.cell (p:=⟨b,off+q*4+1,none⟩) hb).trans d1'
   have d2:=(hB.cell (p:=⟨b,off+q*4+2,none⟩) hb).trans d2'
   have d3:=(hB.cell (p:=⟨b,off+q*4+3,none⟩) hb).trans d3'
   have hbw:b<wr.heap.size:=ltl hb hB.size
   clear c0' c1' c2' c3' d0' d1' d2' d3'
   have HT:Hid (sameB (S q) (S p)=true→clashB S (S p) p=true):=fun h=>clashB_true hlq h
   have HF:Hid (sameB (S q) (S p)=false→∀ j,j<q+1→sameB (S j) (S p)=false):=fun h=>snoc_all (p:=fun j=>sameB (S j) (S p)) hall.out h
   clear hall
   have hB2:=(hB.alloc hB.size (.cells #[.string (S q).nm,.int .i64 (S q).ln,.int .i64 (S q).sp,.int .i64 (S q).br] 56))
   rcases same5 (S q) (S p) with ⟨e1,e⟩ | ⟨e1,e2,e⟩ | ⟨e1,e2,e3,e⟩ | ⟨e1,e2,e3,e4,e⟩ | ⟨e1,e2,e3,e4,e⟩
   ·have Hv:=HT.out e
    have HV:Hid (clashB S (S p) p=true):=Hv
    clear Hv e
    go_wp2_with fail
    go_ret
    exact ⟨by rw [HV.out] <;> rfl,hB2.alloc hB2.size _⟩
   ·have HV:Hid (∀ j,j<q+1→sameB (S j) (S p)=false):=HF.out e
    clear e
    go_wp2_with fail
    go_roundw
    case rel=>exact ⟨q+1,by omega,by go_num,HV,hB2.alloc hB2.size _⟩
    case measure=>simp [intOf];omega
   ·have HV:Hid (∀ j,j<q+1→sameB (S j) (S p)=false):=HF.out e
    clear e
    go_wp2_with fail
    go_roundw
    case rel=>exact ⟨q+1,by omega,by go_num,HV,hB2.alloc hB2.size _⟩
    case measure=>simp [intOf];omega
   ·have HV:Hid (∀ j,j<q+1→sameB (S j) (S p)=false):=HF.out e
    clear e
    go_wp2_with fail
    go_roundw
    case rel=>exact ⟨q+1,by omega,by go_num,HV,hB2.alloc hB2.size _⟩
    case measure=>simp [intOf];omega
   ·have HV:Hid (clashB S (S p) p=true):=HT.out e
    clear e
    go_wp2_with fail
    go_ret
    exact ⟨by rw [HV.out] <;> rfl,hB2.alloc hB2.size _⟩
  ·obtain rfl:q=p:=by omega
   have HV:Hid (clashB S (S q) q=false):=clashB_false hall.out
   clear hall
   go_wp2_with fail
   go_ret
   exact ⟨by rw [HV.out] <;> rfl,hB⟩
set_option maxHeartbeats 2000000 in
theorem clashes35 (a:Option Addr)(k cap:Nat)(S:Nat→Pc)(s:Pc)(w:World)(hn:k≤1048576)(hS:PsAt 0 w a k S):
 Calls Tryz.prog 65 #[.slice a k cap,.agg #[.string s.nm,.int .i64 s.ln,.int .i64 s.sp,.int .i64 s.br]] w fun e w'=>e=.returned (.bool (clashB S s k))∧Below w.heap.size w w':=by
 go_enter Tryz.func65,Tryz.ntmps65
 go_wp2_with fail
 go_loopw [9] (fun i wr=>∃ q:Nat,q≤k∧i=.int .i64 q∧Hid (∀ j,j<q→sameB (S j) s=false)∧Below (w.heap.size+1) (w.alloc (.cells #[.string s.nm,.int .i64 s.ln,.int .i64 s.sp,.int .i64 s.br] 56)) wr) (fun i _=>k-(intOf i).toNat)
 case atStart=>exact ⟨0,Nat.zero_le _,rfl,fun j hj=>absurd hj (Nat.not_lt_zero _),Below.refl _ _⟩
 case round=>
  obtain ⟨q,hq,rfl,hall,hbel⟩:=hrel
  have hB:Below w.heap.size w wr:=(bel1 w _).trans (hbel.mono (by omega))
  by_cases hlq:q<k
  ·obtain ⟨b,off,rfl,_,hb,hc⟩:=(hS.mono lr hB lr) (by omega)
   obtain ⟨d0,d1,d2,d3⟩:=hc q hlq
   have zz:w.heap.size<wr.heap.size:=by have:=hbel.size;simp at this;omega
   have c0:wr.cell? ⟨w.heap.size,0,none⟩=some (.string s.nm):=by rw [hbel.cell (by show w.heap.size < _;omega),World.cell?_alloc_at _ _ _ _ (by simp)];rfl
   have c1:wr.cell? ⟨w.heap.size,1,none⟩=some (.int .i64 s.ln):=by rw [hbel.cell (by show w.heap.size < _;omega),World.cell?_alloc_at _ _ _ _ (by simp)];rfl
   have c2:wr.cell? ⟨w.heap.size,2,none⟩=some (.int .i64 s.sp):=by rw [hbel.cell (by show w.heap.size < _;omega),World.cell?_alloc_at _ _ _ _ (by simp)];rfl
   have c3:wr.cell? ⟨w.heap.size,3,none⟩=some (.int .i64 s.br):=by rw [hbel.cell (by show w.heap.size < _;omega),World.cell?_alloc_at _ _ _ _ (by simp)];rfl
   clear hc
   have HT:Hid (sameB (S q) s=true→clashB S s k=true):=fun h=>clashB_true hlq h
   have HF:Hid (sameB (S q) s=false→∀ j,j<q+1→sameB (S j) s=false):=fun h=>snoc_all (p:=fun j=>sameB (S j) s) hall.out h
   clear hall
   rcases same5 (S q) s with ⟨e1,e⟩ | ⟨e1,e2,e⟩ | ⟨e1,e2,e3,e⟩ | ⟨e1,e2,e3,e4,e⟩ | ⟨e1,e2,e3,e4,e⟩
   ·have HV:Hid (clashB S s k=true):=HT.out e
    clear e
    go_wp2_with fail
    go_ret
    exact ⟨by rw [HV.out] <;> rfl,hB.alloc hB.size _⟩
   ·have HV:Hid (∀ j,j<q+1→sameB (S j) s=false):=HF.out e
    clear e
    go_wp2_with fail
    go_roundw
    case rel=>exact ⟨q+1,by omega,by go_num,HV,hbel.alloc (by omega) _⟩
    case measure=>simp [intOf];omega
   ·have HV:Hid (∀ j,j<q+1→sameB (S j) s=false):=HF.out e
    clear e
    go_wp2_with fail
    go_roundw
    case rel=>exact ⟨q+1,by omega,by go_num,HV,hbel.alloc (by omega) _⟩
    case measure=>simp [intOf];omega
   ·have HV:Hid (∀ j,j<q+1→sameB (S j) s=false):=HF.out e
    clear e
    go_wp2_with fail
    go_roundw
    case rel=>exact ⟨q+1,by omega,by go_num,HV,hbel.alloc (by omega) _⟩
    case measure=>simp [intOf];omega
   ·have HV:Hid (clashB S s k=true):=HT.out e
    clear e
    go_wp2_with fail
    go_ret
    exact ⟨by rw [HV.out] <;> rfl,hB.alloc hB.size _⟩
  ·obtain rfl:q=k:=by omega
   have HV:Hid (clashB S s q=false):=clashB_false hall.out
   clear hall
   go_wp2_with fail
   go_ret
   exact ⟨by rw [HV.out] <;> rfl,hB⟩
theorem sg_bad1 {n:Nat}{P:Nat→Pc}{s:Pc}(h:nameB s.nm=false):sgBad n P s=true:=by simp [sgBad,h]
theorem sg_bad2 {n:Nat}{P:Nat→Pc}{s:Pc}(h:inB s.ln 0 ((n:Int)-1)=false):sgBad n P s=true:=by simp [sgBad,h]
theorem sg_bad3 {n:Nat}{P:Nat→Pc}{s:Pc}(h:(s.br != 1)=true)(h':(s.br != -1)=true):sgBad n P s=true:=by
 simp only [bne_iff_ne,ne_eq] at h h'
 simp [sgBad,h,h']
theorem sg_last {n:Nat}{P:Nat→Pc}{s:Pc}(h1:nameB s.nm=true)(h2:inB s.ln 0 ((n:Int)-1)=true)(h3:s.br=1∨s.br=-1):sgBad n P s=!(inB s.sp 1 ((P s.ln.toNat).ln-1)):=by
 have h4:(s.br == 1 || s.br == -1)=true:=by simpa using h3
 simp [sgBad,h1,h2,h4]
set_option maxHeartbeats 2000000 in
theorem signalOk34 (pa:Option Addr)(n pc:Nat)(P:Nat→Pc)(ja:Option Addr)(m jc:Nat)(s:Pc)(w:World)(hn:n≤1048576)(hP:PsAt 0 w pa n P)(hs:s.nm.size≤maxLen)(hln:∀ i,i<n→1≤(P i).ln∧(P i).ln≤10000000):
 Calls Tryz.prog 64 #[.agg #[.slice pa n pc,.slice ja m jc],.agg #[.string s.nm,.int .i64 s.ln,.int .i64 s.sp,.int .i64 s.br]] w fun e w'=>e=.returned (.bool (!sgBad n P s))∧Below w.heap.size w w':=by
 have Hln:Hid (∀ i,i<n→1≤(P i).ln∧(P i).ln≤10000000):=hln
 clear hln
 cases n1:nameB s.nm
 ·have Hv:Hid (sgBad n P s=true):=sg_bad1 n1
  go_enter Tryz.func64,Tryz.ntmps64
  go_wp2_with (first | (go_at_call 93;refine (nameOk42 _ _ hs).mono ?_;rintro e w1 ⟨rfl,rfl⟩) | (go_at_call 28;refine (within43 _ _ _ _).mono ?_;rintro e w1 ⟨rfl,rfl⟩))
  go_ret
  exact ⟨by rw [Hv.out] <;> rfl,bel2 _ _ _⟩
 ·cases i1:inB s.ln 0 ((n:Int)-1)
  ·have Hv:Hid (sgBad n P s=true):=sg_bad2 i1
   go_enter Tryz.func64,Tryz.ntmps64
   go_wp2_with (first | (go_at_call 93;refine (nameOk42 _ _ hs).mono ?_;rintro e w1 ⟨rfl,rfl⟩) | (go_at_call 28;refine (within43 _ _ _ _).mono ?_;rintro e w1 ⟨rfl,rfl⟩))
   go_ret
   exact ⟨by rw [Hv.out] <;> rfl,bel2 _ _ _⟩
  ·have hrange:0≤s.ln∧s.ln≤(n:Int)-1:=by simpa [inB] using i1
   obtain ⟨p,hp⟩:∃ p:Nat,s.ln=(p:Int):=⟨s.ln.toNat,by omega⟩
   have hpn:p<n:=by omega
   have hp0:(0:Int)≤(p:Int):=by omega
   have hp1:(p:Int)<(n:Int):=by omega
   obtain ⟨b,off,rfl,_,hb,hc⟩:=hP (by omega)
   have c1:=(hc p hpn).2.1
   obtain ⟨hl1,hl2⟩:=Hln.out p hpn
   have htn:s.ln.toNat=p:=by omega
   clear hc
   cases w1:(s.br != 1)
   ·have h3:s.br=1∨s.br=-1:=Or.inl (by simpa using w1)
    have Hv:Hid (sgBad n P s=!(inB s.sp 1 ((P p).ln-1))):=by
     show sgBad n P s=_
     rw [sg_last n1 i1 h3,htn]
    clear hrange h3
    obtain ⟨snm,sln,ssp,sbr⟩:=s
    simp only at hp w1 n1 i1 Hv hs ⊢
    subst hp
    clear htn
    go_enter Tryz.func64,Tryz.ntmps64
    go_wp2_with (first | (go_at_call 93;refine (nameOk42 _ _ hs).mono ?_;rintro e w1 ⟨rfl,rfl⟩) | (go_at_call 28;refine (within43 _ _ _ _).mono ?_;rintro e w1 ⟨rfl,rfl⟩))
    go_quiet ((go_at_call 28;exact Calls.quiet_of_same (within43 _ _ _ _)))
    go_wp2_with fail
    go_ret
    exact ⟨by rw [Hv.out];simp,below_drewN (bel2 _ _ _) _⟩
   ·cases w2:(s.br != -1)
    ·have h3:s.br=1∨s.br=-1:=Or.inr (by simpa using w2)
     have Hv:Hid (sgBad n P s=!(inB s.sp 1 ((P p).ln-1))):=by
      show sgBad n P s=_
      rw [sg_last n1 i1 h3,htn]
     clear hrange h3
     obtain ⟨snm,sln,ssp,sbr⟩:=s
     simp only at hp w1 w2 n1 i1 Hv hs ⊢
     subst hp
     clear htn
     go_enter Tryz.func64,Tryz.ntmps64
     go_wp2_with (first | (go_at_call 93;refine (nameOk42 _ _ hs).mono ?_;rintro e w1 ⟨rfl,rfl⟩) | (go_at_call 28;refine (within43 _ _ _ _).mono ?_;rintro e w1 ⟨rfl,rfl⟩))
     go_quiet ((go_at_call 28;exact Calls.quiet_of_same (within43 _ _ _ _)))
     go_wp2_with fail
     go_ret
     exact ⟨by rw [Hv.out];simp,below_drewN (bel2 _ _ _) _⟩
    ·have Hv:Hid (sgBad n P s=true):=sg_bad3 w1 w2
     clear hp hpn hp0 hp1 c1 hl1 hl2 htn hrange
     go_enter Tryz.func64,Tryz.ntmps64
     go_wp2_with (first | (go_at_call 93;refine (nameOk42 _ _ hs).mono ?_;rintro e w1 ⟨rfl,rfl⟩) | (go_at_call 28;refine (within43 _ _ _ _).mono ?_;rintro e w1 ⟨rfl,rfl⟩))
     go_ret
     exact ⟨by rw [Hv.out] <;> rfl,bel2 _ _ _⟩
end Go.Proofs.YtkhaehpobpkkiaaGreat
