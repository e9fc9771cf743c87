import Derived.Deep.OwnRows
import Derived.Deep.RegionWith
import Derived.Test.YtkhaehpobpkkiaaGreatBa
namespace Go.Proofs.YtkhaehpobpkkiaaGreat
open Go.RowKit
set_option maxHeartbeats 400000 in
theorem szPieceS16 (a:Option Addr)(n cap:Nat)(P:Nat→Pc)(left:Int)(w:World)(hn:n≤maxLen)(h0:0≤left)(h1:left≤1048576)
 (hP:PsAt 0 w a n P) (hs:∀ i,i<n→(P i).nm.size≤maxLen):
 Calls Tryz.prog 17 #[.slice a n cap,.int .i64 left] w fun e w'=>
  ∃ r:Int,e=.returned (.int .i64 r)∧r≤left∧(0≤r→(n:Int)≤left)∧Below w.heap.size w w':=by
 unfold maxLen at hn
 by_cases h:left<(n:Int)
 ·go_enter Tryz.func17,Tryz.ntmps17
  go_wp2
  go_ret
  exact ⟨-1,rfl,by omega,by omega,Below.refl _ _⟩
 ·go_enter Tryz.func17,Tryz.ntmps17
  go_wp2_with fail
  go_loopw [1,5] (fun l i wr=>∃ (k:Nat) (lv:Int),k≤n∧i=.int .i64 k∧l=.int .i64 lv∧0≤lv∧lv≤left∧Below w.heap.size w wr)
   (fun _ i _=>n-(intOf i).toNat)
  case atStart=>exact ⟨0,left-n,Nat.zero_le _,rfl,rfl,by omega,by omega,Below.refl _ _⟩
  case round=>
   obtain ⟨k,lv,hk,rfl,rfl,hl0,hl1,hbel⟩:=hrel
   by_cases hlt:k<n
   ·obtain ⟨b,off,rfl,_,hb,hc⟩:=(hP.mono lr hbel lr) (by omega)
    obtain ⟨c0,c1,c2,c3⟩:=hc k hlt
    have hsz:=hs k hlt
    clear hc
    go_wp2_with fail
    refine (szPiece37 (P k).nm _ _ _ lv _ hsz hl0 (by omega)).mono ?_
    rintro e w1 ⟨rfl,hb1⟩
    have hb2:Below w.heap.size w w1:=hbel.trans (hb1.mono hbel.size)
    by_cases hneg:szL lv (P k).nm.size<0
    ·go_wp2
     go_ret
     exact ⟨-1,rfl,by omega,by omega,hb2⟩
    ·have hle:szL lv (P k).nm.size≤lv:=by unfold szL;split <;> omega
     generalize szL lv (P k).nm.size=l2 at *
     go_wp2
     go_roundw
     case rel=>exact ⟨k+1,l2,by omega,by go_num,rfl,by omega,by omega,hb2⟩
     case measure=>simp [intOf];omega
   ·go_wp2
    go_ret
    exact ⟨lv,rfl,by omega,by omega,hbel⟩
set_option maxHeartbeats 400000 in
theorem szJoint38 (kd:Int)(nm:ByteArray)(ea:Option Addr)(ne ec:Nat)(left:Int)(w:World)(hs:nm.size≤maxLen)(hn:ne≤maxLen)(h0:0≤left)(h1:left≤1048576):
 Calls Tryz.prog 50 #[.agg #[.int .i64 kd,.string nm,.slice ea ne ec],.int .i64 left] w fun e w'=>
  ∃ r:Int,e=.returned (.int .i64 r)∧r≤left∧(0≤r→(ne:Int)≤left)∧Below w.heap.size w w':=by
 unfold maxLen at hs
 by_cases h:left<(nm.size:Int)
 ·go_enter Tryz.func50,Tryz.ntmps50
  go_wp2
  go_ret
  exact ⟨-1,rfl,by omega,by omega,bel1 _ _⟩
 ·go_enter Tryz.func50,Tryz.ntmps50
  go_wp2_with fail
  refine (szEndS48 ea ne ec (left-nm.size) _ hn (by omega) (by omega)).mono ?_
  rintro e w1 ⟨rfl,rfl⟩
  by_cases hneg:szL (left-nm.size) ne<0
  ·go_wp2
   go_ret
   exact ⟨-1,rfl,by omega,by omega,bel1 _ _⟩
  ·have hle:szL (left-nm.size) ne≤left-nm.size∧(ne:Int)≤left:=by unfold szL at hneg ⊢;split at hneg <;> (first | omega | (rw [if_neg (by assumption)];omega))
   generalize szL (left-nm.size) ne=l2 at *
   go_wp2
   go_ret
   exact ⟨l2,rfl,by omega,fun _=>hle.2,bel1 _ _⟩
set_option maxHeartbeats 400000 in
theorem szJointS17 (a:Option Addr)(n cap:Nat)(J:Nat→Jt)(left:Int)(w:World)(hn:n≤maxLen)(h0:0≤left)(h1:left≤1048576)
 (hJ:JsAt 0 w a n J) (hs:∀ i,i<n→(J i).nm.size≤maxLen∧(J i).ne≤maxLen):
 Calls Tryz.prog 18 #[.slice a n cap,.int .i64 left] w fun e w'=>
  ∃ r:Int,e=.returned (.int .i64 r)∧r≤left∧(0≤r→(n:Int)≤left∧∀ i,i<n→((J i).ne:Int)≤left)∧Below w.heap.size w w':=by
 unfold maxLen at hn
 by_cases h:left<(n:Int)
 ·go_enter Tryz.func18,Tryz.ntmps18
  go_wp2
  go_ret
  exact ⟨-1,rfl,by omega,by omega,Below.refl _ _⟩
 ·go_enter Tryz.func18,Tryz.ntmps18
  go_wp2_with fail
  go_loopw [1,5] (fun l i wr=>∃ (k:Nat) (lv:Int),k≤n∧i=.int .i64 k∧l=.int .i64 lv∧0≤lv∧lv≤left∧(∀ i,i<k→((J i).ne:Int)≤left)∧Below w.heap.size w wr)
   (fun _ i _=>n-(intOf i).toNat)
  case atStart=>exact ⟨0,left-n,Nat.zero_le _,rfl,rfl,by omega,by omega,fun i hi=>absurd hi (Nat.not_lt_zero _),Below.refl _ _⟩
  case round=>
   obtain ⟨k,lv,hk,rfl,rfl,hl0,hl1,hall,hbel⟩:=hrel
   have Hall:Hid (∀ i,i<k→((J i).ne:Int)≤left):=hall
   clear hall
   by_cases hlt:k<n
   ·obtain ⟨b,off,rfl,_,hb,hc⟩:=(hJ.mono lr hbel lr) (by omega)
    obtain ⟨ea,ec,c0,c1,c2,_⟩:=hc k hlt
    obtain ⟨hsz,hnz⟩:=hs k hlt
    clear hc
    go_wp2_with fail
    refine (szJoint38 (J k).kd (J k).nm ea (J k).ne ec lv _ hsz hnz hl0 (by omega)).mono ?_
    rintro e w1 ⟨r,rfl,hr1,hr2,hb1⟩
    have hb2:Below w.heap.size w w1:=hbel.trans (hb1.mono hbel.size)
    by_cases hneg:r<0
    ·go_wp2
     go_ret
     exact ⟨-1,rfl,by omega,by omega,hb2⟩
    ·have hr3:=hr2 (by omega)
     have Hr:Hid (∀ i,i<k+1→((J i).ne:Int)≤left):=by
      intro i hi
      by_cases e:i=k
      ·subst e;omega
      ·exact Hall.out i (by omega)
     clear hr2 Hall
     go_wp2
     go_roundw
     case rel=>exact ⟨k+1,r,by omega,by go_num,rfl,by omega,by omega,Hr.out,hb2⟩
     case measure=>simp [intOf];omega
   ·obtain rfl:k=n:=by omega
    go_wp2
    go_ret
    exact ⟨lv,rfl,by omega,fun _=>⟨by omega,Hall.out⟩,hbel⟩
set_option maxHeartbeats 400000 in
theorem szNet5 (pa:Option Addr)(n pc:Nat)(P:Nat→Pc)(ja:Option Addr)(m jc:Nat)(J:Nat→Jt)(left:Int)(w:World)(hn:n≤maxLen)(hm:m≤maxLen)(h0:0≤left)(h1:left≤1048576)
 (hP:PsAt 0 w pa n P) (hJ:JsAt 0 w ja m J) (hps:∀ i,i<n→(P i).nm.size≤maxLen) (hjs:∀ i,i<m→(J i).nm.size≤maxLen∧(J i).ne≤maxLen):
 Calls Tryz.prog 4 #[.agg #[.slice pa n pc,.slice ja m jc],.int .i64 left] w fun e w'=>
  ∃ r:Int,e=.returned (.int .i64 r)∧r≤left∧(0≤r→(n:Int)≤left∧(m:Int)≤left∧∀ i,i<m→((J i).ne:Int)≤left)∧Below w.heap.size w w':=by
 have Hjs:Hid (∀ i,i<m→(J i).nm.size≤maxLen∧(J i).ne≤maxLen):=hjs
 have Hps:Hid (∀ i,i<n→(P i).nm.size≤maxLen):=hps
 clear hjs hps
 go_enter Tryz.func4,Tryz.ntmps4
 go_wp2_with fail
 refine (szPieceS16 pa n pc P left _ hn h0 h1 (hP.mono lr (bel1 w _) lr) Hps.out).mono ?_
 rintro e w1 ⟨r,rfl,hr1,hr2,hb1⟩
 have hB:Below w.heap.size w w1:=(bel1 w _).trans (hb1.mono (by simp))
 obtain ⟨hc,hf⟩:=bcell hb1
 by_cases hneg:r<0
 ·clear hr2
  go_wp2
  go_ret
  exact ⟨-1,rfl,by omega,by omega,hB⟩
 ·have hr3:=hr2 (by omega)
  clear hr2
  go_wp2_with fail
  refine (szJointS17 ja m jc J r _ hm (by omega) (by omega) (hJ.mono lr hB lr) Hjs.out).mono ?_
  rintro e w2 ⟨r2,rfl,hr4,hr5,hb2⟩
  have hB2:Below w.heap.size w w2:=hB.trans (hb2.mono hB.size)
  have Hr5:Hid (0≤r2→(m:Int)≤r∧∀ i,i<m→((J i).ne:Int)≤r):=hr5
  clear hr5 hc hf
  by_cases hneg2:r2<0
  ·go_wp2
   go_ret
   exact ⟨-1,rfl,by omega,by omega,hB2⟩
  ·go_wp2
   go_ret
   refine ⟨r2,rfl,by omega,fun h=>⟨by omega,?_,fun i hi=>?_⟩,hB2⟩
   ·have:=(Hr5.out h).1;omega
   ·have:=(Hr5.out h).2 i hi;omega
def mk0 (z:Value)(k:Nat):Array Value:=madeCells z.cells k
theorem make_rows {P:Program}(t e:TypeId)(z:Value)(bytes size:Nat)(ht:P.underlying t=some (.slice e))(hinfo:(P.info? e).map (fun i=>(i.zero,i.size,i.bytes))=some (some z,size,bytes))
 (n:Nat) (hbytes:bytes*n≤281474976710656) (h63:n≤9223372036854775807) (w:World):
 (Instr.makeSlice t (.int .i64 (n:Int)) (.int .i64 (n:Int))).run P w=.ok (.slice (some ⟨w.heap.size,0,none⟩) n n) (w.alloc (.cells (mk0 z (n*size)) e)):=by
 obtain ⟨i,hi,hzz⟩:=Option.map_eq_some_iff.1 hinfo
 simp only [Prod.mk.injEq] at hzz
 obtain ⟨hz,hs,hb⟩:=hzz
 have hb':(i.bytes:Int)*(n:Int)≤281474976710656:=by
  have h:((i.bytes*n:Nat):Int)≤281474976710656:=by rw [hb];omega
  rwa [Int.natCast_mul] at h
 have hr:=run_make (P:=P) w t e i z ht hi hz .i64 .i64 n n (by omega) (Int.le_refl _) hb' (by omega)
 simp only [Int.toNat_natCast,hs] at hr
 exact hr
theorem row_mk0 (w:World)(z:Value)(k:Nat)(e:TypeId):∃ f,(w.alloc (.cells (mk0 z k) e)).rowIs w.heap.size e k f:=by
 refine ⟨fun i=>(mk0 z k).getD i z,?_⟩
 have h:=World.rowIs_alloc w (mk0 z k) e (fun i=>(mk0 z k).getD i z) (fun i hi=>by simp [Array.getD,hi])
 have hs:(mk0 z k).size=k:=size_madeCells _ _
 rw [hs] at h
 exact h
theorem rowBel {w w':World}{b:Nat}{t:TypeId}{n:Nat}{f:Nat→Value}{B:Nat}(h:w.rowIs b t n f)(hb:Below B w w')(hB:b<B):w'.rowIs b t n f:=
 h.of_block (hb.block b hB)
theorem info48:(Tryz.prog.info? 108).map (fun i=>(i.zero,i.size,i.bytes))=some (some (.agg #[.string ⟨#[]⟩,.int .i64 0,.int .i64 0,.int .i64 0]),4,40):=by kernel_rfl
theorem info54:(Tryz.prog.info? 112).map (fun i=>(i.zero,i.size,i.bytes))=some (some (.agg #[.int .i64 0,.int .i64 0]),2,16):=by kernel_rfl
theorem info61:(Tryz.prog.info? 115).map (fun i=>(i.zero,i.size,i.bytes))=some (some (.agg #[.int .i64 0,.string ⟨#[]⟩,.slice none 0 0]),3,48):=by kernel_rfl
def PsTo (wr:World)(B n k:Nat)(P:Nat→Pc):Prop:=
 ∃ f,wr.rowIs B 108 (n*4) f∧∀ j,j<k→f (j*4)=.string (P j).nm∧f (j*4+1)=.int .i64 (P j).ln∧f (j*4+2)=.int .i64 (P j).sp∧f (j*4+3)=.int .i64 (P j).br
theorem PsTo.step {w:World}{B n k:Nat}{P:Nat→Pc}(h:PsTo w B n k P):
 PsTo ((((w.setCell ⟨B,k*4,none⟩ (.string (P k).nm)).setCell ⟨B,k*4+1,none⟩ (.int .i64 (P k).ln)).setCell ⟨B,k*4+2,none⟩ (.int .i64 (P k).sp)).setCell ⟨B,k*4+3,none⟩ (.int .i64 (P k).br)) B n (k+1) P:=by
 obtain ⟨f,hr,hf⟩:=h
 refine ⟨_,(((hr.set _ _).set _ _).set _ _).set _ _,fun j hj=>?_⟩
 by_cases e:j=k
 ·subst e
  simp
 ·have:=hf j (by omega)
  simp only [show ¬j*4=k*4 by omega,show ¬j*4=k*4+1 by omega,show ¬j*4=k*4+2 by omega,show ¬j*4=k*4+3 by omega,
   show ¬j*4+1=k*4 by omega,show ¬j*4+1=k*4+1 by omega,show ¬j*4+1=k*4+2 by omega,show ¬j*4+1=k*4+3 by omega,
   show ¬j*4+2=k*4 by omega,show ¬j*4+2=k*4+1 by omega,show ¬j*4+2=k*4+2 by omega,show ¬j*4+2=k*4+3 by omega,
   show ¬j*4+3=k*4 by omega,show ¬j*4+3=k*4+1 by omega,show ¬j*4+3=k*4+2 by omega,show ¬j*4+3=k*4+3 by omega,if_false]
  exact this
theorem PsTo.at {w:World}{B n:Nat}{P:Nat→Pc}(h:PsTo w B n n P):PsAt B w (some ⟨B,0,none⟩) n P:=by
 obtain ⟨f,hr,hf⟩:=h
 intro _
 refine ⟨B,0,rfl,Nat.le_refl _,hr.lt,fun i hi=>?_⟩
 obtain ⟨h1,h2,h3,h4⟩:=hf i hi
 rw [Nat.zero_add,← h1,← h2,← h3,← h4]
 exact ⟨hr.cell (by omega),hr.cell (by omega),hr.cell (by omega),hr.cell (by omega)⟩
def EsTo (wr:World)(B n k:Nat)(E:Nat→En):Prop:=
 ∃ f,wr.rowIs B 112 (n*2) f∧∀ j,j<k→f (j*2)=.int .i64 (E j).pc∧f (j*2+1)=.int .i64 (E j).sd
theorem EsTo.step {w:World}{B n k:Nat}{E:Nat→En}(h:EsTo w B n k E):
 EsTo ((w.setCell ⟨B,k*2,none⟩ (.int .i64 (E k).pc)).setCell ⟨B,k*2+1,none⟩ (.int .i64 (E k).sd)) B n (k+1) E:=by
 obtain ⟨f,hr,hf⟩:=h
 refine ⟨_,(hr.set _ _).set _ _,fun j hj=>?_⟩
 by_cases e:j=k
 ·subst e
  simp
 ·have:=hf j (by omega)
  simp only [show ¬j*2=k*2 by omega,show ¬j*2=k*2+1 by omega,show ¬j*2+1=k*2 by omega,show ¬j*2+1=k*2+1 by omega,if_false]
  exact this
theorem EsTo.at {w:World}{B n:Nat}{E:Nat→En}(h:EsTo w B n n E):EsAt B w (some ⟨B,0,none⟩) n E:=by
 obtain ⟨f,hr,hf⟩:=h
 intro _
 refine ⟨B,0,rfl,Nat.le_refl _,hr.lt,fun i hi=>?_⟩
 obtain ⟨h1,h2⟩:=hf i hi
 rw [Nat.zero_add,← h1,← h2]
 exact ⟨hr.cell (by omega),hr.cell (by omega)⟩
theorem EsTo.setOther {w:World}{b' n k:Nat}{E:Nat→En}(h:EsTo w b' n k E){B o:Nat}(hne:b'≠B)(v:Value):EsTo (w.setCell ⟨B,o,none⟩ v) b' n k E:=by
 obtain ⟨f,hr,hf⟩:=h
 exact ⟨f,hr.setOther (a:=⟨B,o,none⟩) hne v,hf⟩
theorem EsTo.below {w w':World}{b' n k:Nat}{E:Nat→En}(h:EsTo w b' n k E)(hb:Below w.heap.size w w'):EsTo w' b' n k E:=by
 obtain ⟨f,hr,hf⟩:=h
 exact ⟨f,rowBel hr hb hr.lt,hf⟩
theorem PsTo.below {w w':World}{B n k:Nat}{P:Nat→Pc}(h:PsTo w B n k P)(hb:Below w.heap.size w w'):PsTo w' B n k P:=by
 obtain ⟨f,hr,hf⟩:=h
 exact ⟨f,rowBel hr hb hr.lt,hf⟩
theorem EsTo.lt {w:World}{b' n k:Nat}{E:Nat→En}(h:EsTo w b' n k E):b'<w.heap.size:=by
 obtain ⟨f,hr,_⟩:=h
 exact hr.lt
def JsTo (wr:World)(B n k:Nat)(J:Nat→Jt):Prop:=
 ∃ f,wr.rowIs B 115 (n*3) f∧∀ j,j<k→f (j*3)=.int .i64 (J j).kd∧f (j*3+1)=.string (J j).nm∧
  ∃ b',f (j*3+2)=.slice (some ⟨b',0,none⟩) (J j).ne (J j).ne∧B<b'∧EsTo wr b' (J j).ne (J j).ne (J j).E
theorem JsTo.step {w:World}{B n k:Nat}{J:Nat→Jt}{b':Nat}(h:JsTo w B n k J)(hb:B<b')(hE:EsTo w b' (J k).ne (J k).ne (J k).E):
 JsTo (((w.setCell ⟨B,k*3,none⟩ (.int .i64 (J k).kd)).setCell ⟨B,k*3+1,none⟩ (.string (J k).nm)).setCell ⟨B,k*3+2,none⟩ (.slice (some ⟨b',0,none⟩) (J k).ne (J k).ne)) B n (k+1) J:=by
 obtain ⟨f,hr,hf⟩:=h
 refine ⟨_,((hr.set _ _).set _ _).set _ _,fun j hj=>?_⟩
 by_cases e:j=k
 ·subst e
  refine ⟨by simp,by simp,b',by simp,hb,?_⟩
  exact ((hE.setOther (by omega) _).setOther (by omega) _).setOther (by omega) _
 ·obtain ⟨h1,h2,c,h3,h4,h5⟩:=hf j (by omega)
  simp only [show ¬j*3=k*3 by omega,show ¬j*3=k*3+1 by omega,show ¬j*3=k*3+2 by omega,
   show ¬j*3+1=k*3 by omega,show ¬j*3+1=k*3+1 by omega,show ¬j*3+1=k*3+2 by omega,
   show ¬j*3+2=k*3 by omega,show ¬j*3+2=k*3+1 by omega,show ¬j*3+2=k*3+2 by omega,if_false]
  exact ⟨h1,h2,c,h3,h4,((h5.setOther (by omega) _).setOther (by omega) _).setOther (by omega) _⟩
theorem JsTo.mono {w w':World}{B n k:Nat}{J:Nat→Jt}(h:JsTo w B n k J)(hb:Below w.heap.size w w'):JsTo w' B n k J:=by
 obtain ⟨f,hr,hf⟩:=h
 refine ⟨f,rowBel hr hb hr.lt,fun j hj=>?_⟩
 obtain ⟨h1,h2,c,h3,h4,h5⟩:=hf j hj
 exact ⟨h1,h2,c,h3,h4,h5.below hb⟩
theorem JsTo.at {w:World}{B n:Nat}{J:Nat→Jt}(h:JsTo w B n n J):JsAt B w (some ⟨B,0,none⟩) n J:=by
 obtain ⟨f,hr,hf⟩:=h
 intro _
 refine ⟨B,0,rfl,Nat.le_refl _,hr.lt,fun i hi=>?_⟩
 obtain ⟨h1,h2,c,h3,h4,h5⟩:=hf i hi
 refine ⟨some ⟨c,0,none⟩,(J i).ne,?_,?_,?_,h5.at.keep (by omega) lr fun _ _ _=>rfl⟩
 ·rw [Nat.zero_add,← h1];exact hr.cell (by omega)
 ·rw [Nat.zero_add,← h2];exact hr.cell (by omega)
 ·rw [Nat.zero_add,← h3];exact hr.cell (by omega)
set_option maxHeartbeats 400000 in
theorem toPieceS22x (a:Option Addr)(n cap:Nat)(P:Nat→Pc)(w:World)(hn:n≤1048576)(hP:PsAt 0 w a n P):
 Calls Tryz.prog 24 #[.slice a n cap] w fun e w'=>
  e=.returned (.slice (some ⟨w.heap.size,0,none⟩) n n)∧PsTo w' w.heap.size n n P∧Below w.heap.size w w':=by
 have hmk:=make_rows (P:=Tryz.prog) 31 108 _ 40 4 Tryz.underlying31 info48 n (by omega) (by omega)
 have hf0:PsTo (w.alloc (.cells (mk0 (.agg #[.string ⟨#[]⟩,.int .i64 0,.int .i64 0,.int .i64 0]) (n*4)) 108)) w.heap.size n 0 P:=by
  obtain ⟨f0,hf0⟩:=row_mk0 w (.agg #[.string ⟨#[]⟩,.int .i64 0,.int .i64 0,.int .i64 0]) (n*4) 108
  exact ⟨f0,hf0,fun j hj=>absurd hj (Nat.not_lt_zero _)⟩
 go_enter Tryz.func24,Tryz.ntmps24
 go_wp2_with fail
 go_loopw [4] (fun i wr=>∃ (k:Nat),k≤n∧i=.int .i64 k∧PsTo wr w.heap.size n k P∧Below w.heap.size w wr)
  (fun i _=>n-(intOf i).toNat)
 case atStart=>exact ⟨0,Nat.zero_le _,rfl,hf0,bel1 _ _⟩
 case round=>
  obtain ⟨k,hk,rfl,hto,hbel⟩:=hrel
  clear hf0 hmk
  by_cases hlt:k<n
  ·obtain ⟨b,off,rfl,_,hb,hc⟩:=(hP.mono lr hbel lr) (by omega)
   obtain ⟨c0,c1,c2,c3⟩:=hc k hlt
   clear hc
   go_wp2_with fail
   refine (toPiece40 (P k) _).mono ?_
   rintro e w1 ⟨rfl,hb1⟩
   have hto1:PsTo w1 w.heap.size n k P:=by
    obtain ⟨f,hr,hf⟩:=hto
    exact ⟨f,rowBel hr hb1 hr.lt,hf⟩
   have hbel1:=hbel.trans (hb1.mono hbel.size)
   have hR:=hto1.step
   obtain ⟨f,hr1,_⟩:=hto1
   have d0:=hr1.cell (i:=k*4) (by omega)
   have d1:=hr1.cell (i:=k*4+1) (by omega)
   have d2:=hr1.cell (i:=k*4+2) (by omega)
   have d3:=hr1.cell (i:=k*4+3) (by omega)
   have e0:=hr1.frozen (k*4)
   have e1:=hr1.frozen (k*4+1)
   have e2:=hr1.frozen (k*4+2)
   have e3:=hr1.frozen (k*4+3)
   clear c0 c1 c2 c3 hto hr1
   go_wp2_with fail
   go_roundw
   case rel=>exact ⟨k+1,by omega,by go_num,hR,(((hbel1.setCell lr _).setCell lr _).setCell lr _).setCell lr _⟩
   case measure=>simp [intOf];omega
  ·obtain rfl:k=n:=by omega
   go_wp2
   go_ret
   exact ⟨rfl,hto,hbel⟩
set_option maxHeartbeats 400000 in
theorem toEndS49x (a:Option Addr)(n cap:Nat)(E:Nat→En)(w:World)(hn:n≤1048576)(hE:EsAt 0 w a n E):
 Calls Tryz.prog 88 #[.slice a n cap] w fun e w'=>
  e=.returned (.slice (some ⟨w.heap.size,0,none⟩) n n)∧EsTo w' w.heap.size n n E∧Below w.heap.size w w':=by
 have hmk:=make_rows (P:=Tryz.prog) 53 112 _ 16 2 Tryz.underlying53 info54 n (by omega) (by omega)
 have hf0:EsTo (w.alloc (.cells (mk0 (.agg #[.int .i64 0,.int .i64 0]) (n*2)) 112)) w.heap.size n 0 E:=by
  obtain ⟨f0,hf0⟩:=row_mk0 w (.agg #[.int .i64 0,.int .i64 0]) (n*2) 112
  exact ⟨f0,hf0,fun j hj=>absurd hj (Nat.not_lt_zero _)⟩
 go_enter Tryz.func88,Tryz.ntmps88
 go_wp2_with fail
 go_loopw [4] (fun i wr=>∃ (k:Nat),k≤n∧i=.int .i64 k∧EsTo wr w.heap.size n k E∧Below w.heap.size w wr)
  (fun i _=>n-(intOf i).toNat)
 case atStart=>exact ⟨0,Nat.zero_le _,rfl,hf0,bel1 _ _⟩
 case round=>
  obtain ⟨k,hk,rfl,hto,hbel⟩:=hrel
  clear hf0 hmk
  by_cases hlt:k<n
  ·obtain ⟨b,off,rfl,_,hb,hc⟩:=(hE.mono lr hbel lr) (by omega)
   obtain ⟨c0,c1⟩:=hc k hlt
   clear hc
   go_wp2_with fail
   refine (toEnd52 (E k).pc (E k).sd _).mono ?_
   rintro e w1 ⟨rfl,hb1⟩
   have hto1:EsTo w1 w.heap.size n k E:=by
    obtain ⟨f,hr,hf⟩:=hto
    exact ⟨f,rowBel hr hb1 hr.lt,hf⟩
   have hbel1:=hbel.trans (hb1.mono hbel.size)
   have hR:=hto1.step
   obtain ⟨f,hr1,_⟩:=hto1
   have d0:=hr1.cell (i:=k*2) (by omega)
   have d1:=hr1.cell (i:=k*2+1) (by omega)
   have e0:=hr1.frozen (k*2)
   have e1:=hr1.frozen (k*2+1)
   clear c0 c1 hto hr1
   go_wp2_with fail
   go_roundw
   case rel=>exact ⟨k+1,by omega,by go_num,hR,(hbel1.setCell lr _).setCell lr _⟩
   case measure=>simp [intOf];omega
  ·obtain rfl:k=n:=by omega
   go_wp2
   go_ret
   exact ⟨rfl,hto,hbel⟩
set_option maxHeartbeats 400000 in
theorem toJoint41 (j:Jt)(ea:Option Addr)(ec:Nat)(w:World)(hn:j.ne≤1048576)(hE:EsAt 0 w ea j.ne j.E):
 Calls Tryz.prog 62 #[.agg #[.int .i64 j.kd,.string j.nm,.slice ea j.ne ec]] w fun e w'=>
  ∃ b',w.heap.size≤b'∧e=.returned (.agg #[.int .i64 j.kd,.string j.nm,.slice (some ⟨b',0,none⟩) j.ne j.ne])∧EsTo w' b' j.ne j.ne j.E∧Below w.heap.size w w':=by
 go_enter Tryz.func62,Tryz.ntmps62
 go_wp2_with fail
 refine (toEndS49x ea j.ne ec j.E _ hn (hE.mono lr (bel3 w _ _ _) lr)).mono ?_
 rintro e w1 ⟨rfl,hE1,hb1⟩
 obtain ⟨hc,hf⟩:=bcell hb1
 have hz:w.heap.size+1+1<w1.heap.size:=by have:=hb1.size;simp at this;omega
 have hB:Below w.heap.size w w1:=(bel3 w _ _ _).trans (hb1.mono (by simp;omega))
 have hE2:EsTo w1 (w.heap.size+1+1+1) j.ne j.ne j.E:=by simpa using hE1
 clear hE1 hb1
 go_wp2_with fail
 refine bodyPost_ret (v:=.agg #[.int .i64 j.kd,.string j.nm,.slice (some ⟨w.heap.size+1+1+1,0,none⟩) j.ne j.ne]) (by simp [results,Tryz.results62,go_sem,hc]) rfl ⟨w.heap.size+1+1+1,by omega,rfl,?_,?_⟩
 ·exact (((hE2.setOther (by omega) _).setOther (by omega) _).setOther (by omega) _).setOther (by omega) _
 ·exact (((hB.setCell (by show w.heap.size≤w.heap.size+1+1;omega) _).setCell (by show w.heap.size≤w.heap.size+1;omega) _).setCell (by show w.heap.size≤w.heap.size+1;omega) _).setCell (by show w.heap.size≤w.heap.size+1;omega) _
set_option maxHeartbeats 400000 in
theorem toJointS23x (a:Option Addr)(n cap:Nat)(J:Nat→Jt)(w:World)(hn:n≤1048576)(hJ:JsAt 0 w a n J)(hne:∀ i,i<n→(J i).ne≤1048576):
 Calls Tryz.prog 25 #[.slice a n cap] w fun e w'=>
  e=.returned (.slice (some ⟨w.heap.size,0,none⟩) n n)∧JsTo w' w.heap.size n n J∧Below w.heap.size w w':=by
 have hmk:=make_rows (P:=Tryz.prog) 32 115 _ 48 3 Tryz.underlying32 info61 n (by omega) (by omega)
 have hf0:JsTo (w.alloc (.cells (mk0 (.agg #[.int .i64 0,.string ⟨#[]⟩,.slice none 0 0]) (n*3)) 115)) w.heap.size n 0 J:=by
  obtain ⟨f0,hf0⟩:=row_mk0 w (.agg #[.int .i64 0,.string ⟨#[]⟩,.slice none 0 0]) (n*3) 115
  exact ⟨f0,hf0,fun j hj=>absurd hj (Nat.not_lt_zero _)⟩
 have Hne:Hid (∀ i,i<n→(J i).ne≤1048576):=hne
 clear hne
 go_enter Tryz.func25,Tryz.ntmps25
 go_wp2_with fail
 go_loopw [4] (fun i wr=>∃ (k:Nat),k≤n∧i=.int .i64 k∧JsTo wr w.heap.size n k J∧Below w.heap.size w wr)
  (fun i _=>n-(intOf i).toNat)
 case atStart=>exact ⟨0,Nat.zero_le _,rfl,hf0,bel1 _ _⟩
 case round=>
  obtain ⟨k,hk,rfl,hto,hbel⟩:=hrel
  clear hf0 hmk
  by_cases hlt:k<n
  ·obtain ⟨b,off,rfl,_,hb,hc⟩:=(hJ.mono lr hbel lr) (by omega)
   obtain ⟨ea,ec,c0,c1,c2,hE⟩:=hc k hlt
   clear hc
   go_wp2_with fail
   refine (toJoint41 (J k) ea ec _ (Hne.out k hlt) hE).mono ?_
   rintro e w1 ⟨b',hb',rfl,hE1,hb1⟩
   have hto1:JsTo w1 w.heap.size n k J:=hto.mono hb1
   have hlt1:w.heap.size+1≤wr.heap.size:=by
    obtain ⟨f,hr,_⟩:=hto
    exact hr.lt
   have hbel1:=hbel.trans (hb1.mono hbel.size)
   have hR:=hto1.step (b':=b') (by omega) hE1
   obtain ⟨f,hr1,_⟩:=hto1
   have d0:=hr1.cell (i:=k*3) (by omega)
   have d1:=hr1.cell (i:=k*3+1) (by omega)
   have d2:=hr1.cell (i:=k*3+2) (by omega)
   have e0:=hr1.frozen (k*3)
   have e1:=hr1.frozen (k*3+1)
   have e2:=hr1.frozen (k*3+2)
   clear c0 c1 c2 hto hr1 hE hE1
   go_wp2_with fail
   go_roundw
   case rel=>exact ⟨k+1,by omega,by go_num,hR,((hbel1.setCell lr _).setCell lr _).setCell lr _⟩
   case measure=>simp [intOf];omega
  ·obtain rfl:k=n:=by omega
   go_wp2
   go_ret
   exact ⟨rfl,hto,hbel⟩
theorem PsTo.setOther {w:World}{b' n k:Nat}{P:Nat→Pc}(h:PsTo w b' n k P){B o:Nat}(hne:b'≠B)(v:Value):PsTo (w.setCell ⟨B,o,none⟩ v) b' n k P:=by
 obtain ⟨f,hr,hf⟩:=h
 exact ⟨f,hr.setOther (a:=⟨B,o,none⟩) hne v,hf⟩
theorem JsTo.setOther {w:World}{b' n k:Nat}{J:Nat→Jt}(h:JsTo w b' n k J){B o:Nat}(hlt:B<b')(v:Value):JsTo (w.setCell ⟨B,o,none⟩ v) b' n k J:=by
 obtain ⟨f,hr,hf⟩:=h
 refine ⟨f,hr.setOther (a:=⟨B,o,none⟩) (by show b'≠B;omega) v,fun j hj=>?_⟩
 obtain ⟨h1,h2,c,h3,h4,h5⟩:=hf j hj
 exact ⟨h1,h2,c,h3,h4,h5.setOther (by omega) v⟩
set_option maxHeartbeats 400000 in
theorem toNet7x (pa:Option Addr)(n pc:Nat)(P:Nat→Pc)(ja:Option Addr)(m jc:Nat)(J:Nat→Jt)(w:World)(hn:n≤1048576)(hm:m≤1048576)
 (hP:PsAt 0 w pa n P) (hJ:JsAt 0 w ja m J) (hne:∀ i,i<m→(J i).ne≤1048576):
 Calls Tryz.prog 7 #[.agg #[.slice pa n pc,.slice ja m jc]] w fun e w'=>
  ∃ pb jb,w.heap.size≤pb∧w.heap.size≤jb∧pb<jb∧e=.returned (.agg #[.slice (some ⟨pb,0,none⟩) n n,.slice (some ⟨jb,0,none⟩) m m])∧PsTo w' pb n n P∧JsTo w' jb m m J∧Below w.heap.size w w':=by
 have Hne:Hid (∀ i,i<m→(J i).ne≤1048576):=hne
 clear hne
 go_enter Tryz.func7,Tryz.ntmps7
 go_wp2_with fail
 refine (toPieceS22x pa n pc P _ hn (hP.mono lr (bel3 w _ _ _) lr)).mono ?_
 rintro e w1 ⟨rfl,hP1,hb1⟩
 obtain ⟨hc,hf⟩:=bcell hb1
 have hz:w.heap.size+1+1<w1.heap.size:=by have:=hb1.size;simp at this;omega
 have hB:Below w.heap.size w w1:=(bel3 w _ _ _).trans (hb1.mono (by simp;omega))
 have hP2:PsTo w1 (w.heap.size+1+1+1) n n P:=by simpa using hP1
 have hlt3:w.heap.size+1+1+1<w1.heap.size:=by
  obtain ⟨f,hr,_⟩:=hP2
  exact hr.lt
 clear hP1 hb1
 go_wp2_with fail
 have hB2:Below w.heap.size w (w1.setCell ⟨w.heap.size+1+1,0,none⟩ (.slice (some ⟨w.heap.size+1+1+1,0,none⟩) n n)):=hB.setCell (by show w.heap.size≤w.heap.size+1+1;omega) _
 have hP3:=hP2.setOther (B:=w.heap.size+1+1) (o:=0) (by omega) (.slice (some ⟨w.heap.size+1+1+1,0,none⟩) n n)
 refine (toJointS23x ja m jc J _ hm (hJ.mono lr hB2 lr) Hne.out).mono ?_
 rintro e w2 ⟨rfl,hJ3,hb2⟩
 obtain ⟨hc2,hf2⟩:=bcell hb2
 have hz2:w.heap.size+1+1<w2.heap.size:=by have:=hb2.size;simp [World.setCell] at this;omega
 have hP4:=hP3.below hb2
 have hsz:(w1.setCell ⟨w.heap.size+1+1,0,none⟩ (.slice (some ⟨w.heap.size+1+1+1,0,none⟩) n n)).heap.size=w1.heap.size:=by simp [World.setCell]
 rw [hsz] at hJ3 ⊢
 have hJ4:JsTo w2 w1.heap.size m m J:=hJ3
 have hB4:Below w.heap.size w w2:=hB2.trans (hb2.mono hB2.size)
 have k0:∀ o,o<2→w1.cell? ⟨w.heap.size+1+1,o,none⟩=some (.slice none 0 0):=fun o ho=>by
  rw [hc _ _ (by simp),World.cell?_alloc_at _ _ _ _ (by simp)]
  match o,ho with
  | 0,_=>rfl
  | 1,_=>rfl
 have k1:∀ o,o<2→w1.cell? ⟨w.heap.size+1,o,none⟩=some (.slice none 0 0):=fun o ho=>by
  rw [hc _ _ (by simp),World.cell?_alloc_past _ _ _ (by simp),World.cell?_alloc_at _ _ _ _ (by simp)]
  match o,ho with
  | 0,_=>rfl
  | 1,_=>rfl
 have g0:w2.cell? ⟨w.heap.size+1+1,0,none⟩=some (.slice (some ⟨w.heap.size+1+1+1,0,none⟩) n n):=by rw [hc2 _ _ (by rw [hsz];omega)];exact cset_same (k0 0 (by omega))
 have g1:w2.cell? ⟨w.heap.size+1+1,1,none⟩=some (.slice none 0 0):=by rw [hc2 _ _ (by rw [hsz];omega),cset_ne _ _ _ _ _ _ (by omega)];exact k0 1 (by omega)
 have g2:w2.cell? ⟨w.heap.size+1,0,none⟩=some (.slice none 0 0):=by rw [hc2 _ _ (by rw [hsz];omega),cset_ne _ _ _ _ _ _ (by omega)];exact k1 0 (by omega)
 have g3:w2.cell? ⟨w.heap.size+1,1,none⟩=some (.slice none 0 0):=by rw [hc2 _ _ (by rw [hsz];omega),cset_ne _ _ _ _ _ _ (by omega)];exact k1 1 (by omega)
 have f1:w2.frozen? ⟨w.heap.size+1+1,1,none⟩=false:=by rw [hf2 _ _ (by rw [hsz];omega),World.frozen?_setCell,hf _ _ (by simp)];exact World.frozen?_alloc_at _ _ _ _ (by simp)
 have f2:w2.frozen? ⟨w.heap.size+1,0,none⟩=false:=by rw [hf2 _ _ (by rw [hsz];omega),World.frozen?_setCell,hf _ _ (by simp),World.frozen?_alloc_past _ _ _ (by simp)];exact World.frozen?_alloc_at _ _ _ _ (by simp)
 have f3:w2.frozen? ⟨w.heap.size+1,1,none⟩=false:=by rw [hf2 _ _ (by rw [hsz];omega),World.frozen?_setCell,hf _ _ (by simp),World.frozen?_alloc_past _ _ _ (by simp)];exact World.frozen?_alloc_at _ _ _ _ (by simp)
 clear hJ3 hb2 hP2 hP3 hc hf hc2 hf2 k0 k1
 go_wp2_with fail
 refine bodyPost_ret (v:=.agg #[.slice (some ⟨w.heap.size+1+1+1,0,none⟩) n n,.slice (some ⟨w1.heap.size,0,none⟩) m m]) (by simp [results,Tryz.results7,go_sem,g2,g3]) rfl ⟨_,_,?_,?_,?_,rfl,?_,?_,?_⟩
 ·omega
 ·omega
 ·exact hlt3
 ·exact ((hP4.setOther (by omega) _).setOther (by omega) _).setOther (by omega) _
 ·exact ((hJ4.setOther (by omega) _).setOther (by omega) _).setOther (by omega) _
 ·exact ((hB4.setCell (by show w.heap.size≤w.heap.size+1+1;omega) _).setCell (by show w.heap.size≤w.heap.size+1;omega) _).setCell (by show w.heap.size≤w.heap.size+1;omega) _
theorem toNet7 (pa:Option Addr)(n pc:Nat)(P:Nat→Pc)(ja:Option Addr)(m jc:Nat)(J:Nat→Jt)(w:World)(hn:n≤1048576)(hm:m≤1048576)
 (hP:PsAt 0 w pa n P) (hJ:JsAt 0 w ja m J) (hne:∀ i,i<m→(J i).ne≤1048576):
 Calls Tryz.prog 7 #[.agg #[.slice pa n pc,.slice ja m jc]] w fun e w'=>
  ∃ pa' ja',e=.returned (.agg #[.slice pa' n n,.slice ja' m m])∧PsAt w.heap.size w' pa' n P∧JsAt w.heap.size w' ja' m J∧Below w.heap.size w w':=
 (toNet7x pa n pc P ja m jc J w hn hm hP hJ hne).mono fun _ _ ⟨_,_,h1,h2,_,he,h4,h5,h6⟩=>⟨_,_,he,h4.at.keep h1 lr fun _ _ _=>rfl,h5.at.keep h2 lr fun _ _ _=>rfl,h6⟩
set_option maxHeartbeats 1000000 in
theorem eqPieceS28 (a a':Option Addr)(n cap cap':Nat)(P:Nat→Pc)(w:World)(hn:n≤1048576)(hP:PsAt 0 w a n P)(hP':PsAt 0 w a' n P):
 Calls Tryz.prog 33 #[.slice a n cap,.slice a' n cap'] w fun e w'=>e=.returned (.bool true)∧Below w.heap.size w w':=by
 go_enter Tryz.func33,Tryz.ntmps33
 go_wp2_with fail
 go_loopw [5] (fun i wr=>∃ (k:Nat),k≤n∧i=.int .i64 k∧Below w.heap.size w wr) (fun i _=>n-(intOf i).toNat)
 case atStart=>exact ⟨0,Nat.zero_le _,rfl,Below.refl _ _⟩
 case round=>
  obtain ⟨k,hk,rfl,hbel⟩:=hrel
  by_cases hlt:k<n
  ·obtain ⟨b,off,rfl,_,hb,hc⟩:=(hP.mono lr hbel lr) (by omega)
   obtain ⟨c0,c1,c2,c3⟩:=hc k hlt
   obtain ⟨b',off',rfl,_,hb',hc'⟩:=(hP'.mono lr hbel lr) (by omega)
   obtain ⟨c0',c1',c2',c3'⟩:=hc' k hlt
   have hlt':(k:Int)<(n:Int):=by omega
   have hk0:(0:Int)≤(k:Int):=by omega
   clear hc hc'
   go_wp2_with fail
   go_region_with (go_at_call 80;refine (eqPiece46 (P k) _).mono ?_;rintro e w1 ⟨rfl,hb1⟩)
   all_goals
    go_wp2_with fail
    go_roundw
    case rel=>exact ⟨k+1,by omega,by go_num,hbel.drew.trans (hb1.mono hbel.drew.size)⟩
    case measure=>simp [intOf];omega
  ·go_wp2
   go_ret
   exact ⟨rfl,hbel⟩
set_option maxHeartbeats 1000000 in
theorem eqEndS51 (a a':Option Addr)(n cap cap':Nat)(E:Nat→En)(w:World)(hn:n≤1048576)(hE:EsAt 0 w a n E)(hE':EsAt 0 w a' n E):
 Calls Tryz.prog 110 #[.slice a n cap,.slice a' n cap'] w fun e w'=>e=.returned (.bool true)∧Below w.heap.size w w':=by
 go_enter Tryz.func110,Tryz.ntmps110
 go_wp2_with fail
 go_loopw [5] (fun i wr=>∃ (k:Nat),k≤n∧i=.int .i64 k∧Below w.heap.size w wr) (fun i _=>n-(intOf i).toNat)
 case atStart=>exact ⟨0,Nat.zero_le _,rfl,Below.refl _ _⟩
 case round=>
  obtain ⟨k,hk,rfl,hbel⟩:=hrel
  by_cases hlt:k<n
  ·obtain ⟨b,off,rfl,_,hb,hc⟩:=(hE.mono lr hbel lr) (by omega)
   obtain ⟨c0,c1⟩:=hc k hlt
   obtain ⟨b',off',rfl,_,hb',hc'⟩:=(hE'.mono lr hbel lr) (by omega)
   obtain ⟨c0',c1'⟩:=hc' k hlt
   have hlt':(k:Int)<(n:Int):=by omega
   have hk0:(0:Int)≤(k:Int):=by omega
   clear hc hc'
   go_wp2_with fail
   go_region_with (go_at_call 119;refine (eqEnd53 (E k).pc (E k).sd _).mono ?_;rintro e w1 ⟨rfl,hb1⟩)
   all_goals
    go_wp2_with fail
    go_roundw
    case rel=>exact ⟨k+1,by omega,by go_num,hbel.drew.trans (hb1.mono hbel.drew.size)⟩
    case measure=>simp [intOf];omega
  ·go_wp2
   go_ret
   exact ⟨rfl,hbel⟩
set_option maxHeartbeats 1000000 in
theorem eqJoint47 (j:Jt)(a a':Option Addr)(c c':Nat)(w:World)(hn:j.ne≤1048576)(hE:EsAt 0 w a j.ne j.E)(hE':EsAt 0 w a' j.ne j.E):
 Calls Tryz.prog 81 #[.agg #[.int .i64 j.kd,.string j.nm,.slice a j.ne c],.agg #[.int .i64 j.kd,.string j.nm,.slice a' j.ne c']] w fun e w'=>e=.returned (.bool true)∧Below w.heap.size w w':=by
 go_enter Tryz.func81,Tryz.ntmps81
 go_wp2_with fail
 refine (eqEndS51 a a' j.ne c c' j.E _ hn (hE.mono lr (bel2 w _ _) lr) (hE'.mono lr (bel2 w _ _) lr)).mono ?_
 rintro e w1 ⟨rfl,hb1⟩
 go_wp2
 go_ret
 exact ⟨rfl,(bel2 w _ _).trans (hb1.mono (by simp;omega))⟩
set_option maxHeartbeats 1000000 in
theorem eqJointS29 (a a':Option Addr)(n cap cap':Nat)(J:Nat→Jt)(w:World)(hn:n≤1048576)(hJ:JsAt 0 w a n J)(hJ':JsAt 0 w a' n J)(hne:∀ i,i<n→(J i).ne≤1048576):
 Calls Tryz.prog 34 #[.slice a n cap,.slice a' n cap'] w fun e w'=>e=.returned (.bool true)∧Below w.heap.size w w':=by
 have Hne:Hid (∀ i,i<n→(J i).ne≤1048576):=hne
 clear hne
 go_enter Tryz.func34,Tryz.ntmps34
 go_wp2_with fail
 go_loopw [5] (fun i wr=>∃ (k:Nat),k≤n∧i=.int .i64 k∧Below w.heap.size w wr) (fun i _=>n-(intOf i).toNat)
 case atStart=>exact ⟨0,Nat.zero_le _,rfl,Below.refl _ _⟩
 case round=>
  obtain ⟨k,hk,rfl,hbel⟩:=hrel
  by_cases hlt:k<n
  ·obtain ⟨b,off,rfl,_,hb,hc⟩:=(hJ.mono lr hbel.drew lr) (by omega)
   obtain ⟨ea,ec,c0,c1,c2,hE⟩:=hc k hlt
   obtain ⟨b',off',rfl,_,hb',hc'⟩:=(hJ'.mono lr hbel.drew lr) (by omega)
   obtain ⟨ea',ec',c0',c1',c2',hE'⟩:=hc' k hlt
   have hlt':(k:Int)<(n:Int):=by omega
   have hk0:(0:Int)≤(k:Int):=by omega
   have hnk:=Hne.out k hlt
   clear hc hc'
   have c00:wr.cell? _=_:=c0
   have c10:wr.cell? _=_:=c1
   have c20:wr.cell? _=_:=c2
   have c00':wr.cell? _=_:=c0'
   have c10':wr.cell? _=_:=c1'
   have c20':wr.cell? _=_:=c2'
   clear c0 c1 c2 c0' c1' c2'
   go_wp2_with fail
   go_region_with (go_at_call 81;refine (eqJoint47 (J k) ea ea' ec ec' _ hnk hE hE').mono ?_;rintro e w1 ⟨rfl,hb1⟩)
   all_goals
    go_wp2_with fail
    go_roundw
    case rel=>exact ⟨k+1,by omega,by go_num,hbel.drew.trans (hb1.mono hbel.drew.size)⟩
    case measure=>simp [intOf];omega
  ·go_wp2
   go_ret
   exact ⟨rfl,hbel⟩
set_option maxHeartbeats 1000000 in
theorem eqNet10 (pa pa':Option Addr)(n pc pc':Nat)(P:Nat→Pc)(ja ja':Option Addr)(m jc jc':Nat)(J:Nat→Jt)(w:World)(hn:n≤1048576)(hm:m≤1048576)
 (hP:PsAt 0 w pa n P) (hP':PsAt 0 w pa' n P) (hJ:JsAt 0 w ja m J) (hJ':JsAt 0 w ja' m J) (hne:∀ i,i<m→(J i).ne≤1048576):
 Calls Tryz.prog 11 #[.agg #[.slice pa n pc,.slice ja m jc],.agg #[.slice pa' n pc',.slice ja' m jc']] w fun e w'=>e=.returned (.bool true)∧Below w.heap.size w w':=by
 have Hne:Hid (∀ i,i<m→(J i).ne≤1048576):=hne
 clear hne
 go_enter Tryz.func11,Tryz.ntmps11
 go_wp2_with fail
 refine (eqPieceS28 pa pa' n pc pc' P _ hn (hP.mono lr (bel2 w _ _) lr) (hP'.mono lr (bel2 w _ _) lr)).mono ?_
 rintro e w1 ⟨rfl,hb1⟩
 obtain ⟨hc,hf⟩:=bcell hb1
 have hB:Below w.heap.size w w1:=(bel2 w _ _).trans (hb1.mono (by simp;omega))
 go_wp2_with fail
 refine (eqJointS29 ja ja' m jc jc' J _ hm (hJ.mono lr hB lr) (hJ'.mono lr hB lr) Hne.out).mono ?_
 rintro e w2 ⟨rfl,hb2⟩
 go_wp2
 go_ret
 exact ⟨rfl,hB.trans (hb2.mono hB.size)⟩
set_option maxHeartbeats 400000 in
theorem szSignal30 (nm:ByteArray)(a b c left:Int)(w:World)(hs:nm.size≤maxLen)(h0:0≤left)(h1:left≤1048576):
 Calls Tryz.prog 19 #[.agg #[.string nm,.int .i64 a,.int .i64 b,.int .i64 c],.int .i64 left] w fun e w'=>
  e=.returned (.int .i64 (szL left nm.size))∧Below w.heap.size w w':=by
 unfold maxLen at hs
 by_cases h:left<(nm.size:Int)
 ·go_enter Tryz.func19,Tryz.ntmps19
  go_wp2
  go_ret
  exact ⟨by simp [szL];omega,(Below.refl _ _).alloc lr _⟩
 ·go_enter Tryz.func19,Tryz.ntmps19
  go_wp2
  go_ret
  exact ⟨by simp [szL];omega,(Below.refl _ _).alloc lr _⟩
set_option maxHeartbeats 400000 in
theorem szSignalS11 (a:Option Addr)(n cap:Nat)(P:Nat→Pc)(left:Int)(w:World)(hn:n≤maxLen)(h0:0≤left)(h1:left≤1048576)
 (hP:PsAt 0 w a n P) (hs:∀ i,i<n→(P i).nm.size≤maxLen):
 Calls Tryz.prog 5 #[.slice a n cap,.int .i64 left] w fun e w'=>
  ∃ r:Int,e=.returned (.int .i64 r)∧r≤left∧(0≤r→(n:Int)≤left)∧Below w.heap.size w w':=by
 unfold maxLen at hn
 by_cases h:left<(n:Int)
 ·go_enter Tryz.func5,Tryz.ntmps5
  go_wp2
  go_ret
  exact ⟨-1,rfl,by omega,by omega,Below.refl _ _⟩
 ·go_enter Tryz.func5,Tryz.ntmps5
  go_wp2_with fail
  go_loopw [1,5] (fun l i wr=>∃ (k:Nat) (lv:Int),k≤n∧i=.int .i64 k∧l=.int .i64 lv∧0≤lv∧lv≤left∧Below w.heap.size w wr)
   (fun _ i _=>n-(intOf i).toNat)
  case atStart=>exact ⟨0,left-n,Nat.zero_le _,rfl,rfl,by omega,by omega,Below.refl _ _⟩
  case round=>
   obtain ⟨k,lv,hk,rfl,rfl,hl0,hl1,hbel⟩:=hrel
   by_cases hlt:k<n
   ·obtain ⟨b,off,rfl,_,hb,hc⟩:=(hP.mono lr hbel lr) (by omega)
    obtain ⟨c0,c1,c2,c3⟩:=hc k hlt
    have hsz:=hs k hlt
    clear hc
    go_wp2_with fail
    refine (szSignal30 (P k).nm _ _ _ lv _ hsz hl0 (by omega)).mono ?_
    rintro e w1 ⟨rfl,hb1⟩
    have hb2:Below w.heap.size w w1:=hbel.trans (hb1.mono hbel.size)
    by_cases hneg:szL lv (P k).nm.size<0
    ·go_wp2
     go_ret
     exact ⟨-1,rfl,by omega,by omega,hb2⟩
    ·have hle:szL lv (P k).nm.size≤lv:=by unfold szL;split <;> omega
     generalize szL lv (P k).nm.size=l2 at *
     go_wp2
     go_roundw
     case rel=>exact ⟨k+1,l2,by omega,by go_num,rfl,by omega,by omega,hb2⟩
     case measure=>simp [intOf];omega
   ·go_wp2
    go_ret
    exact ⟨lv,rfl,by omega,by omega,hbel⟩
set_option maxHeartbeats 400000 in
theorem toSignal33 (p:Pc)(w:World):
 Calls Tryz.prog 26 #[.agg #[.string p.nm,.int .i64 p.ln,.int .i64 p.sp,.int .i64 p.br]] w fun e w'=>
  e=.returned (.agg #[.string p.nm,.int .i64 p.ln,.int .i64 p.sp,.int .i64 p.br])∧Below w.heap.size w w':=by
 go_enter Tryz.func26,Tryz.ntmps26
 go_wp2
 exact bodyPost_ret (v:=.agg #[.string p.nm,.int .i64 p.ln,.int .i64 p.sp,.int .i64 p.br]) (by simp [results,Tryz.results26,go_sem]) rfl ⟨rfl,bel3 _ _ _ _⟩
theorem info69:(Tryz.prog.info? 56).map (fun i=>(i.zero,i.size,i.bytes))=some (some (.agg #[.string ⟨#[]⟩,.int .i64 0,.int .i64 0,.int .i64 0]),4,40):=by kernel_rfl
def SsTo (wr:World)(B n k:Nat)(P:Nat→Pc):Prop:=
 ∃ f,wr.rowIs B 56 (n*4) f∧∀ j,j<k→f (j*4)=.string (P j).nm∧f (j*4+1)=.int .i64 (P j).ln∧f (j*4+2)=.int .i64 (P j).sp∧f (j*4+3)=.int .i64 (P j).br
theorem SsTo.step {w:World}{B n k:Nat}{P:Nat→Pc}(h:SsTo w B n k P):
 SsTo ((((w.setCell ⟨B,k*4,none⟩ (.string (P k).nm)).setCell ⟨B,k*4+1,none⟩ (.int .i64 (P k).ln)).setCell ⟨B,k*4+2,none⟩ (.int .i64 (P k).sp)).setCell ⟨B,k*4+3,none⟩ (.int .i64 (P k).br)) B n (k+1) P:=by
 obtain ⟨f,hr,hf⟩:=h
 refine ⟨_,(((hr.set _ _).set _ _).set _ _).set _ _,fun j hj=>?_⟩
 by_cases e:j=k
 ·subst e
  simp
 ·have:=hf j (by omega)
  simp only [show ¬j*4=k*4 by omega,show ¬j*4=k*4+1 by omega,show ¬j*4=k*4+2 by omega,show ¬j*4=k*4+3 by omega,
   show ¬j*4+1=k*4 by omega,show ¬j*4+1=k*4+1 by omega,show ¬j*4+1=k*4+2 by omega,show ¬j*4+1=k*4+3 by omega,
   show ¬j*4+2=k*4 by omega,show ¬j*4+2=k*4+1 by omega,show ¬j*4+2=k*4+2 by omega,show ¬j*4+2=k*4+3 by omega,
   show ¬j*4+3=k*4 by omega,show ¬j*4+3=k*4+1 by omega,show ¬j*4+3=k*4+2 by omega,show ¬j*4+3=k*4+3 by omega,if_false]
  exact this
theorem SsTo.at {w:World}{B n:Nat}{P:Nat→Pc}(h:SsTo w B n n P):PsAt B w (some ⟨B,0,none⟩) n P:=by
 obtain ⟨f,hr,hf⟩:=h
 intro _
 refine ⟨B,0,rfl,Nat.le_refl _,hr.lt,fun i hi=>?_⟩
 obtain ⟨h1,h2,h3,h4⟩:=hf i hi
 rw [Nat.zero_add,← h1,← h2,← h3,← h4]
 exact ⟨hr.cell (by omega),hr.cell (by omega),hr.cell (by omega),hr.cell (by omega)⟩
set_option maxHeartbeats 400000 in
theorem toSignalS13 (a:Option Addr)(n cap:Nat)(P:Nat→Pc)(w:World)(hn:n≤1048576)(hP:PsAt 0 w a n P):
 Calls Tryz.prog 8 #[.slice a n cap] w fun e w'=>
  e=.returned (.slice (some ⟨w.heap.size,0,none⟩) n n)∧PsAt w.heap.size w' (some ⟨w.heap.size,0,none⟩) n P∧Below w.heap.size w w':=by
 have hmk:=make_rows (P:=Tryz.prog) 36 56 _ 40 4 Tryz.underlying36 info69 n (by omega) (by omega)
 have hf0:SsTo (w.alloc (.cells (mk0 (.agg #[.string ⟨#[]⟩,.int .i64 0,.int .i64 0,.int .i64 0]) (n*4)) 56)) w.heap.size n 0 P:=by
  obtain ⟨f0,hf0⟩:=row_mk0 w (.agg #[.string ⟨#[]⟩,.int .i64 0,.int .i64 0,.int .i64 0]) (n*4) 56
  exact ⟨f0,hf0,fun j hj=>absurd hj (Nat.not_lt_zero _)⟩
 go_enter Tryz.func8,Tryz.ntmps8
 go_wp2_with fail
 go_loopw [4] (fun i wr=>∃ (k:Nat),k≤n∧i=.int .i64 k∧SsTo wr w.heap.size n k P∧Below w.heap.size w wr)
  (fun i _=>n-(intOf i).toNat)
 case atStart=>exact ⟨0,Nat.zero_le _,rfl,hf0,bel1 _ _⟩
 case round=>
  obtain ⟨k,hk,rfl,hto,hbel⟩:=hrel
  clear hf0 hmk
  by_cases hlt:k<n
  ·obtain ⟨b,off,rfl,_,hb,hc⟩:=(hP.mono lr hbel lr) (by omega)
   obtain ⟨c0,c1,c2,c3⟩:=hc k hlt
   clear hc
   go_wp2_with fail
   refine (toSignal33 (P k) _).mono ?_
   rintro e w1 ⟨rfl,hb1⟩
   have hto1:SsTo w1 w.heap.size n k P:=by
    obtain ⟨f,hr,hf⟩:=hto
    exact ⟨f,rowBel hr hb1 hr.lt,hf⟩
   have hbel1:=hbel.trans (hb1.mono hbel.size)
   have hR:=hto1.step
   obtain ⟨f,hr1,_⟩:=hto1
   have d0:=hr1.cell (i:=k*4) (by omega)
   have d1:=hr1.cell (i:=k*4+1) (by omega)
   have d2:=hr1.cell (i:=k*4+2) (by omega)
   have d3:=hr1.cell (i:=k*4+3) (by omega)
   have e0:=hr1.frozen (k*4)
   have e1:=hr1.frozen (k*4+1)
   have e2:=hr1.frozen (k*4+2)
   have e3:=hr1.frozen (k*4+3)
   clear c0 c1 c2 c3 hto hr1
   go_wp2_with fail
   go_roundw
   case rel=>exact ⟨k+1,by omega,by go_num,hR,(((hbel1.setCell lr _).setCell lr _).setCell lr _).setCell lr _⟩
   case measure=>simp [intOf];omega
  ·obtain rfl:k=n:=by omega
   go_wp2
   go_ret
   exact ⟨rfl,hto.at,hbel⟩
theorem eqSignal36 (p:Pc)(w:World):
 Calls Tryz.prog 35 #[.agg #[.string p.nm,.int .i64 p.ln,.int .i64 p.sp,.int .i64 p.br],.agg #[.string p.nm,.int .i64 p.ln,.int .i64 p.sp,.int .i64 p.br]] w fun e w'=>
  e=.returned (.bool true)∧Below w.heap.size w w':=by
 go_enter Tryz.func35,Tryz.ntmps35
 go_wp2
 go_ret
 exact ⟨rfl,bel2 _ _ _⟩
set_option maxHeartbeats 1000000 in
theorem eqSignalS15 (a a':Option Addr)(n cap cap':Nat)(P:Nat→Pc)(w:World)(hn:n≤1048576)(hP:PsAt 0 w a n P)(hP':PsAt 0 w a' n P):
 Calls Tryz.prog 12 #[.slice a n cap,.slice a' n cap'] w fun e w'=>e=.returned (.bool true)∧Below w.heap.size w w':=by
 go_enter Tryz.func12,Tryz.ntmps12
 go_wp2_with fail
 go_loopw [5] (fun i wr=>∃ (k:Nat),k≤n∧i=.int .i64 k∧Below w.heap.size w wr) (fun i _=>n-(intOf i).toNat)
 case atStart=>exact ⟨0,Nat.zero_le _,rfl,Below.refl _ _⟩
 case round=>
  obtain ⟨k,hk,rfl,hbel⟩:=hrel
  by_cases hlt:k<n
  ·obtain ⟨b,off,rfl,_,hb,hc⟩:=(hP.mono lr hbel lr) (by omega)
   obtain ⟨c0,c1,c2,c3⟩:=hc k hlt
   obtain ⟨b',off',rfl,_,hb',hc'⟩:=(hP'.mono lr hbel lr) (by omega)
   obtain ⟨c0',c1',c2',c3'⟩:=hc' k hlt
   have hlt':(k:Int)<(n:Int):=by omega
   have hk0:(0:Int)≤(k:Int):=by omega
   clear hc hc'
   go_wp2_with fail
   go_region_with (go_at_call 35;refine (eqSignal36 (P k) _).mono ?_;rintro e w1 ⟨rfl,hb1⟩)
   all_goals
    go_wp2_with fail
    go_roundw
    case rel=>exact ⟨k+1,by omega,by go_num,hbel.drew.trans (hb1.mono hbel.drew.size)⟩
    case measure=>simp [intOf];omega
  ·go_wp2
   go_ret
   exact ⟨rfl,hbel⟩
end Go.Proofs.YtkhaehpobpkkiaaGreat
