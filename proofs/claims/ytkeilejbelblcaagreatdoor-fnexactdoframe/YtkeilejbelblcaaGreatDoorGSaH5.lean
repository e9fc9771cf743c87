import Derived.Test.YtkeilejbelblcaaGreatDoorGMoSm
namespace Go.Proofs.YtkeilejbelblcaaGreatDoor
open Go.RowKit
set_option maxHeartbeats 400000 in
theorem in24 (x a b:Int) (w:World):
  Calls Tryz.prog 31 #[.int .i64 x,.int .i64 a,.int .i64 b] w fun e w'=>e=.returned (.bool (inB x a b))/\w'=w:=by
 by_cases h1:a<=x
 ·
  by_cases h2:x<=b
  ·
   go_enter Tryz.func31,Tryz.ntmps31
   go_wp2
   go_ret
   exact⟨by simp[inB,h1,h2],rfl⟩
  ·
   go_enter Tryz.func31,Tryz.ntmps31
   go_wp2
   go_ret
   exact⟨by simp[inB,h1,h2],rfl⟩
 ·
  go_enter Tryz.func31,Tryz.ntmps31
  go_wp2
  go_ret
  exact⟨by simp[inB];omega,rfl⟩
set_option maxHeartbeats 400000 in
theorem within30 (x a b:Int) (w:World):
  Calls Tryz.prog 78 #[.int .i64 x,.int .i64 a,.int .i64 b] w fun e w'=>e=.returned (.bool (inB x a b))/\w'=w:=by
 by_cases h1:a<=x
 ·
  by_cases h2:x<=b
  ·
   go_enter Tryz.func78,Tryz.ntmps78
   go_wp2
   go_ret
   exact⟨by simp[inB,h1,h2],rfl⟩
  ·
   go_enter Tryz.func78,Tryz.ntmps78
   go_wp2
   go_ret
   exact⟨by simp[inB,h1,h2],rfl⟩
 ·
  go_enter Tryz.func78,Tryz.ntmps78
  go_wp2
  go_ret
  exact⟨by simp[inB];omega,rfl⟩
set_option maxHeartbeats 2000000 in
theorem list54 (a:Option Addr) (n cap:Nat) (S:Nat->Int) (m:Int) (w:World) (hn:n<=1048576) (hm:1<=m) (hm2:m<=60) (hS:VsAt 1 0 w a n (oneF S)):
  Calls Tryz.prog 123 #[.slice a n cap,.int .i64 m] w fun e w'=>e=.returned (.bool (listF S n m))/\w'=w:=by
 have HS:Hid (VsAt 1 0 w a n (oneF S)):=hS
 clear hS
 go_enter Tryz.func123,Tryz.ntmps123
 go_wp2_with fail
 go_loop [10] (fun i=>∃q:Nat,q<=n/\i=.int .i64 q/\Hid (∀i,i<q->elF S m i=true)) (fun i=>n-(intOf i).toNat)
 case atStart=>exact⟨0,Nat.zero_le _,rfl,fun i hi=>absurd hi (Nat.not_lt_zero _)⟩
 case round=>
  obtain⟨q,hq,rfl,HQ⟩:=hrel
  by_cases hlt:q<n
  ·
   obtain⟨b,off,rfl,_,hb,hc⟩:=HS.out (by omega)
   have c0:w.cell? (ad b (off+q))=some (.int .i64 (S q)):=by have :=hc q hlt 0 (by omega);rwa [Nat.mul_one] at this
   have HC:Hid (∀r,r<n->w.cell? (ad b (off+r))=some (.int .i64 (S r))):=fun r hr=>by have :=hc r hr 0 (by omega);rwa [Nat.mul_one] at this
   clear hc
   have hq0:(0:Int)<=(q:Int):=by omega
   have hqn:(q:Int)<(n:Int):=by omega
   go_wp2_with fail
   refine(in24 (S q) 0 (m-1) _).mono ?_
   rintro e w1 ⟨he,hw⟩
   have hw:=hw.symm
   subst hw
   cases hB:inB (S q) 0 (m-1) with
   |false=>
    rw[hB] at he
    subst he
    go_wp2_with fail
    go_ret
    exact⟨by rw[listF,allB_no hlt (by simp[elF,hB])];rfl,rfl⟩
   |true=>
    rw[hB] at he
    subst he
    go_wp2_with fail
    go_loop [7] (fun j=>∃r:Nat,r<=q/\j=.int .i64 r/\Hid (∀k,k<r->S k≠S q)) (fun j=>q-(intOf j).toNat)
    case atStart=>exact⟨0,Nat.zero_le _,rfl,fun i hi=>absurd hi (Nat.not_lt_zero _)⟩
    case round=>
     obtain⟨r,hr,rfl,HR⟩:=hrel
     by_cases hrq:r<q
     ·
      have c1:=HC.out r (by omega)
      have hr0:(0:Int)<=(r:Int):=by omega
      have hrn:(r:Int)<(n:Int):=by omega
      have hrq':(r:Int)<(q:Int):=by omega
      by_cases he:S r=S q
      ·
       go_wp2_with fail
       go_ret
       exact⟨by rw[listF,allB_no hlt (by simp only[elF,hB,Bool.true_and];exact allB_no hrq (by simp[he]))];rfl,rfl⟩
      ·
       have HR2:Hid (∀k,k<r+1->S k≠S q):=fun k hk=>by
        by_cases e:k=r
        ·
         subst e
         exact he
        ·
         exact HR.out k (by omega)
       go_wp2_with fail
       go_round
       case rel=>exact⟨r+1,by omega,by go_num,HR2⟩
       case measure=>simp[intOf];omega
     ·
      obtain rfl:r=q:=by omega
      have HQ2:Hid (∀i,i<r+1->elF S m i=true):=fun i hi=>by
       by_cases e:i=r
       ·
        subst e
        simp only[elF,hB,Bool.true_and]
        exact allB_iff.2 fun k hk=>by simpa using HR.out k hk
       ·
        exact HQ.out i (by omega)
      go_wp2_with fail
      go_round
      case rel=>exact⟨r+1,by omega,by go_num,HQ2⟩
      case measure=>simp[intOf];omega
  ·
   obtain rfl:q=n:=by omega
   have hA:allB (elF S m) q=true:=allB_iff.2 HQ.out
   by_cases h30:(q:Int)<=30
   ·
    go_wp2_with fail
    go_ret
    exact⟨by rw[listF,hA];simp;omega,rfl⟩
   ·
    go_wp2_with fail
    go_ret
    exact⟨by rw[listF,hA];simp;omega,rfl⟩
set_option maxHeartbeats 2000000 in
theorem meet26 (a a':Option Addr) (n m cap cap':Nat) (A B:Nat->Int) (w:World) (hn:n<=1048576) (hm:m<=1048576) (hA:VsAt 1 0 w a n (oneF A)) (hB:VsAt 1 0 w a' m (oneF B)):
  Calls Tryz.prog 102 #[.slice a n cap,.slice a' m cap'] w fun e w'=>e=.returned (.bool (meetF A n B m))/\w'=w:=by
 have HA:Hid (VsAt 1 0 w a n (oneF A)):=hA
 have HB:Hid (VsAt 1 0 w a' m (oneF B)):=hB
 clear hA hB
 go_enter Tryz.func102,Tryz.ntmps102
 go_wp2_with fail
 go_loop [11] (fun i=>∃q:Nat,q<=n/\i=.int .i64 q/\Hid (∀i,i<q->anyB (fun j=>decide (A i=B j)) m=false)) (fun i=>n-(intOf i).toNat)
 case atStart=>exact⟨0,Nat.zero_le _,rfl,fun i hi=>absurd hi (Nat.not_lt_zero _)⟩
 case round=>
  obtain⟨q,hq,rfl,HQ⟩:=hrel
  by_cases hlt:q<n
  ·
   obtain⟨b,off,rfl,_,hb,hc⟩:=HA.out (by omega)
   have c0:w.cell? (ad b (off+q))=some (.int .i64 (A q)):=by have :=hc q hlt 0 (by omega);rwa [Nat.mul_one] at this
   clear hc
   have hq0:(0:Int)<=(q:Int):=by omega
   have hqn:(q:Int)<(n:Int):=by omega
   go_wp2_with fail
   go_loop [17] (fun j=>∃r:Nat,r<=m/\j=.int .i64 r/\Hid (∀k,k<r->A q≠B k)) (fun j=>m-(intOf j).toNat)
   case atStart=>exact⟨0,Nat.zero_le _,rfl,fun i hi=>absurd hi (Nat.not_lt_zero _)⟩
   case round=>
    obtain⟨r,hr,rfl,HR⟩:=hrel
    by_cases hrm:r<m
    ·
     obtain⟨b',off',rfl,_,hb',hc'⟩:=HB.out (by omega)
     have c1:w.cell? (ad b' (off'+r))=some (.int .i64 (B r)):=by have :=hc' r hrm 0 (by omega);rwa [Nat.mul_one] at this
     clear hc'
     have hr0:(0:Int)<=(r:Int):=by omega
     have hrn:(r:Int)<(m:Int):=by omega
     by_cases he:A q=B r
     ·
      go_wp2_with fail
      go_ret
      have hM:meetF A n B m=true:=anyB_yes (f:=fun i=>anyB (fun j=>decide (A i=B j)) m) hlt (anyB_yes (f:=fun j=>decide (A q=B j)) hrm (by simp[he]))
      exact⟨by rw[hM];rfl,rfl⟩
     ·
      have HR2:Hid (∀k,k<r+1->A q≠B k):=fun k hk=>by
       by_cases e:k=r
       ·
        subst e
        exact he
       ·
        exact HR.out k (by omega)
      go_wp2_with fail
      go_round
      case rel=>exact⟨r+1,by omega,by go_num,HR2⟩
      case measure=>simp[intOf];omega
    ·
     obtain rfl:r=m:=by omega
     have HQ2:Hid (∀i,i<q+1->anyB (fun j=>decide (A i=B j)) r=false):=fun i hi=>by
      by_cases e:i=q
      ·
       subst e
       exact anyB_no fun k hk=>by simpa using HR.out k hk
      ·
       exact HQ.out i (by omega)
     go_wp2_with fail
     go_round
     case rel=>exact⟨q+1,by omega,by go_num,HQ2⟩
     case measure=>simp[intOf];omega
  ·
   obtain rfl:q=n:=by omega
   go_wp2_with fail
   go_ret
   exact⟨by rw[meetF,anyB_no HQ.out];rfl,rfl⟩
structure Chg (hb lo hi r:Nat) (w w':World):Prop where
 os:w'.os=w.os
 tape:w'.tape=w.tape
 output:w'.output=w.output
 size:w.heap.size<=w'.heap.size
 other:∀k,k<w.heap.size->k≠hb->k≠r->w'.heap[k]?=w.heap[k]?
 cell:∀o,(o<lo\/hi<=o)->w'.cell? (ad hb o)=w.cell? (ad hb o)
 frozen:∀o,w'.frozen? (ad hb o)=w.frozen? (ad hb o)
theorem Chg.refl (hb lo hi r:Nat) (w:World):Chg hb lo hi r w w:=⟨rfl,rfl,rfl,Nat.le_refl _,fun _ _ _ _=>rfl,fun _ _=>rfl,fun _=>rfl⟩
theorem Chg.trans {hb lo hi r:Nat}{a b c:World}(h:Chg hb lo hi r a b) (k:Chg hb lo hi r b c):Chg hb lo hi r a c:=
 ⟨k.os.trans h.os,k.tape.trans h.tape,k.output.trans h.output,Nat.le_trans h.size k.size,fun i hi h1 h2=>(k.other i (Nat.lt_of_lt_of_le hi h.size) h1 h2).trans (h.other i hi h1 h2),fun o ho=>(k.cell o ho).trans (h.cell o ho),fun o=>(k.frozen o).trans (h.frozen o)⟩
theorem Chg.set {hb lo hi r:Nat}{a w:World}(h:Chg hb lo hi r a w) {o:Nat}(h1:lo<=o) (h2:o<hi) (v:Value):Chg hb lo hi r a (w.setCell (ad hb o) v):=
 ⟨h.os,h.tape,h.output,by rw[size_setc];exact h.size,fun k hk h3 h4=>(Below.heap_setCell _ _ _ _ h3).trans (h.other k hk h3 h4),
  fun o' ho=>(cset_ne _ _ _ _ _ _ (by omega)).trans (h.cell o' ho),fun o'=>(World.frozen?_setCell _ _ _ _).trans (h.frozen o')⟩
theorem Chg.row {hb lo hi r:Nat}{a w:World}(h:Chg hb lo hi r a w) (hr:r≠hb) (o:Nat) (v:Value):Chg hb lo hi r a (w.setCell (ad r o) v):=
 ⟨h.os,h.tape,h.output,by rw[size_setc];exact h.size,fun k hk h3 h4=>(Below.heap_setCell _ _ _ _ h4).trans (h.other k hk h3 h4),
  fun o' ho=>(World.cell?_of_block (a:=(ad hb o')) (Below.heap_setCell _ _ _ _ (Ne.symm hr))).trans (h.cell o' ho),fun o'=>(World.frozen?_setCell _ _ _ _).trans (h.frozen o')⟩
theorem Chg.alloc {hb lo hi r:Nat}{a w:World}(h:Chg hb lo hi r a w) (hl:hb<w.heap.size) (o:Obj):Chg hb lo hi r a (w.alloc o):=
 ⟨h.os,h.tape,h.output,by simp only[World.size_alloc];have :=h.size;omega,fun k hk h3 h4=>(Below.heap_alloc _ _ _ (Nat.lt_of_lt_of_le hk h.size)).trans (h.other k hk h3 h4),
  fun o' ho=>(World.cell?_of_block (a:=(ad hb o')) (Below.heap_alloc _ _ _ hl)).trans (h.cell o' ho),fun o'=>(World.frozen?_of_block (a:=(ad hb o')) (Below.heap_alloc _ _ _ hl)).trans (h.frozen o')⟩
theorem Chg.drewN {hb lo hi r:Nat}{a w:World}(h:Chg hb lo hi r a w) (v:Nat):Chg hb lo hi r a (w.drewN v):=⟨h.os,h.tape,h.output,h.size,h.other,h.cell,h.frozen⟩
theorem mk0_bool (n:Nat):∀i,i<n->(mk0 (.bool false) n)[i]?=some (.bool false):=fun i hi=>by
 simp[mk0,madeCells,Value.cells,hi,Nat.mod_one]
structure HAt (w:World) (hb ho:Nat) (h:Hl) (r rc:Nat):Prop where
 lt:hb<w.heap.size
 ne:r≠hb
 c0:w.cell? (ad hb ho)=some (.int .i64 h.st)
 c1:w.cell? (ad hb (ho+1))=some (.int .i64 h.gone)
 c2:w.cell? (ad hb (ho+2))=some (.slice (some (ad r 0)) h.nb rc)
 c3:w.cell? (ad hb (ho+3))=some (.bool h.shown)
 c4:w.cell? (ad hb (ho+4))=some (.int .i64 h.timer)
 fr:∀j,j<5->w.frozen? (ad hb (ho+j))=false
 rl:r<w.heap.size
 row:∀k,k<h.nb->w.cell? (ad r k)=some (.bool (h.B k))/\w.frozen? (ad r k)=false
set_option maxRecDepth 100000 in
set_option maxHeartbeats 4000000 in
theorem idle54 (hb ho:Nat) (h:Hl) (r rc:Nat) (w:World) (hn:h.nb<=1048576) (hh:HAt w hb ho h r rc):
  Calls Tryz.prog 54 #[.pointer (some (ad hb ho))] w fun e w'=>e=.returned (.tuple #[])/\HAt w' hb ho ⟨0,0,h.nb,fun _=>false,false,0⟩ w.heap.size h.nb/\Chg hb ho (ho+5) r w w':=by
 obtain⟨l,ne,c0,c1,c2,c3,c4,fr,rl,row⟩:=hh
 have hmk:=make_rows (P:=Tryz.prog) 27 4 _ 1 1 Tryz.underlying27 infoBool h.nb (by omega) (by omega)
 simp only[Nat.mul_one] at hmk
 have k:=fun o=>World.cell?_of_block (w:=w) (w':=w.alloc (.cells (mk0 (.bool false) h.nb) 4)) (a:=(ad hb o)) (Below.heap_alloc _ _ _ l)
 have kf:=fun o=>World.frozen?_of_block (w:=w) (w':=w.alloc (.cells (mk0 (.bool false) h.nb) 4)) (a:=(ad hb o)) (Below.heap_alloc _ _ _ l)
 have d0:=(k ho).trans c0
 have d1:=(k (ho+1)).trans c1
 have d2:=(k (ho+2)).trans c2
 have d3:=(k (ho+3)).trans c3
 have d4:=(k (ho+4)).trans c4
 have f0:=(kf ho).trans (fr 0 (by omega))
 have f1:=(kf (ho+1)).trans (fr 1 (by omega))
 have f2:=(kf (ho+2)).trans (fr 2 (by omega))
 have f3:=(kf (ho+3)).trans (fr 3 (by omega))
 have f4:=(kf (ho+4)).trans (fr 4 (by omega))
 have HN:Hid (Box (w.alloc (.cells (mk0 (.bool false) h.nb) 4)) w.heap.size 4 (mk0 (.bool false) h.nb)/\Chg hb ho (ho+5) r w (w.alloc (.cells (mk0 (.bool false) h.nb) 4))/\∀j,j<5->(w.alloc (.cells (mk0 (.bool false) h.nb) 4)).frozen? (ad hb (ho+j))=false):=⟨Box.new _ _ _,(Chg.refl _ _ _ _ _).alloc l _,fun j hj=>(kf _).trans (fr j hj)⟩
 have g0:w.frozen? (ad hb ho)=false:=fr 0 (by omega)
 have g1:w.frozen? (ad hb (ho+1))=false:=fr 1 (by omega)
 have g2:w.frozen? (ad hb (ho+2))=false:=fr 2 (by omega)
 have g3:w.frozen? (ad hb (ho+3))=false:=fr 3 (by omega)
 have g4:w.frozen? (ad hb (ho+4))=false:=fr 4 (by omega)
 have HFR:Hid (∀j,j<5->w.frozen? (ad hb (ho+j))=false):=fr
 clear k kf fr row
 have HP:Hid (HAt ((((((w.setCell (ad hb ho) (.int .i64 0)).setCell (ad hb (ho+1)) (.int .i64 0)).setCell (ad hb (ho+2)) (.slice (some (ad w.heap.size 0)) h.nb h.nb)).setCell (ad hb (ho+3)) (.bool false)).setCell (ad hb (ho+4)) (.int .i64 0)).alloc (.cells (mk0 (.bool false) h.nb) 4)) hb ho ⟨0,0,h.nb,fun _=>false,false,0⟩ w.heap.size h.nb/\Chg hb ho (ho+5) r w ((((((w.setCell (ad hb ho) (.int .i64 0)).setCell (ad hb (ho+1)) (.int .i64 0)).setCell (ad hb (ho+2)) (.slice (some (ad w.heap.size 0)) h.nb h.nb)).setCell (ad hb (ho+3)) (.bool false)).setCell (ad hb (ho+4)) (.int .i64 0)).alloc (.cells (mk0 (.bool false) h.nb) 4))):=by
  have hC:Chg hb ho (ho+5) r w ((((((w.setCell (ad hb ho) (.int .i64 0)).setCell (ad hb (ho+1)) (.int .i64 0)).setCell (ad hb (ho+2)) (.slice (some (ad w.heap.size 0)) h.nb h.nb)).setCell (ad hb (ho+3)) (.bool false)).setCell (ad hb (ho+4)) (.int .i64 0)).alloc (.cells (mk0 (.bool false) h.nb) 4)):=((((((Chg.refl hb ho (ho+5) r w).set (by omega) (by omega) _).set (by omega) (by omega) _).set (by omega) (by omega) _).set (by omega) (by omega) _).set (by omega) (by omega) _).alloc (by simp only[size_setc];exact l) _
  have hk:∀o,((((((w.setCell (ad hb ho) (.int .i64 0)).setCell (ad hb (ho+1)) (.int .i64 0)).setCell (ad hb (ho+2)) (.slice (some (ad w.heap.size 0)) h.nb h.nb)).setCell (ad hb (ho+3)) (.bool false)).setCell (ad hb (ho+4)) (.int .i64 0)).alloc (.cells (mk0 (.bool false) h.nb) 4)).cell? (ad hb o)=(((((w.setCell (ad hb ho) (.int .i64 0)).setCell (ad hb (ho+1)) (.int .i64 0)).setCell (ad hb (ho+2)) (.slice (some (ad w.heap.size 0)) h.nb h.nb)).setCell (ad hb (ho+3)) (.bool false)).setCell (ad hb (ho+4)) (.int .i64 0)).cell? (ad hb o):=fun o=>World.cell?_of_block (a:=(ad hb o)) (Below.heap_alloc _ _ _ (by simp only[size_setc];exact l))
  have hbx:Box ((((((w.setCell (ad hb ho) (.int .i64 0)).setCell (ad hb (ho+1)) (.int .i64 0)).setCell (ad hb (ho+2)) (.slice (some (ad w.heap.size 0)) h.nb h.nb)).setCell (ad hb (ho+3)) (.bool false)).setCell (ad hb (ho+4)) (.int .i64 0)).alloc (.cells (mk0 (.bool false) h.nb) 4)) w.heap.size 4 (mk0 (.bool false) h.nb):=by
   have :=Box.new (((((w.setCell (ad hb ho) (.int .i64 0)).setCell (ad hb (ho+1)) (.int .i64 0)).setCell (ad hb (ho+2)) (.slice (some (ad w.heap.size 0)) h.nb h.nb)).setCell (ad hb (ho+3)) (.bool false)).setCell (ad hb (ho+4)) (.int .i64 0)) 4 (mk0 (.bool false) h.nb)
   simpa only[size_setc] using this
  have hsz:((((((w.setCell (ad hb ho) (.int .i64 0)).setCell (ad hb (ho+1)) (.int .i64 0)).setCell (ad hb (ho+2)) (.slice (some (ad w.heap.size 0)) h.nb h.nb)).setCell (ad hb (ho+3)) (.bool false)).setCell (ad hb (ho+4)) (.int .i64 0)).alloc (.cells (mk0 (.bool false) h.nb) 4)).heap.size=w.heap.size+1:=by simp only[World.size_alloc,size_setc]
  refine⟨⟨by omega,by omega,?_,?_,?_,?_,?_,fun j hj=>(hC.frozen _).trans (HFR.out j hj),by omega,fun k hk'=>⟨?_,hbx.free k⟩⟩,hC⟩
  ·
   rw[hk,cset_ne _ _ _ _ _ _ (by omega),cset_ne _ _ _ _ _ _ (by omega),cset_ne _ _ _ _ _ _ (by omega),cset_ne _ _ _ _ _ _ (by omega)]
   exact cset_same c0
  ·
   rw[hk,cset_ne _ _ _ _ _ _ (by omega),cset_ne _ _ _ _ _ _ (by omega),cset_ne _ _ _ _ _ _ (by omega)]
   exact cset_same ((cset_ne _ _ _ _ _ _ (by omega)).trans c1)
  ·
   rw[hk,cset_ne _ _ _ _ _ _ (by omega),cset_ne _ _ _ _ _ _ (by omega)]
   exact cset_same ((cset_ne _ _ _ _ _ _ (by omega)).trans ((cset_ne _ _ _ _ _ _ (by omega)).trans c2))
  ·
   rw[hk,cset_ne _ _ _ _ _ _ (by omega)]
   exact cset_same ((cset_ne _ _ _ _ _ _ (by omega)).trans ((cset_ne _ _ _ _ _ _ (by omega)).trans ((cset_ne _ _ _ _ _ _ (by omega)).trans c3)))
  ·
   rw[hk]
   exact cset_same ((cset_ne _ _ _ _ _ _ (by omega)).trans ((cset_ne _ _ _ _ _ _ (by omega)).trans ((cset_ne _ _ _ _ _ _ (by omega)).trans ((cset_ne _ _ _ _ _ _ (by omega)).trans c4))))
  ·
   rw[hbx.cell]
   exact mk0_bool h.nb k hk'
 go_enter Tryz.func54,Tryz.ntmps54
 go_wp2_with(rw[hmk])
 exact bodyPost_end (v:=.tuple #[]) (by simp[results,Tryz.results54,go_sem]) rfl ⟨rfl,HP.out⟩
theorem HAt.congr {w:World}{hb ho:Nat}{h k:Hl}{r rc:Nat}(x:HAt w hb ho h r rc) (e:likeH h k):HAt w hb ho k r rc:=by
 obtain⟨e0,e1,e2,e3,e4,e5⟩:=e
 exact⟨x.lt,x.ne,by rw[<-e0];exact x.c0,by rw[<-e1];exact x.c1,by rw[<-e2];exact x.c2,by rw[<-e4];exact x.c3,by rw[<-e5];exact x.c4,x.fr,x.rl,fun j hj=>by rw[<-e3 j (by omega)];exact x.row j (by omega)⟩
theorem HAt.mono {w w':World}{hb ho:Nat}{h:Hl}{r rc:Nat}(x:HAt w hb ho h r rc) (hB:Below w.heap.size w w'):HAt w' hb ho h r rc:=by
 have k:=fun o=>World.cell?_of_block (w:=w) (w':=w') (a:=(ad hb o)) (hB.block hb x.lt)
 have kf:=fun o=>World.frozen?_of_block (w:=w) (w':=w') (a:=(ad hb o)) (hB.block hb x.lt)
 have k2:=fun o=>World.cell?_of_block (w:=w) (w':=w') (a:=(ad r o)) (hB.block r x.rl)
 have kf2:=fun o=>World.frozen?_of_block (w:=w) (w':=w') (a:=(ad r o)) (hB.block r x.rl)
 exact⟨Nat.lt_of_lt_of_le x.lt hB.size,x.ne,(k _).trans x.c0,(k _).trans x.c1,(k _).trans x.c2,(k _).trans x.c3,(k _).trans x.c4,fun j hj=>(kf _).trans (x.fr j hj),Nat.lt_of_lt_of_le x.rl hB.size,fun j hj=>⟨(k2 _).trans (x.row j hj).1,(kf2 _).trans (x.row j hj).2⟩⟩
theorem HAt.drewN {w:World}{hb ho:Nat}{h:Hl}{r rc:Nat}(x:HAt w hb ho h r rc) (v:Nat):HAt (w.drewN v) hb ho h r rc:=⟨x.lt,x.ne,x.c0,x.c1,x.c2,x.c3,x.c4,x.fr,x.rl,x.row⟩
theorem HAt.setRow {w:World}{hb ho:Nat}{h:Hl}{r rc:Nat}(x:HAt w hb ho h r rc) {k:Nat}(hk:k<h.nb) (v:Bool):HAt (w.setCell (ad r k) (.bool v)) hb ho ⟨h.st,h.gone,h.nb,fun j=>if j=k then v else h.B j,h.shown,h.timer⟩ r rc:=by
 have e:=fun o=>World.cell?_of_block (w:=w) (w':=w.setCell (ad r k) (.bool v)) (a:=(ad hb o)) (Below.heap_setCell w (ad r k) (.bool v) hb (Ne.symm x.ne))
 refine⟨by rw[size_setc];exact x.lt,x.ne,(e _).trans x.c0,(e _).trans x.c1,(e _).trans x.c2,(e _).trans x.c3,(e _).trans x.c4,fun j hj=>(World.frozen?_setCell _ _ _ _).trans (x.fr j hj),by rw[size_setc];exact x.rl,fun j hj=>⟨?_,(World.frozen?_setCell _ _ _ _).trans (x.row j hj).2⟩⟩
 by_cases c:j=k
 ·
  subst c
  simp only[if_true]
  exact cset_same (x.row j hk).1
 ·
  simp only[c,if_false]
  exact(cset_ne _ _ _ _ _ _ (by omega)).trans (x.row j hj).1
theorem HAt.setSt {w:World}{hb ho:Nat}{h:Hl}{r rc:Nat}(x:HAt w hb ho h r rc) (v:Int):HAt (w.setCell (ad hb ho) (.int .i64 v)) hb ho ⟨v,h.gone,h.nb,h.B,h.shown,h.timer⟩ r rc:=by
 have e:=fun o=>World.cell?_of_block (w:=w) (w':=w.setCell (ad hb ho) (.int .i64 v)) (a:=(ad r o)) (Below.heap_setCell w (ad hb ho) (.int .i64 v) r x.ne)
 exact⟨by rw[size_setc];exact x.lt,x.ne,cset_same x.c0,(cset_ne _ _ _ _ _ _ (by omega)).trans x.c1,(cset_ne _ _ _ _ _ _ (by omega)).trans x.c2,(cset_ne _ _ _ _ _ _ (by omega)).trans x.c3,(cset_ne _ _ _ _ _ _ (by omega)).trans x.c4,fun j hj=>(World.frozen?_setCell _ _ _ _).trans (x.fr j hj),by rw[size_setc];exact x.rl,fun j hj=>⟨(e _).trans (x.row j hj).1,(World.frozen?_setCell _ _ _ _).trans (x.row j hj).2⟩⟩
theorem HAt.setGone {w:World}{hb ho:Nat}{h:Hl}{r rc:Nat}(x:HAt w hb ho h r rc) (v:Int):HAt (w.setCell (ad hb (ho+1)) (.int .i64 v)) hb ho ⟨h.st,v,h.nb,h.B,h.shown,h.timer⟩ r rc:=by
 have e:=fun o=>World.cell?_of_block (w:=w) (w':=w.setCell (ad hb (ho+1)) (.int .i64 v)) (a:=(ad r o)) (Below.heap_setCell w (ad hb (ho+1)) (.int .i64 v) r x.ne)
 exact⟨by rw[size_setc];exact x.lt,x.ne,(cset_ne _ _ _ _ _ _ (by omega)).trans x.c0,cset_same x.c1,(cset_ne _ _ _ _ _ _ (by omega)).trans x.c2,(cset_ne _ _ _ _ _ _ (by omega)).trans x.c3,(cset_ne _ _ _ _ _ _ (by omega)).trans x.c4,fun j hj=>(World.frozen?_setCell _ _ _ _).trans (x.fr j hj),by rw[size_setc];exact x.rl,fun j hj=>⟨(e _).trans (x.row j hj).1,(World.frozen?_setCell _ _ _ _).trans (x.row j hj).2⟩⟩
theorem HAt.setShown {w:World}{hb ho:Nat}{h:Hl}{r rc:Nat}(x:HAt w hb ho h r rc) (v:Bool):HAt (w.setCell (ad hb (ho+3)) (.bool v)) hb ho ⟨h.st,h.gone,h.nb,h.B,v,h.timer⟩ r rc:=by
 have e:=fun o=>World.cell?_of_block (w:=w) (w':=w.setCell (ad hb (ho+3)) (.bool v)) (a:=(ad r o)) (Below.heap_setCell w (ad hb (ho+3)) (.bool v) r x.ne)
 exact⟨by rw[size_setc];exact x.lt,x.ne,(cset_ne _ _ _ _ _ _ (by omega)).trans x.c0,(cset_ne _ _ _ _ _ _ (by omega)).trans x.c1,(cset_ne _ _ _ _ _ _ (by omega)).trans x.c2,cset_same x.c3,(cset_ne _ _ _ _ _ _ (by omega)).trans x.c4,fun j hj=>(World.frozen?_setCell _ _ _ _).trans (x.fr j hj),by rw[size_setc];exact x.rl,fun j hj=>⟨(e _).trans (x.row j hj).1,(World.frozen?_setCell _ _ _ _).trans (x.row j hj).2⟩⟩
theorem HAt.setTimer {w:World}{hb ho:Nat}{h:Hl}{r rc:Nat}(x:HAt w hb ho h r rc) (v:Int):HAt (w.setCell (ad hb (ho+4)) (.int .i64 v)) hb ho ⟨h.st,h.gone,h.nb,h.B,h.shown,v⟩ r rc:=by
 have e:=fun o=>World.cell?_of_block (w:=w) (w':=w.setCell (ad hb (ho+4)) (.int .i64 v)) (a:=(ad r o)) (Below.heap_setCell w (ad hb (ho+4)) (.int .i64 v) r x.ne)
 exact⟨by rw[size_setc];exact x.lt,x.ne,(cset_ne _ _ _ _ _ _ (by omega)).trans x.c0,(cset_ne _ _ _ _ _ _ (by omega)).trans x.c1,(cset_ne _ _ _ _ _ _ (by omega)).trans x.c2,(cset_ne _ _ _ _ _ _ (by omega)).trans x.c3,cset_same x.c4,fun j hj=>(World.frozen?_setCell _ _ _ _).trans (x.fr j hj),by rw[size_setc];exact x.rl,fun j hj=>⟨(e _).trans (x.row j hj).1,(World.frozen?_setCell _ _ _ _).trans (x.row j hj).2⟩⟩
theorem passN_step {n:Nat}{B O:Nat->Bool}{q:Nat}(k:Nat) (h:stopB n B O q=false):passN n B O (k+1) q=passN n B O k (q+1):=by
 rw[passN,if_pos]
 simp only[stopB,Bool.not_eq_false',Bool.and_eq_true,decide_eq_true_eq,Bool.or_eq_true,Bool.not_eq_true'] at h
 exact h
theorem passN_end (n:Nat) (B O:Nat->Bool) (k:Nat):passN n B O k n=n:=passN_stop k (by simp[stopB])
end Go.Proofs.YtkeilejbelblcaaGreatDoor
