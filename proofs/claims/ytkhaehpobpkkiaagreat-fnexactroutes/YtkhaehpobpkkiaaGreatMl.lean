import Derived.Test.YtkhaehpobpkkiaaGreatBa
namespace Go.Proofs.YtkhaehpobpkkiaaGreat
open Go.RowKit
structure Within (b lo hi:Nat)(w w':World):Prop where
 os:w'.os=w.os
 tape:w'.tape=w.tape
 output:w'.output=w.output
 size:w'.heap.size=w.heap.size
 other:∀ k,k≠b→w'.heap[k]?=w.heap[k]?
 cell:∀ o,(o<lo∨hi≤o)→w'.cell? ⟨b,o,none⟩=w.cell? ⟨b,o,none⟩
 frozen:∀ o,w'.frozen? ⟨b,o,none⟩=w.frozen? ⟨b,o,none⟩
theorem Within.refl (b lo hi:Nat)(w:World):Within b lo hi w w:=⟨rfl,rfl,rfl,rfl,fun _ _=>rfl,fun _ _=>rfl,fun _=>rfl⟩
theorem Within.set {b lo hi:Nat}{a w:World}(h:Within b lo hi a w){o:Nat}(h1:lo≤o)(h2:o<hi)(v:Value):Within b lo hi a (w.setCell ⟨b,o,none⟩ v):=
 ⟨h.os,h.tape,h.output,by rw [← h.size];simp [World.setCell],fun k hk=>(Below.heap_setCell _ _ _ _ hk).trans (h.other k hk),
  fun o' ho=>(cset_ne _ _ _ _ _ _ (by omega)).trans (h.cell o' ho),fun o'=>(World.frozen?_setCell _ _ _ _).trans (h.frozen o')⟩
theorem Within.below {b lo hi:Nat}{w w':World}(h:Within b lo hi w w'):Below b w w':=
 ⟨h.os,h.tape,h.output,by rw [h.size];exact Nat.le_refl _,fun k hk=>h.other k (by omega)⟩
set_option maxHeartbeats 2000000 in
theorem markStepS52 (a:Option Addr)(n cap k b off:Nat)(w:World)(hn:n≤1048576)(hk:k≤1152921504606846976)(ha:0<n→a=some ⟨b,off,none⟩)
 (hw:∀ o,off≤o→o<off+n*2→(∃ v,w.cell? ⟨b,o,none⟩=some v)∧w.frozen? ⟨b,o,none⟩=false):
 Calls Tryz.prog 39 #[.slice a n cap,.int .i64 k] w fun e w'=>e=.returned (.int .i64 ((k+n*2:Nat):Int))∧Within b off (off+n*2) w w'∧∀ i,i<n→∀ j,j<2→w'.cell? ⟨b,off+i*2+j,none⟩=some (.int .i64 ((k+i*2+j:Nat):Int)):=by
 have Hw:Hid (∀ o,off≤o→o<off+n*2→(∃ v,w.cell? ⟨b,o,none⟩=some v)∧w.frozen? ⟨b,o,none⟩=false):=hw
 clear hw
 go_enter Tryz.func39,Tryz.ntmps39
 go_wp2_with fail
 go_loopw [1,5] (fun m i wr=>∃ q:Nat,q≤n∧i=.int .i64 q∧m=.int .i64 ((k+q*2:Nat):Int)∧Hid (∀ o,off+q*2≤o→wr.cell? ⟨b,o,none⟩=w.cell? ⟨b,o,none⟩)∧
  Hid (∀ i,i<q→∀ j,j<2→wr.cell? ⟨b,off+i*2+j,none⟩=some (.int .i64 ((k+i*2+j:Nat):Int)))∧Within b off (off+n*2) w wr) (fun _ i _=>n-(intOf i).toNat)
 case atStart=>exact ⟨0,Nat.zero_le _,rfl,by simp,fun _ _=>rfl,fun i hi=>absurd hi (Nat.not_lt_zero _),Within.refl _ _ _ _⟩
 case round=>
  obtain ⟨q,hq,rfl,rfl,hsame0,hmk,hW⟩:=hrel
  by_cases hlt:q<n
  ·obtain rfl:=ha (by omega)
   have hsame:=hsame0.out
   have d0':=hsame (off+q*2) (by omega)
   obtain ⟨v0,hv0⟩:=(Hw.out (off+q*2) (by omega) (by omega)).1
   have d0:wr.cell? ⟨b,off+q*2,none⟩=some v0:=d0'.trans hv0
   have e0:wr.frozen? ⟨b,off+q*2,none⟩=false:=(hW.frozen _).trans (Hw.out (off+q*2) (by omega) (by omega)).2
   have d1':=hsame (off+q*2+1) (by omega)
   obtain ⟨v1,hv1⟩:=(Hw.out (off+q*2+1) (by omega) (by omega)).1
   have d1:wr.cell? ⟨b,off+q*2+1,none⟩=some v1:=d1'.trans hv1
   have e1:wr.frozen? ⟨b,off+q*2+1,none⟩=false:=(hW.frozen _).trans (Hw.out (off+q*2+1) (by omega) (by omega)).2
   have HW:Hid (Within b off (off+n*2) w wr):=hW
   clear hsame hW d0' hv0 d1' hv1
   go_wp2_with fail
   go_roundw
   case rel=>
    refine ⟨q+1,by omega,by go_num,by go_num,fun o ho=>?_,fun i hi j hj=>?_,((HW.out).set (by omega) (by omega) _).set (by omega) (by omega) _⟩
    ·rw [cset_ne _ _ _ _ _ _ (by omega)];rw [cset_ne _ _ _ _ _ _ (by omega)];exact hsame0.out o (by omega)
    ·by_cases e:i=q
     ·subst e
      rcases (show j=0∨j=1 by omega) with rfl | rfl
      ·rw [cset_ne _ _ _ _ _ _ (by omega)];simp only [Nat.add_zero];rw [cset_same (u:=v0) d0];simp
      ·rw [cset_same (u:=v1) (by rw [cset_ne _ _ _ _ _ _ (by omega)];exact d1)];simp [Int.add_assoc]
     ·rw [cset_ne _ _ _ _ _ _ (by omega)];rw [cset_ne _ _ _ _ _ _ (by omega)];exact hmk.out i (by omega) j hj
   case measure=>simp [intOf];omega
  ·obtain rfl:q=n:=by omega
   go_wp2_with fail
   go_ret
   exact ⟨rfl,hW,hmk.out⟩
set_option maxHeartbeats 2000000 in
theorem markLieS53 (a:Option Addr)(n cap k b off:Nat)(w:World)(hn:n≤1048576)(hk:k≤1152921504606846976)(ha:0<n→a=some ⟨b,off,none⟩)
 (hw:∀ o,off≤o→o<off+n*2→(∃ v,w.cell? ⟨b,o,none⟩=some v)∧w.frozen? ⟨b,o,none⟩=false):
 Calls Tryz.prog 40 #[.slice a n cap,.int .i64 k] w fun e w'=>e=.returned (.int .i64 ((k+n*2:Nat):Int))∧Within b off (off+n*2) w w'∧∀ i,i<n→∀ j,j<2→w'.cell? ⟨b,off+i*2+j,none⟩=some (.int .i64 ((k+i*2+j:Nat):Int)):=by
 have Hw:Hid (∀ o,off≤o→o<off+n*2→(∃ v,w.cell? ⟨b,o,none⟩=some v)∧w.frozen? ⟨b,o,none⟩=false):=hw
 clear hw
 go_enter Tryz.func40,Tryz.ntmps40
 go_wp2_with fail
 go_loopw [1,5] (fun m i wr=>∃ q:Nat,q≤n∧i=.int .i64 q∧m=.int .i64 ((k+q*2:Nat):Int)∧Hid (∀ o,off+q*2≤o→wr.cell? ⟨b,o,none⟩=w.cell? ⟨b,o,none⟩)∧
  Hid (∀ i,i<q→∀ j,j<2→wr.cell? ⟨b,off+i*2+j,none⟩=some (.int .i64 ((k+i*2+j:Nat):Int)))∧Within b off (off+n*2) w wr) (fun _ i _=>n-(intOf i).toNat)
 case atStart=>exact ⟨0,Nat.zero_le _,rfl,by simp,fun _ _=>rfl,fun i hi=>absurd hi (Nat.not_lt_zero _),Within.refl _ _ _ _⟩
 case round=>
  obtain ⟨q,hq,rfl,rfl,hsame0,hmk,hW⟩:=hrel
  by_cases hlt:q<n
  ·obtain rfl:=ha (by omega)
   have hsame:=hsame0.out
   have d0':=hsame (off+q*2) (by omega)
   obtain ⟨v0,hv0⟩:=(Hw.out (off+q*2) (by omega) (by omega)).1
   have d0:wr.cell? ⟨b,off+q*2,none⟩=some v0:=d0'.trans hv0
   have e0:wr.frozen? ⟨b,off+q*2,none⟩=false:=(hW.frozen _).trans (Hw.out (off+q*2) (by omega) (by omega)).2
   have d1':=hsame (off+q*2+1) (by omega)
   obtain ⟨v1,hv1⟩:=(Hw.out (off+q*2+1) (by omega) (by omega)).1
   have d1:wr.cell? ⟨b,off+q*2+1,none⟩=some v1:=d1'.trans hv1
   have e1:wr.frozen? ⟨b,off+q*2+1,none⟩=false:=(hW.frozen _).trans (Hw.out (off+q*2+1) (by omega) (by omega)).2
   have HW:Hid (Within b off (off+n*2) w wr):=hW
   clear hsame hW d0' hv0 d1' hv1
   go_wp2_with fail
   go_roundw
   case rel=>
    refine ⟨q+1,by omega,by go_num,by go_num,fun o ho=>?_,fun i hi j hj=>?_,((HW.out).set (by omega) (by omega) _).set (by omega) (by omega) _⟩
    ·rw [cset_ne _ _ _ _ _ _ (by omega)];rw [cset_ne _ _ _ _ _ _ (by omega)];exact hsame0.out o (by omega)
    ·by_cases e:i=q
     ·subst e
      rcases (show j=0∨j=1 by omega) with rfl | rfl
      ·rw [cset_ne _ _ _ _ _ _ (by omega)];simp only [Nat.add_zero];rw [cset_same (u:=v0) d0];simp
      ·rw [cset_same (u:=v1) (by rw [cset_ne _ _ _ _ _ _ (by omega)];exact d1)];simp [Int.add_assoc]
     ·rw [cset_ne _ _ _ _ _ _ (by omega)];rw [cset_ne _ _ _ _ _ _ (by omega)];exact hmk.out i (by omega) j hj
   case measure=>simp [intOf];omega
  ·obtain rfl:q=n:=by omega
   go_wp2_with fail
   go_ret
   exact ⟨rfl,hW,hmk.out⟩
set_option maxHeartbeats 2000000 in
theorem markIntS54 (a:Option Addr)(n cap k b off:Nat)(w:World)(hn:n≤1048576)(hk:k≤1152921504606846976)(ha:0<n→a=some ⟨b,off,none⟩)
 (hw:∀ o,off≤o→o<off+n*1→(∃ v,w.cell? ⟨b,o,none⟩=some v)∧w.frozen? ⟨b,o,none⟩=false):
 Calls Tryz.prog 41 #[.slice a n cap,.int .i64 k] w fun e w'=>e=.returned (.int .i64 ((k+n*1:Nat):Int))∧Within b off (off+n*1) w w'∧∀ i,i<n→∀ j,j<1→w'.cell? ⟨b,off+i*1+j,none⟩=some (.int .i64 ((k+i*1+j:Nat):Int)):=by
 have Hw:Hid (∀ o,off≤o→o<off+n*1→(∃ v,w.cell? ⟨b,o,none⟩=some v)∧w.frozen? ⟨b,o,none⟩=false):=hw
 clear hw
 go_enter Tryz.func41,Tryz.ntmps41
 go_wp2_with fail
 go_loopw [1,5] (fun m i wr=>∃ q:Nat,q≤n∧i=.int .i64 q∧m=.int .i64 ((k+q*1:Nat):Int)∧Hid (∀ o,off+q*1≤o→wr.cell? ⟨b,o,none⟩=w.cell? ⟨b,o,none⟩)∧
  Hid (∀ i,i<q→∀ j,j<1→wr.cell? ⟨b,off+i*1+j,none⟩=some (.int .i64 ((k+i*1+j:Nat):Int)))∧Within b off (off+n*1) w wr) (fun _ i _=>n-(intOf i).toNat)
 case atStart=>exact ⟨0,Nat.zero_le _,rfl,by simp,fun _ _=>rfl,fun i hi=>absurd hi (Nat.not_lt_zero _),Within.refl _ _ _ _⟩
 case round=>
  obtain ⟨q,hq,rfl,rfl,hsame0,hmk,hW⟩:=hrel
  by_cases hlt:q<n
  ·obtain rfl:=ha (by omega)
   have hsame:=hsame0.out
   have d0':=hsame (off+q) (by omega)
   obtain ⟨v0,hv0⟩:=(Hw.out (off+q) (by omega) (by omega)).1
   have d0:wr.cell? ⟨b,off+q,none⟩=some v0:=d0'.trans hv0
   have e0:wr.frozen? ⟨b,off+q,none⟩=false:=(hW.frozen _).trans (Hw.out (off+q) (by omega) (by omega)).2
   have HW:Hid (Within b off (off+n*1) w wr):=hW
   clear hsame hW d0' hv0
   go_wp2_with fail
   go_roundw
   case rel=>
    refine ⟨q+1,by omega,by go_num,by go_num,fun o ho=>?_,fun i hi j hj=>?_,(HW.out).set (by omega) (by omega) _⟩
    ·rw [cset_ne _ _ _ _ _ _ (by omega)];exact hsame0.out o (by omega)
    ·by_cases e:i=q
     ·subst e
      obtain rfl:j=0:=by omega
      rw [show off+i*1+0=off+i by omega,cset_same d0]
      simp
     ·rw [cset_ne _ _ _ _ _ _ (by omega)];exact hmk.out i (by omega) j hj
   case measure=>simp [intOf];omega
  ·obtain rfl:q=n:=by omega
   go_wp2_with fail
   go_ret
   exact ⟨rfl,hW,hmk.out⟩
set_option maxHeartbeats 2000000 in
theorem markPartS55 (a:Option Addr)(n cap k b off:Nat)(w:World)(hn:n≤1048576)(hk:k≤1152921504606846976)(ha:0<n→a=some ⟨b,off,none⟩)
 (hw:∀ o,off≤o→o<off+n*3→(∃ v,w.cell? ⟨b,o,none⟩=some v)∧w.frozen? ⟨b,o,none⟩=false):
 Calls Tryz.prog 42 #[.slice a n cap,.int .i64 k] w fun e w'=>e=.returned (.int .i64 ((k+n*3:Nat):Int))∧Within b off (off+n*3) w w'∧∀ i,i<n→∀ j,j<3→w'.cell? ⟨b,off+i*3+j,none⟩=some (.int .i64 ((k+i*3+j:Nat):Int)):=by
 have Hw:Hid (∀ o,off≤o→o<off+n*3→(∃ v,w.cell? ⟨b,o,none⟩=some v)∧w.frozen? ⟨b,o,none⟩=false):=hw
 clear hw
 go_enter Tryz.func42,Tryz.ntmps42
 go_wp2_with fail
 go_loopw [1,5] (fun m i wr=>∃ q:Nat,q≤n∧i=.int .i64 q∧m=.int .i64 ((k+q*3:Nat):Int)∧Hid (∀ o,off+q*3≤o→wr.cell? ⟨b,o,none⟩=w.cell? ⟨b,o,none⟩)∧
  Hid (∀ i,i<q→∀ j,j<3→wr.cell? ⟨b,off+i*3+j,none⟩=some (.int .i64 ((k+i*3+j:Nat):Int)))∧Within b off (off+n*3) w wr) (fun _ i _=>n-(intOf i).toNat)
 case atStart=>exact ⟨0,Nat.zero_le _,rfl,by simp,fun _ _=>rfl,fun i hi=>absurd hi (Nat.not_lt_zero _),Within.refl _ _ _ _⟩
 case round=>
  obtain ⟨q,hq,rfl,rfl,hsame0,hmk,hW⟩:=hrel
  by_cases hlt:q<n
  ·obtain rfl:=ha (by omega)
   have hsame:=hsame0.out
   have d0':=hsame (off+q*3) (by omega)
   obtain ⟨v0,hv0⟩:=(Hw.out (off+q*3) (by omega) (by omega)).1
   have d0:wr.cell? ⟨b,off+q*3,none⟩=some v0:=d0'.trans hv0
   have e0:wr.frozen? ⟨b,off+q*3,none⟩=false:=(hW.frozen _).trans (Hw.out (off+q*3) (by omega) (by omega)).2
   have d1':=hsame (off+q*3+1) (by omega)
   obtain ⟨v1,hv1⟩:=(Hw.out (off+q*3+1) (by omega) (by omega)).1
   have d1:wr.cell? ⟨b,off+q*3+1,none⟩=some v1:=d1'.trans hv1
   have e1:wr.frozen? ⟨b,off+q*3+1,none⟩=false:=(hW.frozen _).trans (Hw.out (off+q*3+1) (by omega) (by omega)).2
   have d2':=hsame (off+q*3+2) (by omega)
   obtain ⟨v2,hv2⟩:=(Hw.out (off+q*3+2) (by omega) (by omega)).1
   have d2:wr.cell? ⟨b,off+q*3+2,none⟩=some v2:=d2'.trans hv2
   have e2:wr.frozen? ⟨b,off+q*3+2,none⟩=false:=(hW.frozen _).trans (Hw.out (off+q*3+2) (by omega) (by omega)).2
   have HW:Hid (Within b off (off+n*3) w wr):=hW
   clear hsame hW d0' hv0 d1' hv1 d2' hv2
   go_wp2_with fail
   go_roundw
   case rel=>
    refine ⟨q+1,by omega,by go_num,by go_num,fun o ho=>?_,fun i hi j hj=>?_,(((HW.out).set (by omega) (by omega) _).set (by omega) (by omega) _).set (by omega) (by omega) _⟩
    ·rw [cset_ne _ _ _ _ _ _ (by omega)];rw [cset_ne _ _ _ _ _ _ (by omega)];rw [cset_ne _ _ _ _ _ _ (by omega)];exact hsame0.out o (by omega)
    ·by_cases e:i=q
     ·subst e
      rcases (show j=0∨j=1∨j=2 by omega) with rfl | rfl | rfl
      ·rw [cset_ne _ _ _ _ _ _ (by omega)];rw [cset_ne _ _ _ _ _ _ (by omega)];simp only [Nat.add_zero];rw [cset_same (u:=v0) d0];simp
      ·rw [cset_ne _ _ _ _ _ _ (by omega)];rw [cset_same (u:=v1) (by rw [cset_ne _ _ _ _ _ _ (by omega)];exact d1)];simp [Int.add_assoc]
      ·rw [cset_same (u:=v2) (by rw [cset_ne _ _ _ _ _ _ (by omega)];rw [cset_ne _ _ _ _ _ _ (by omega)];exact d2)];simp [Int.add_assoc]
     ·rw [cset_ne _ _ _ _ _ _ (by omega)];rw [cset_ne _ _ _ _ _ _ (by omega)];rw [cset_ne _ _ _ _ _ _ (by omega)];exact hmk.out i (by omega) j hj
   case measure=>simp [intOf];omega
  ·obtain rfl:q=n:=by omega
   go_wp2_with fail
   go_ret
   exact ⟨rfl,hW,hmk.out⟩
set_option maxHeartbeats 2000000 in
theorem markFlankS56 (a:Option Addr)(n cap k b off:Nat)(w:World)(hn:n≤1048576)(hk:k≤1152921504606846976)(ha:0<n→a=some ⟨b,off,none⟩)
 (hw:∀ o,off≤o→o<off+n*4→(∃ v,w.cell? ⟨b,o,none⟩=some v)∧w.frozen? ⟨b,o,none⟩=false):
 Calls Tryz.prog 43 #[.slice a n cap,.int .i64 k] w fun e w'=>e=.returned (.int .i64 ((k+n*4:Nat):Int))∧Within b off (off+n*4) w w'∧∀ i,i<n→∀ j,j<4→w'.cell? ⟨b,off+i*4+j,none⟩=some (.int .i64 ((k+i*4+j:Nat):Int)):=by
 have Hw:Hid (∀ o,off≤o→o<off+n*4→(∃ v,w.cell? ⟨b,o,none⟩=some v)∧w.frozen? ⟨b,o,none⟩=false):=hw
 clear hw
 go_enter Tryz.func43,Tryz.ntmps43
 go_wp2_with fail
 go_loopw [1,5] (fun m i wr=>∃ q:Nat,q≤n∧i=.int .i64 q∧m=.int .i64 ((k+q*4:Nat):Int)∧Hid (∀ o,off+q*4≤o→wr.cell? ⟨b,o,none⟩=w.cell? ⟨b,o,none⟩)∧
  Hid (∀ i,i<q→∀ j,j<4→wr.cell? ⟨b,off+i*4+j,none⟩=some (.int .i64 ((k+i*4+j:Nat):Int)))∧Within b off (off+n*4) w wr) (fun _ i _=>n-(intOf i).toNat)
 case atStart=>exact ⟨0,Nat.zero_le _,rfl,by simp,fun _ _=>rfl,fun i hi=>absurd hi (Nat.not_lt_zero _),Within.refl _ _ _ _⟩
 case round=>
  obtain ⟨q,hq,rfl,rfl,hsame0,hmk,hW⟩:=hrel
  by_cases hlt:q<n
  ·obtain rfl:=ha (by omega)
   have hsame:=hsame0.out
   have d0':=hsame (off+q*4) (by omega)
   obtain ⟨v0,hv0⟩:=(Hw.out (off+q*4) (by omega) (by omega)).1
   have d0:wr.cell? ⟨b,off+q*4,none⟩=some v0:=d0'.trans hv0
   have e0:wr.frozen? ⟨b,off+q*4,none⟩=false:=(hW.frozen _).trans (Hw.out (off+q*4) (by omega) (by omega)).2
   have d1':=hsame (off+q*4+1) (by omega)
   obtain ⟨v1,hv1⟩:=(Hw.out (off+q*4+1) (by omega) (by omega)).1
   have d1:wr.cell? ⟨b,off+q*4+1,none⟩=some v1:=d1'.trans hv1
   have e1:wr.frozen? ⟨b,off+q*4+1,none⟩=false:=(hW.frozen _).trans (Hw.out (off+q*4+1) (by omega) (by omega)).2
   have d2':=hsame (off+q*4+2) (by omega)
   obtain ⟨v2,hv2⟩:=(Hw.out (off+q*4+2) (by omega) (by omega)).1
   have d2:wr.cell? ⟨b,off+q*4+2,none⟩=some v2:=d2'.trans hv2
   have e2:wr.frozen? ⟨b,off+q*4+2,none⟩=false:=(hW.frozen _).trans (Hw.out (off+q*4+2) (by omega) (by omega)).2
   have d3':=hsame (off+q*4+3) (by omega)
   obtain ⟨v3,hv3⟩:=(Hw.out (off+q*4+3) (by omega) (by omega)).1
   have d3:wr.cell? ⟨b,off+q*4+3,none⟩=some v3:=d3'.trans hv3
   have e3:wr.frozen? ⟨b,off+q*4+3,none⟩=false:=(hW.frozen _).trans (Hw.out (off+q*4+3) (by omega) (by omega)).2
   have HW:Hid (Within b off (off+n*4) w wr):=hW
   clear hsame hW d0' hv0 d1' hv1 d2' hv2 d3' hv3
   go_wp2_with fail
   go_roundw
   case rel=>
    refine ⟨q+1,by omega,by go_num,by go_num,fun o ho=>?_,fun i hi j hj=>?_,((((HW.out).set (by omega) (by omega) _).set (by omega) (by omega) _).set (by omega) (by omega) _).set (by omega) (by omega) _⟩
    ·rw [cset_ne _ _ _ _ _ _ (by omega)];rw [cset_ne _ _ _ _ _ _ (by omega)];rw [cset_ne _ _ _ _ _ _ (by omega)];rw [cset_ne _ _ _ _ _ _ (by omega)];exact hsame0.out o (by omega)
    ·by_cases e:i=q
     ·subst e
      rcases (show j=0∨j=1∨j=2∨j=3 by omega) with rfl | rfl | rfl | rfl
      ·rw [cset_ne _ _ _ _ _ _ (by omega)];rw [cset_ne _ _ _ _ _ _ (by omega)];rw [cset_ne _ _ _ _ _ _ (by omega)];simp only [Nat.add_zero];rw [cset_same (u:=v0) d0];simp
      ·rw [cset_ne _ _ _ _ _ _ (by omega)];rw [cset_ne _ _ _ _ _ _ (by omega)];rw [cset_same (u:=v1) (by rw [cset_ne _ _ _ _ _ _ (by omega)];exact d1)];simp [Int.add_assoc]
      ·rw [cset_ne _ _ _ _ _ _ (by omega)];rw [cset_same (u:=v2) (by rw [cset_ne _ _ _ _ _ _ (by omega)];rw [cset_ne _ _ _ _ _ _ (by omega)];exact d2)];simp [Int.add_assoc]
      ·rw [cset_same (u:=v3) (by rw [cset_ne _ _ _ _ _ _ (by omega)];rw [cset_ne _ _ _ _ _ _ (by omega)];rw [cset_ne _ _ _ _ _ _ (by omega)];exact d3)];simp [Int.add_assoc]
     ·rw [cset_ne _ _ _ _ _ _ (by omega)];rw [cset_ne _ _ _ _ _ _ (by omega)];rw [cset_ne _ _ _ _ _ _ (by omega)];rw [cset_ne _ _ _ _ _ _ (by omega)];exact hmk.out i (by omega) j hj
   case measure=>simp [intOf];omega
  ·obtain rfl:q=n:=by omega
   go_wp2_with fail
   go_ret
   exact ⟨rfl,hW,hmk.out⟩
set_option maxHeartbeats 1000000 in
theorem heldStepS57 (a:Option Addr)(n cap k b off:Nat)(w:World)(hn:n≤1048576)(hk:k≤1152921504606846976)(ha:0<n→a=some ⟨b,off,none⟩)
 (hm:∀ i,i<n→∀ j,j<2→w.cell? ⟨b,off+i*2+j,none⟩=some (.int .i64 ((k+i*2+j:Nat):Int))):
 Calls Tryz.prog 44 #[.slice a n cap,.int .i64 k] w fun e w'=>e=.returned (.int .i64 ((k+n*2:Nat):Int))∧w'=w:=by
 have Hm:Hid (∀ i,i<n→∀ j,j<2→w.cell? ⟨b,off+i*2+j,none⟩=some (.int .i64 ((k+i*2+j:Nat):Int))):=hm
 clear hm
 go_enter Tryz.func44,Tryz.ntmps44
 go_wp2_with fail
 go_loop [1,5] (fun m i=>∃ q:Nat,q≤n∧i=.int .i64 q∧m=.int .i64 ((k+q*2:Nat):Int)) (fun _ i=>n-(intOf i).toNat)
 case atStart=>exact ⟨0,Nat.zero_le _,rfl,by simp⟩
 case round=>
  obtain ⟨q,hq,rfl,rfl⟩:=hrel
  by_cases hlt:q<n
  ·obtain rfl:=ha (by omega)
   have d0:w.cell? ⟨b,off+q*2,none⟩=some (.int .i64 ((k+q*2+0:Nat):Int)):=Hm.out q hlt 0 (by omega)
   have d1:w.cell? ⟨b,off+q*2+1,none⟩=some (.int .i64 ((k+q*2+1:Nat):Int)):=Hm.out q hlt 1 (by omega)
   go_wp2_with fail
   go_round
   case rel=>exact ⟨q+1,by omega,by go_num,by go_num⟩
   case measure=>simp [intOf];omega
  ·obtain rfl:q=n:=by omega
   go_wp2_with fail
   go_ret
   exact ⟨rfl,rfl⟩
set_option maxHeartbeats 1000000 in
theorem heldLieS58 (a:Option Addr)(n cap k b off:Nat)(w:World)(hn:n≤1048576)(hk:k≤1152921504606846976)(ha:0<n→a=some ⟨b,off,none⟩)
 (hm:∀ i,i<n→∀ j,j<2→w.cell? ⟨b,off+i*2+j,none⟩=some (.int .i64 ((k+i*2+j:Nat):Int))):
 Calls Tryz.prog 45 #[.slice a n cap,.int .i64 k] w fun e w'=>e=.returned (.int .i64 ((k+n*2:Nat):Int))∧w'=w:=by
 have Hm:Hid (∀ i,i<n→∀ j,j<2→w.cell? ⟨b,off+i*2+j,none⟩=some (.int .i64 ((k+i*2+j:Nat):Int))):=hm
 clear hm
 go_enter Tryz.func45,Tryz.ntmps45
 go_wp2_with fail
 go_loop [1,5] (fun m i=>∃ q:Nat,q≤n∧i=.int .i64 q∧m=.int .i64 ((k+q*2:Nat):Int)) (fun _ i=>n-(intOf i).toNat)
 case atStart=>exact ⟨0,Nat.zero_le _,rfl,by simp⟩
 case round=>
  obtain ⟨q,hq,rfl,rfl⟩:=hrel
  by_cases hlt:q<n
  ·obtain rfl:=ha (by omega)
   have d0:w.cell? ⟨b,off+q*2,none⟩=some (.int .i64 ((k+q*2+0:Nat):Int)):=Hm.out q hlt 0 (by omega)
   have d1:w.cell? ⟨b,off+q*2+1,none⟩=some (.int .i64 ((k+q*2+1:Nat):Int)):=Hm.out q hlt 1 (by omega)
   go_wp2_with fail
   go_round
   case rel=>exact ⟨q+1,by omega,by go_num,by go_num⟩
   case measure=>simp [intOf];omega
  ·obtain rfl:q=n:=by omega
   go_wp2_with fail
   go_ret
   exact ⟨rfl,rfl⟩
set_option maxHeartbeats 1000000 in
theorem heldIntS59 (a:Option Addr)(n cap k b off:Nat)(w:World)(hn:n≤1048576)(hk:k≤1152921504606846976)(ha:0<n→a=some ⟨b,off,none⟩)
 (hm:∀ i,i<n→∀ j,j<1→w.cell? ⟨b,off+i*1+j,none⟩=some (.int .i64 ((k+i*1+j:Nat):Int))):
 Calls Tryz.prog 46 #[.slice a n cap,.int .i64 k] w fun e w'=>e=.returned (.int .i64 ((k+n*1:Nat):Int))∧w'=w:=by
 have Hm:Hid (∀ i,i<n→∀ j,j<1→w.cell? ⟨b,off+i*1+j,none⟩=some (.int .i64 ((k+i*1+j:Nat):Int))):=hm
 clear hm
 go_enter Tryz.func46,Tryz.ntmps46
 go_wp2_with fail
 go_loop [1,5] (fun m i=>∃ q:Nat,q≤n∧i=.int .i64 q∧m=.int .i64 ((k+q*1:Nat):Int)) (fun _ i=>n-(intOf i).toNat)
 case atStart=>exact ⟨0,Nat.zero_le _,rfl,by simp⟩
 case round=>
  obtain ⟨q,hq,rfl,rfl⟩:=hrel
  by_cases hlt:q<n
  ·obtain rfl:=ha (by omega)
   have d0:w.cell? ⟨b,off+q,none⟩=some (.int .i64 ((k+q:Nat):Int)):=by have:=Hm.out q hlt 0 (by omega);simpa using this
   go_wp2_with fail
   go_round
   case rel=>exact ⟨q+1,by omega,by go_num,by go_num⟩
   case measure=>simp [intOf];omega
  ·obtain rfl:q=n:=by omega
   go_wp2_with fail
   go_ret
   exact ⟨rfl,rfl⟩
set_option maxHeartbeats 1000000 in
theorem heldPartS60 (a:Option Addr)(n cap k b off:Nat)(w:World)(hn:n≤1048576)(hk:k≤1152921504606846976)(ha:0<n→a=some ⟨b,off,none⟩)
 (hm:∀ i,i<n→∀ j,j<3→w.cell? ⟨b,off+i*3+j,none⟩=some (.int .i64 ((k+i*3+j:Nat):Int))):
 Calls Tryz.prog 47 #[.slice a n cap,.int .i64 k] w fun e w'=>e=.returned (.int .i64 ((k+n*3:Nat):Int))∧w'=w:=by
 have Hm:Hid (∀ i,i<n→∀ j,j<3→w.cell? ⟨b,off+i*3+j,none⟩=some (.int .i64 ((k+i*3+j:Nat):Int))):=hm
 clear hm
 go_enter Tryz.func47,Tryz.ntmps47
 go_wp2_with fail
 go_loop [1,5] (fun m i=>∃ q:Nat,q≤n∧i=.int .i64 q∧m=.int .i64 ((k+q*3:Nat):Int)) (fun _ i=>n-(intOf i).toNat)
 case atStart=>exact ⟨0,Nat.zero_le _,rfl,by simp⟩
 case round=>
  obtain ⟨q,hq,rfl,rfl⟩:=hrel
  by_cases hlt:q<n
  ·obtain rfl:=ha (by omega)
   have d0:w.cell? ⟨b,off+q*3,none⟩=some (.int .i64 ((k+q*3+0:Nat):Int)):=Hm.out q hlt 0 (by omega)
   have d1:w.cell? ⟨b,off+q*3+1,none⟩=some (.int .i64 ((k+q*3+1:Nat):Int)):=Hm.out q hlt 1 (by omega)
   have d2:w.cell? ⟨b,off+q*3+2,none⟩=some (.int .i64 ((k+q*3+2:Nat):Int)):=Hm.out q hlt 2 (by omega)
   go_wp2_with fail
   go_round
   case rel=>exact ⟨q+1,by omega,by go_num,by go_num⟩
   case measure=>simp [intOf];omega
  ·obtain rfl:q=n:=by omega
   go_wp2_with fail
   go_ret
   exact ⟨rfl,rfl⟩
set_option maxHeartbeats 1000000 in
theorem heldFlankS61 (a:Option Addr)(n cap k b off:Nat)(w:World)(hn:n≤1048576)(hk:k≤1152921504606846976)(ha:0<n→a=some ⟨b,off,none⟩)
 (hm:∀ i,i<n→∀ j,j<4→w.cell? ⟨b,off+i*4+j,none⟩=some (.int .i64 ((k+i*4+j:Nat):Int))):
 Calls Tryz.prog 48 #[.slice a n cap,.int .i64 k] w fun e w'=>e=.returned (.int .i64 ((k+n*4:Nat):Int))∧w'=w:=by
 have Hm:Hid (∀ i,i<n→∀ j,j<4→w.cell? ⟨b,off+i*4+j,none⟩=some (.int .i64 ((k+i*4+j:Nat):Int))):=hm
 clear hm
 go_enter Tryz.func48,Tryz.ntmps48
 go_wp2_with fail
 go_loop [1,5] (fun m i=>∃ q:Nat,q≤n∧i=.int .i64 q∧m=.int .i64 ((k+q*4:Nat):Int)) (fun _ i=>n-(intOf i).toNat)
 case atStart=>exact ⟨0,Nat.zero_le _,rfl,by simp⟩
 case round=>
  obtain ⟨q,hq,rfl,rfl⟩:=hrel
  by_cases hlt:q<n
  ·obtain rfl:=ha (by omega)
   have d0:w.cell? ⟨b,off+q*4,none⟩=some (.int .i64 ((k+q*4+0:Nat):Int)):=Hm.out q hlt 0 (by omega)
   have d1:w.cell? ⟨b,off+q*4+1,none⟩=some (.int .i64 ((k+q*4+1:Nat):Int)):=Hm.out q hlt 1 (by omega)
   have d2:w.cell? ⟨b,off+q*4+2,none⟩=some (.int .i64 ((k+q*4+2:Nat):Int)):=Hm.out q hlt 2 (by omega)
   have d3:w.cell? ⟨b,off+q*4+3,none⟩=some (.int .i64 ((k+q*4+3:Nat):Int)):=Hm.out q hlt 3 (by omega)
   go_wp2_with fail
   go_round
   case rel=>exact ⟨q+1,by omega,by go_num,by go_num⟩
   case measure=>simp [intOf];omega
  ·obtain rfl:q=n:=by omega
   go_wp2_with fail
   go_ret
   exact ⟨rfl,rfl⟩
end Go.Proofs.YtkhaehpobpkkiaaGreat
