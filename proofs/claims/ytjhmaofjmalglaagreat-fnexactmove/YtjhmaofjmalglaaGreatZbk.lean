import Derived.Test.YtjhmaofjmalglaaGreatZbh
import Derived.Deep.Slices
namespace Go.Proofs.YtjhmaofjmalglaaGreat
open Go.RowKit
theorem lr {n : Nat} : n ≤ n := Nat.le_refl n
theorem ltl {a b c:Nat}(h:a<b)(k:b≤c):a<c:=by omega
def oneB (z:Int):ByteArray:=strOfNums [z]
theorem oneB_size (z:Int):(oneB z).size=1:=by simp [oneB,strOfNums,ByteArray.size]
set_option maxRecDepth 100000 in
theorem conv1 (wr:World)(z:Int):(convert 193 9 (.slice (some ⟨wr.heap.size,0,none⟩) 1 1)).run Tryz.prog (wr.alloc (.cells #[.int .u8 z] 5))=.ok (.string (oneB z)) (wr.alloc (.cells #[.int .u8 z] 5)):=
 run_convert_bytes_arg (P:=Tryz.prog) (wr.alloc (.cells #[.int .u8 z] 5)) 193 5 Tryz.underlying193 Tryz.underlying5 wr.heap.size 0 1 1 [z] rfl (fun i hi=>by
  obtain rfl:i=0:=by omega
  simp) 9 Tryz.underlying9
set_option maxRecDepth 100000 in
set_option maxHeartbeats 1000000 in
theorem markText51 (k:Nat)(w:World)(hk:k≤4611686018427387904):
 Calls Tryz.prog 95 #[.int .i64 k] w fun e w'=>(∃ s:ByteArray,e=.returned (.string s))∧Below w.heap.size w w':=by
 by_cases h0:k=0
 ·subst h0
  go_enter Tryz.func95,Tryz.ntmps95
  go_wp2_with fail
  go_ret
  exact ⟨⟨_,rfl⟩,Below.refl _ _⟩
 ·have h1:(1:Int)≤(k:Int):=by omega
  have h1':decide ((k:Int)≤0)=false:=by simp;omega
  go_enter Tryz.func95,Tryz.ntmps95
  go_wp2_with fail
  go_loopw [0,3] (fun a o wr=>∃ (q:Nat) (s:ByteArray),s.size+q≤k∧a=.int .i64 q∧o=.string s∧Below w.heap.size w wr) (fun a _ _=>(intOf a).toNat)
  case atStart=>exact ⟨k,⟨#[]⟩,by simp [ByteArray.size],rfl,rfl,Below.refl _ _⟩
  case round=>
   obtain ⟨q,s,hq,rfl,rfl,hB⟩:=hrel
   by_cases hq0:q=0
   ·subst hq0
    go_wp2_with fail
    go_ret
    exact ⟨⟨_,rfl⟩,hB⟩
   ·have hq1:(0:Int)<(q:Int):=by omega
    have hcv:=conv1 wr (48+(q:Int) % 10)
    have hsz:=oneB_size (48+(q:Int) % 10)
    generalize oneB (48+(q:Int) % 10)=z at *
    go_wp2_with fail
    go_roundw
    case rel=>exact ⟨q / 10,z ++ s,by rw [ByteArray.size_append];omega,by go_num,rfl,hB.alloc hB.size _⟩
    case measure=>simp [intOf];omega
structure Amid (C D:Nat)(w w':World):Prop where
 os:w'.os=w.os
 tape:w'.tape=w.tape
 output:w'.output=w.output
 size:w.heap.size≤w'.heap.size
 block:∀ k,k<w.heap.size→(k<C∨D≤k)→w'.heap[k]?=w.heap[k]?
theorem Amid.refl (C D:Nat)(w:World):Amid C D w w:=⟨rfl,rfl,rfl,Nat.le_refl _,fun _ _ _=>rfl⟩
theorem Amid.trans {C D:Nat}{a b c:World}(h:Amid C D a b)(g:Amid C D b c):Amid C D a c:=
 ⟨g.os.trans h.os,g.tape.trans h.tape,g.output.trans h.output,Nat.le_trans h.size g.size,fun k hk hc=>(g.block k (ltl hk h.size) hc).trans (h.block k hk hc)⟩
theorem Amid.wide {C D C' D':Nat}{a b:World}(h:Amid C D a b)(hC:C'≤C)(hD:D≤D'):Amid C' D' a b:=
 ⟨h.os,h.tape,h.output,h.size,fun k hk hc=>h.block k hk (by omega)⟩
theorem Amid.ofBelow {C D:Nat}{a b:World}(h:Below a.heap.size a b):Amid C D a b:=
 ⟨h.os,h.tape,h.output,h.size,fun k hk _=>h.block k hk⟩
theorem Amid.setCell {C D:Nat}{a w:World}(h:Amid C D a w){p:Addr}(hC:C≤p.block)(hD:p.block<D)(v:Value):Amid C D a (w.setCell p v):=
 h.trans ⟨rfl,rfl,rfl,by simp [World.setCell],fun k _ hc=>Below.heap_setCell _ _ _ _ (by omega)⟩
theorem Amid.below {C D B:Nat}{a b:World}(h:Amid C D a b)(hB:B≤C)(hs:B≤a.heap.size):Below B a b:=
 ⟨h.os,h.tape,h.output,h.size,fun k hk=>h.block k (by omega) (by omega)⟩
theorem row_amid {C D:Nat}{w w':World}{b:Nat}{t:TypeId}{n:Nat}{f:Nat→Value}(h:w.rowIs b t n f)(ha:Amid C D w w')(hb:b<C∨D≤b):w'.rowIs b t n f:=
 h.of_block (ha.block b h.lt hb)
set_option maxHeartbeats 1000000 in
theorem markEndS87 (B n k:Nat)(w:World)(hn:n≤1048576)(hk:k≤1152921504606846976)(hr:∃ f,w.rowIs B 76 (n*2) f):
 Calls Tryz.prog 96 #[.slice (some ⟨B,0,none⟩) n n,.int .i64 k] w fun e w'=>e=.returned (.int .i64 ((k+n*2:Nat):Int))∧Amid B (B+1) w w'∧∃ f,w'.rowIs B 76 (n*2) f:=by
 go_enter Tryz.func96,Tryz.ntmps96
 go_wp2_with fail
 go_loopw [1,5] (fun c i wr=>∃ q:Nat,q≤n∧i=.int .i64 q∧c=.int .i64 ((k+q*2:Nat):Int)∧(∃ f,wr.rowIs B 76 (n*2) f)∧Amid B (B+1) w wr) (fun _ i _=>n-(intOf i).toNat)
 case atStart=>exact ⟨0,Nat.zero_le _,rfl,by simp,hr,Amid.refl _ _ _⟩
 case round=>
  obtain ⟨q,hq,rfl,rfl,hrow,hA⟩:=hrel
  clear hr
  by_cases hlt:q<n
  ·obtain ⟨f,hrow⟩:=hrow
   have d0:=hrow.cell (i:=q*2) (by omega)
   have d1:=hrow.cell (i:=q*2+1) (by omega)
   have e0:=hrow.frozen (q*2)
   have e1:=hrow.frozen (q*2+1)
   have HR:Hid (wr.rowIs B 76 (n*2) f):=hrow
   clear hrow
   go_wp2_with fail
   go_roundw
   case rel=>exact ⟨q+1,by omega,by go_num,by go_num,⟨_,(HR.out.set _ _).set _ _⟩,(hA.setCell lr (Nat.lt_succ_self _) _).setCell lr (Nat.lt_succ_self _) _⟩
   case measure=>simp [intOf];omega
  ·obtain rfl:q=n:=by omega
   go_wp2_with fail
   go_ret
   exact ⟨rfl,hA,hrow⟩
set_option maxHeartbeats 1000000 in
theorem markPieceS49 (B n k:Nat)(w:World)(hn:n≤1048576)(hk:k≤1152921504606846976)(hr:∃ f,w.rowIs B 82 (n*4) f):
 Calls Tryz.prog 51 #[.slice (some ⟨B,0,none⟩) n n,.int .i64 k] w fun e w'=>e=.returned (.int .i64 ((k+n*4:Nat):Int))∧Amid B (B+1) w w'∧∃ f,w'.rowIs B 82 (n*4) f:=by
 go_enter Tryz.func51,Tryz.ntmps51
 go_wp2_with fail
 go_loopw [1,5] (fun c i wr=>∃ q:Nat,q≤n∧i=.int .i64 q∧c=.int .i64 ((k+q*4:Nat):Int)∧(∃ f,wr.rowIs B 82 (n*4) f)∧Amid B (B+1) w wr) (fun _ i _=>n-(intOf i).toNat)
 case atStart=>exact ⟨0,Nat.zero_le _,rfl,by simp,hr,Amid.refl _ _ _⟩
 case round=>
  obtain ⟨q,hq,rfl,rfl,hrow,hA⟩:=hrel
  clear hr
  by_cases hlt:q<n
  ·obtain ⟨f,hrow⟩:=hrow
   have HR0:Hid (wr.rowIs B 82 (n*4) f):=hrow
   clear hrow
   go_wp2_with fail
   refine (markText51 (k+q*4) _ (by omega)).mono ?_
   rintro e w1 ⟨⟨s,rfl⟩,hb1⟩
   have hrow:=rowBel HR0.out hb1 HR0.out.lt
   have hA1:=hA.trans (Amid.ofBelow hb1)
   have d0:=hrow.cell (i:=q*4) (by omega)
   have d1:=hrow.cell (i:=q*4+1) (by omega)
   have d2:=hrow.cell (i:=q*4+2) (by omega)
   have d3:=hrow.cell (i:=q*4+3) (by omega)
   have e0:=hrow.frozen (q*4)
   have e1:=hrow.frozen (q*4+1)
   have e2:=hrow.frozen (q*4+2)
   have e3:=hrow.frozen (q*4+3)
   have HR:Hid (w1.rowIs B 82 (n*4) f):=hrow
   clear hrow hA hb1 HR0
   go_wp2_with fail
   go_roundw
   case rel=>exact ⟨q+1,by omega,by go_num,by go_num,⟨_,(((HR.out.set _ _).set _ _).set _ _).set _ _⟩,(((hA1.setCell lr (Nat.lt_succ_self _) _).setCell lr (Nat.lt_succ_self _) _).setCell lr (Nat.lt_succ_self _) _).setCell lr (Nat.lt_succ_self _) _⟩
   case measure=>simp [intOf];omega
  ·obtain rfl:q=n:=by omega
   go_wp2_with fail
   go_ret
   exact ⟨rfl,hA,hrow⟩
def JsSh (w:World)(B D n:Nat)(N bs:Nat→Nat):Prop:=
 ∃ f,w.rowIs B 132 (n*3) f∧∀ j,j<n→f (j*3+2)=.slice (some ⟨bs j,0,none⟩) (N j) (N j)∧B<bs j∧bs j<D∧N j≤1048576∧∃ g,w.rowIs (bs j) 76 (N j*2) g
theorem JsSh.below {w w':World}{B D n:Nat}{N bs:Nat→Nat}(h:JsSh w B D n N bs)(hb:Below w.heap.size w w'):JsSh w' B D n N bs:=by
 obtain ⟨f,hr,hf⟩:=h
 refine ⟨f,rowBel hr hb hr.lt,fun j hj=>?_⟩
 obtain ⟨h1,h2,h3,h4,g,hg⟩:=hf j hj
 exact ⟨h1,h2,h3,h4,g,rowBel hg hb hg.lt⟩
theorem JsSh.set {w:World}{B D n:Nat}{N bs:Nat→Nat}(h:JsSh w B D n N bs)(i o:Nat)(ho:o<2)(v:Value):JsSh (w.setCell ⟨B,i*3+o,none⟩ v) B D n N bs:=by
 obtain ⟨f,hr,hf⟩:=h
 refine ⟨_,hr.set _ _,fun j hj=>?_⟩
 obtain ⟨h1,h2,h3,h4,g,hg⟩:=hf j hj
 refine ⟨?_,h2,h3,h4,g,hg.setOther (a:=⟨B,i*3+o,none⟩) (by show bs j≠B;omega) v⟩
 rw [if_neg (by omega)]
 exact h1
theorem JsSh.amid {w w':World}{B D n:Nat}{N bs:Nat→Nat}{i:Nat}(h:JsSh w B D n N bs)(hi:i<n)(ha:Amid (bs i) (bs i+1) w w')(hg:∃ g,w'.rowIs (bs i) 76 (N i*2) g)(hsame:∀ j,j<n→bs j=bs i→N j=N i):JsSh w' B D n N bs:=by
 obtain ⟨f,hr,hf⟩:=h
 obtain ⟨_,hlt,_⟩:=hf i hi
 refine ⟨f,row_amid hr ha (by omega),fun j hj=>?_⟩
 obtain ⟨h1,h2,h3,h4,g,hgj⟩:=hf j hj
 refine ⟨h1,h2,h3,h4,?_⟩
 by_cases e:bs j=bs i
 ·rw [e,hsame j hj e];exact hg
 ·exact ⟨g,row_amid hgj ha (by omega)⟩
set_option maxHeartbeats 1000000 in
theorem markJointS50 (B D n k:Nat)(N bs:Nat→Nat)(w:World)(hn:n≤1048576)(hk:k≤1073741824)(hs:JsSh w B D n N bs)(hsame:∀ i j,i<n→j<n→bs j=bs i→N j=N i):
 Calls Tryz.prog 52 #[.slice (some ⟨B,0,none⟩) n n,.int .i64 k] w fun e w'=>∃ k':Nat,e=.returned (.int .i64 k')∧k'≤k+n*2097154∧Amid B D w w':=by
 have HS:Hid (∀ i j,i<n→j<n→bs j=bs i→N j=N i):=hsame
 clear hsame
 go_enter Tryz.func52,Tryz.ntmps52
 go_wp2_with fail
 go_loopw [1,5] (fun c i wr=>∃ q kk:Nat,q≤n∧i=.int .i64 q∧c=.int .i64 kk∧kk≤k+q*2097154∧JsSh wr B D n N bs∧Amid B D w wr) (fun _ i _=>n-(intOf i).toNat)
 case atStart=>exact ⟨0,k,Nat.zero_le _,rfl,rfl,by omega,hs,Amid.refl _ _ _⟩
 case round=>
  obtain ⟨q,kk,hq,rfl,rfl,hkk,hsh,hA⟩:=hrel
  clear hs
  by_cases hlt:q<n
  ·have hbD:B<D∧N q≤1048576:=by
    obtain ⟨f,_,hf⟩:=hsh
    obtain ⟨_,h2,h3,h4,_⟩:=hf q hlt
    omega
   have HSH:Hid (JsSh wr B D n N bs):=hsh
   obtain ⟨f,hrow,hf⟩:=hsh
   have d0:=hrow.cell (i:=q*3) (by omega)
   have d1:=hrow.cell (i:=q*3+1) (by omega)
   have e0:=hrow.frozen (q*3)
   have e1:=hrow.frozen (q*3+1)
   clear hrow hf
   go_wp2_with fail
   have HSH1:Hid (JsSh (wr.setCell ⟨B,q*3,none⟩ (.int .i64 kk)) B D n N bs):=HSH.out.set q 0 (by omega) _
   have HA1:Hid (Amid B D w (wr.setCell ⟨B,q*3,none⟩ (.int .i64 kk))):=hA.setCell lr hbD.1 _
   clear HSH hA d0 d1 e0 e1
   rw [show ((kk:Int)+1)=((kk+1:Nat):Int) by omega]
   refine (markText51 (kk+1) _ (by omega)).mono ?_
   rintro e w1 ⟨⟨s,rfl⟩,hb1⟩
   have HSH2:Hid (JsSh w1 B D n N bs):=HSH1.out.below hb1
   have HA2:Hid (Amid B D w w1):=HA1.out.trans (Amid.ofBelow hb1)
   obtain ⟨f,hrow,hf⟩:=HSH2.out
   have d1:=hrow.cell (i:=q*3+1) (by omega)
   have d2:=hrow.cell (i:=q*3+2) (by omega)
   rw [(hf q hlt).1] at d2
   have e1:=hrow.frozen (q*3+1)
   clear hrow hf hb1 HSH1 HA1
   go_wp2_with fail
   have HSH3:Hid (JsSh (w1.setCell ⟨B,q*3+1,none⟩ (.string s)) B D n N bs):=HSH2.out.set q 1 (by omega) _
   have HA3:Hid (Amid B D w (w1.setCell ⟨B,q*3+1,none⟩ (.string s))):=HA2.out.setCell lr hbD.1 _
   have hg:(∃ g,(w1.setCell ⟨B,q*3+1,none⟩ (.string s)).rowIs (bs q) 76 (N q*2) g)∧B<bs q∧bs q<D:=by
    obtain ⟨f,_,hf⟩:=HSH3.out
    obtain ⟨_,h2,h3,_,h4⟩:=hf q hlt
    exact ⟨h4,h2,h3⟩
   clear HSH2 HA2 d1 d2 e1
   rw [show ((kk:Int)+1+1)=((kk+2:Nat):Int) by omega]
   refine (markEndS87 (bs q) (N q) (kk+2) _ hbD.2 (by omega) hg.1).mono ?_
   rintro e w2 ⟨rfl,ha2,hg2⟩
   have HSH4:Hid (JsSh w2 B D n N bs):=HSH3.out.amid hlt ha2 hg2 (fun j hj=>HS.out q j hlt hj)
   have HA4:Hid (Amid B D w w2):=HA3.out.trans (ha2.wide (by omega) (by omega))
   clear HSH3 HA3 hg ha2 hg2
   go_wp2_with fail
   go_roundw
   case rel=>exact ⟨q+1,kk+2+N q*2,by omega,by go_num,by go_num,by omega,HSH4.out,HA4.out⟩
   case measure=>simp [intOf];omega
  ·obtain rfl:q=n:=by omega
   go_wp2_with fail
   go_ret
   exact ⟨kk,rfl,hkk,hA⟩
theorem row_size {w:World}{b:Nat}{t t':TypeId}{n n':Nat}{f f':Nat→Value}(h:w.rowIs b t n f)(h':w.rowIs b t' n' f'):n=n':=by
 obtain ⟨c,h1,h2,_⟩:=h
 obtain ⟨c',h1',h2',_⟩:=h'
 rw [h1] at h1'
 simp only [Option.some.injEq,Obj.cells.injEq] at h1'
 rw [← h2,← h2',h1'.1]
theorem JsTo.sh {w:World}{B n:Nat}{J:Nat→Jt}(h:JsTo w B n n J)(hne:∀ i,i<n→(J i).ne≤1048576):
 ∃ bs:Nat→Nat,JsSh w B w.heap.size n (fun j=>(J j).ne) bs∧∀ i j,i<n→j<n→bs j=bs i→(J j).ne=(J i).ne:=by
 obtain ⟨f,hr,hf⟩:=h
 obtain ⟨bs,hbs⟩:=Go.Deep.choose_lt (α:=Nat) (n:=n) (p:=fun j b'=>f (j*3+2)=.slice (some ⟨b',0,none⟩) (J j).ne (J j).ne∧B<b'∧EsTo w b' (J j).ne (J j).ne (J j).E) (fun j hj=>by
  obtain ⟨_,_,b',h3,h4,h5⟩:=hf j hj
  exact ⟨b',h3,h4,h5⟩)
 refine ⟨bs,⟨f,hr,fun j hj=>?_⟩,fun i j hi hj e=>?_⟩
 ·obtain ⟨h1,h2,h3⟩:=hbs j hj
  refine ⟨h1,h2,h3.lt,hne j hj,?_⟩
  obtain ⟨g,hg,_⟩:=h3
  exact ⟨g,hg⟩
 ·obtain ⟨_,_,g,hg,_⟩:=hbs i hi
  obtain ⟨_,_,g',hg',_⟩:=hbs j hj
  rw [e] at hg'
  have:=row_size hg hg'
  omega
theorem JsSh.amid2 {C D:Nat}{w w':World}{B D' n:Nat}{N bs:Nat→Nat}(h:JsSh w B D' n N bs)(ha:Amid C D w w')(hD:D≤B):JsSh w' B D' n N bs:=by
 obtain ⟨f,hr,hf⟩:=h
 refine ⟨f,row_amid hr ha (by omega),fun j hj=>?_⟩
 obtain ⟨h1,h2,h3,h4,g,hg⟩:=hf j hj
 exact ⟨h1,h2,h3,h4,g,row_amid hg ha (by omega)⟩
structure Within (b lo hi:Nat)(w w':World):Prop where
 os:w'.os=w.os
 tape:w'.tape=w.tape
 output:w'.output=w.output
 size:w'.heap.size=w.heap.size
 other:∀ k,k≠b→w'.heap[k]?=w.heap[k]?
 cell:∀ o,(o<lo∨hi≤o)→w'.cell? ⟨b,o,none⟩=w.cell? ⟨b,o,none⟩
 frozen:∀ o,w'.frozen? ⟨b,o,none⟩=w.frozen? ⟨b,o,none⟩
theorem Within.refl (b lo hi:Nat)(w:World):Within b lo hi w w:=⟨rfl,rfl,rfl,rfl,fun _ _=>rfl,fun _ _=>rfl,fun _=>rfl⟩
theorem Within.set {b lo hi:Nat}{a w:World}(h:Within b lo hi a w){o:Nat}(h1:lo≤o)(h2:o<hi)(v:Value):Within b lo hi a (w.setCell ⟨b,o,none⟩ v):=
 ⟨h.os,h.tape,h.output,by rw [← h.size];simp [World.setCell],fun k hk=>(Below.heap_setCell _ _ _ _ hk).trans (h.other k hk),
  fun o' ho=>(cset_ne _ _ _ _ _ _ (by omega)).trans (h.cell o' ho),fun o'=>(World.frozen?_setCell _ _ _ _).trans (h.frozen o')⟩
theorem Within.below {b lo hi:Nat}{w w':World}(h:Within b lo hi w w'):Below b w w':=
 ⟨h.os,h.tape,h.output,by rw [h.size];exact Nat.le_refl _,fun k hk=>h.other k (by omega)⟩
set_option maxHeartbeats 2000000 in
theorem markStepS52 (a:Option Addr)(n cap k b off:Nat)(w:World)(hn:n≤1048576)(hk:k≤1152921504606846976)(ha:0<n→a=some ⟨b,off,none⟩)
 (hw:∀ o,off≤o→o<off+n*2→(∃ v,w.cell? ⟨b,o,none⟩=some v)∧w.frozen? ⟨b,o,none⟩=false):
 Calls Tryz.prog 71 #[.slice a n cap,.int .i64 k] w fun e w'=>e=.returned (.int .i64 ((k+n*2:Nat):Int))∧Within b off (off+n*2) w w'∧∀ i,i<n→∀ j,j<2→w'.cell? ⟨b,off+i*2+j,none⟩=some (.int .i64 ((k+i*2+j:Nat):Int)):=by
 have Hw:Hid (∀ o,off≤o→o<off+n*2→(∃ v,w.cell? ⟨b,o,none⟩=some v)∧w.frozen? ⟨b,o,none⟩=false):=hw
 clear hw
 go_enter Tryz.func71,Tryz.ntmps71
 go_wp2_with fail
 go_loopw [1,5] (fun m i wr=>∃ q:Nat,q≤n∧i=.int .i64 q∧m=.int .i64 ((k+q*2:Nat):Int)∧Hid (∀ o,off+q*2≤o→wr.cell? ⟨b,o,none⟩=w.cell? ⟨b,o,none⟩)∧
  Hid (∀ i,i<q→∀ j,j<2→wr.cell? ⟨b,off+i*2+j,none⟩=some (.int .i64 ((k+i*2+j:Nat):Int)))∧Within b off (off+n*2) w wr) (fun _ i _=>n-(intOf i).toNat)
 case atStart=>exact ⟨0,Nat.zero_le _,rfl,by simp,fun _ _=>rfl,fun i hi=>absurd hi (Nat.not_lt_zero _),Within.refl _ _ _ _⟩
 case round=>
  obtain ⟨q,hq,rfl,rfl,hsame0,hmk,hW⟩:=hrel
  by_cases hlt:q<n
  ·obtain rfl:=ha (by omega)
   have hsame:=hsame0.out
   have d0':=hsame (off+q*2) (by omega)
   obtain ⟨v0,hv0⟩:=(Hw.out (off+q*2) (by omega) (by omega)).1
   have d0:wr.cell? ⟨b,off+q*2,none⟩=some v0:=d0'.trans hv0
   have e0:wr.frozen? ⟨b,off+q*2,none⟩=false:=(hW.frozen _).trans (Hw.out (off+q*2) (by omega) (by omega)).2
   have d1':=hsame (off+q*2+1) (by omega)
   obtain ⟨v1,hv1⟩:=(Hw.out (off+q*2+1) (by omega) (by omega)).1
   have d1:wr.cell? ⟨b,off+q*2+1,none⟩=some v1:=d1'.trans hv1
   have e1:wr.frozen? ⟨b,off+q*2+1,none⟩=false:=(hW.frozen _).trans (Hw.out (off+q*2+1) (by omega) (by omega)).2
   have HW:Hid (Within b off (off+n*2) w wr):=hW
   clear hsame hW d0' hv0 d1' hv1
   go_wp2_with fail
   go_roundw
   case rel=>
    refine ⟨q+1,by omega,by go_num,by go_num,fun o ho=>?_,fun i hi j hj=>?_,((HW.out).set (by omega) (by omega) _).set (by omega) (by omega) _⟩
    ·rw [cset_ne _ _ _ _ _ _ (by omega)];rw [cset_ne _ _ _ _ _ _ (by omega)];exact hsame0.out o (by omega)
    ·by_cases e:i=q
     ·subst e
      rcases (show j=0∨j=1 by omega) with rfl | rfl
      ·rw [cset_ne _ _ _ _ _ _ (by omega)];simp only [Nat.add_zero];rw [cset_same (u:=v0) d0];simp
      ·rw [cset_same (u:=v1) (by rw [cset_ne _ _ _ _ _ _ (by omega)];exact d1)];simp [Int.add_assoc]
     ·rw [cset_ne _ _ _ _ _ _ (by omega)];rw [cset_ne _ _ _ _ _ _ (by omega)];exact hmk.out i (by omega) j hj
   case measure=>simp [intOf];omega
  ·obtain rfl:q=n:=by omega
   go_wp2_with fail
   go_ret
   exact ⟨rfl,hW,hmk.out⟩
set_option maxHeartbeats 2000000 in
theorem markPartS55 (a:Option Addr)(n cap k b off:Nat)(w:World)(hn:n≤1048576)(hk:k≤1152921504606846976)(ha:0<n→a=some ⟨b,off,none⟩)
 (hw:∀ o,off≤o→o<off+n*3→(∃ v,w.cell? ⟨b,o,none⟩=some v)∧w.frozen? ⟨b,o,none⟩=false):
 Calls Tryz.prog 72 #[.slice a n cap,.int .i64 k] w fun e w'=>e=.returned (.int .i64 ((k+n*3:Nat):Int))∧Within b off (off+n*3) w w'∧∀ i,i<n→∀ j,j<3→w'.cell? ⟨b,off+i*3+j,none⟩=some (.int .i64 ((k+i*3+j:Nat):Int)):=by
 have Hw:Hid (∀ o,off≤o→o<off+n*3→(∃ v,w.cell? ⟨b,o,none⟩=some v)∧w.frozen? ⟨b,o,none⟩=false):=hw
 clear hw
 go_enter Tryz.func72,Tryz.ntmps72
 go_wp2_with fail
 go_loopw [1,5] (fun m i wr=>∃ q:Nat,q≤n∧i=.int .i64 q∧m=.int .i64 ((k+q*3:Nat):Int)∧Hid (∀ o,off+q*3≤o→wr.cell? ⟨b,o,none⟩=w.cell? ⟨b,o,none⟩)∧
  Hid (∀ i,i<q→∀ j,j<3→wr.cell? ⟨b,off+i*3+j,none⟩=some (.int .i64 ((k+i*3+j:Nat):Int)))∧Within b off (off+n*3) w wr) (fun _ i _=>n-(intOf i).toNat)
 case atStart=>exact ⟨0,Nat.zero_le _,rfl,by simp,fun _ _=>rfl,fun i hi=>absurd hi (Nat.not_lt_zero _),Within.refl _ _ _ _⟩
 case round=>
  obtain ⟨q,hq,rfl,rfl,hsame0,hmk,hW⟩:=hrel
  by_cases hlt:q<n
  ·obtain rfl:=ha (by omega)
   have hsame:=hsame0.out
   have d0':=hsame (off+q*3) (by omega)
   obtain ⟨v0,hv0⟩:=(Hw.out (off+q*3) (by omega) (by omega)).1
   have d0:wr.cell? ⟨b,off+q*3,none⟩=some v0:=d0'.trans hv0
   have e0:wr.frozen? ⟨b,off+q*3,none⟩=false:=(hW.frozen _).trans (Hw.out (off+q*3) (by omega) (by omega)).2
   have d1':=hsame (off+q*3+1) (by omega)
   obtain ⟨v1,hv1⟩:=(Hw.out (off+q*3+1) (by omega) (by omega)).1
   have d1:wr.cell? ⟨b,off+q*3+1,none⟩=some v1:=d1'.trans hv1
   have e1:wr.frozen? ⟨b,off+q*3+1,none⟩=false:=(hW.frozen _).trans (Hw.out (off+q*3+1) (by omega) (by omega)).2
   have d2':=hsame (off+q*3+2) (by omega)
   obtain ⟨v2,hv2⟩:=(Hw.out (off+q*3+2) (by omega) (by omega)).1
   have d2:wr.cell? ⟨b,off+q*3+2,none⟩=some v2:=d2'.trans hv2
   have e2:wr.frozen? ⟨b,off+q*3+2,none⟩=false:=(hW.frozen _).trans (Hw.out (off+q*3+2) (by omega) (by omega)).2
   have HW:Hid (Within b off (off+n*3) w wr):=hW
   clear hsame hW d0' hv0 d1' hv1 d2' hv2
   go_wp2_with fail
   go_roundw
   case rel=>
    refine ⟨q+1,by omega,by go_num,by go_num,fun o ho=>?_,fun i hi j hj=>?_,(((HW.out).set (by omega) (by omega) _).set (by omega) (by omega) _).set (by omega) (by omega) _⟩
    ·rw [cset_ne _ _ _ _ _ _ (by omega)];rw [cset_ne _ _ _ _ _ _ (by omega)];rw [cset_ne _ _ _ _ _ _ (by omega)];exact hsame0.out o (by omega)
    ·by_cases e:i=q
     ·subst e
      rcases (show j=0∨j=1∨j=2 by omega) with rfl | rfl | rfl
      ·rw [cset_ne _ _ _ _ _ _ (by omega)];rw [cset_ne _ _ _ _ _ _ (by omega)];simp only [Nat.add_zero];rw [cset_same (u:=v0) d0];simp
      ·rw [cset_ne _ _ _ _ _ _ (by omega)];rw [cset_same (u:=v1) (by rw [cset_ne _ _ _ _ _ _ (by omega)];exact d1)];simp [Int.add_assoc]
      ·rw [cset_same (u:=v2) (by rw [cset_ne _ _ _ _ _ _ (by omega)];rw [cset_ne _ _ _ _ _ _ (by omega)];exact d2)];simp [Int.add_assoc]
     ·rw [cset_ne _ _ _ _ _ _ (by omega)];rw [cset_ne _ _ _ _ _ _ (by omega)];rw [cset_ne _ _ _ _ _ _ (by omega)];exact hmk.out i (by omega) j hj
   case measure=>simp [intOf];omega
  ·obtain rfl:q=n:=by omega
   go_wp2_with fail
   go_ret
   exact ⟨rfl,hW,hmk.out⟩
set_option maxHeartbeats 1000000 in
theorem heldStepS57 (a:Option Addr)(n cap k b off:Nat)(w:World)(hn:n≤1048576)(hk:k≤1152921504606846976)(ha:0<n→a=some ⟨b,off,none⟩)
 (hm:∀ i,i<n→∀ j,j<2→w.cell? ⟨b,off+i*2+j,none⟩=some (.int .i64 ((k+i*2+j:Nat):Int))):
 Calls Tryz.prog 97 #[.slice a n cap,.int .i64 k] w fun e w'=>e=.returned (.int .i64 ((k+n*2:Nat):Int))∧w'=w:=by
 have Hm:Hid (∀ i,i<n→∀ j,j<2→w.cell? ⟨b,off+i*2+j,none⟩=some (.int .i64 ((k+i*2+j:Nat):Int))):=hm
 clear hm
 go_enter Tryz.func97,Tryz.ntmps97
 go_wp2_with fail
 go_loop [1,5] (fun m i=>∃ q:Nat,q≤n∧i=.int .i64 q∧m=.int .i64 ((k+q*2:Nat):Int)) (fun _ i=>n-(intOf i).toNat)
 case atStart=>exact ⟨0,Nat.zero_le _,rfl,by simp⟩
 case round=>
  obtain ⟨q,hq,rfl,rfl⟩:=hrel
  by_cases hlt:q<n
  ·obtain rfl:=ha (by omega)
   have d0:w.cell? ⟨b,off+q*2,none⟩=some (.int .i64 ((k+q*2+0:Nat):Int)):=Hm.out q hlt 0 (by omega)
   have d1:w.cell? ⟨b,off+q*2+1,none⟩=some (.int .i64 ((k+q*2+1:Nat):Int)):=Hm.out q hlt 1 (by omega)
   go_wp2_with fail
   go_round
   case rel=>exact ⟨q+1,by omega,by go_num,by go_num⟩
   case measure=>simp [intOf];omega
  ·obtain rfl:q=n:=by omega
   go_wp2_with fail
   go_ret
   exact ⟨rfl,rfl⟩
set_option maxHeartbeats 1000000 in
theorem heldPartS60 (a:Option Addr)(n cap k b off:Nat)(w:World)(hn:n≤1048576)(hk:k≤1152921504606846976)(ha:0<n→a=some ⟨b,off,none⟩)
 (hm:∀ i,i<n→∀ j,j<3→w.cell? ⟨b,off+i*3+j,none⟩=some (.int .i64 ((k+i*3+j:Nat):Int))):
 Calls Tryz.prog 73 #[.slice a n cap,.int .i64 k] w fun e w'=>e=.returned (.int .i64 ((k+n*3:Nat):Int))∧w'=w:=by
 have Hm:Hid (∀ i,i<n→∀ j,j<3→w.cell? ⟨b,off+i*3+j,none⟩=some (.int .i64 ((k+i*3+j:Nat):Int))):=hm
 clear hm
 go_enter Tryz.func73,Tryz.ntmps73
 go_wp2_with fail
 go_loop [1,5] (fun m i=>∃ q:Nat,q≤n∧i=.int .i64 q∧m=.int .i64 ((k+q*3:Nat):Int)) (fun _ i=>n-(intOf i).toNat)
 case atStart=>exact ⟨0,Nat.zero_le _,rfl,by simp⟩
 case round=>
  obtain ⟨q,hq,rfl,rfl⟩:=hrel
  by_cases hlt:q<n
  ·obtain rfl:=ha (by omega)
   have d0:w.cell? ⟨b,off+q*3,none⟩=some (.int .i64 ((k+q*3+0:Nat):Int)):=Hm.out q hlt 0 (by omega)
   have d1:w.cell? ⟨b,off+q*3+1,none⟩=some (.int .i64 ((k+q*3+1:Nat):Int)):=Hm.out q hlt 1 (by omega)
   have d2:w.cell? ⟨b,off+q*3+2,none⟩=some (.int .i64 ((k+q*3+2:Nat):Int)):=Hm.out q hlt 2 (by omega)
   go_wp2_with fail
   go_round
   case rel=>exact ⟨q+1,by omega,by go_num,by go_num⟩
   case measure=>simp [intOf];omega
  ·obtain rfl:q=n:=by omega
   go_wp2_with fail
   go_ret
   exact ⟨rfl,rfl⟩
set_option maxHeartbeats 1000000 in
theorem markNet20x (pb n jb m k D:Nat)(N bs:Nat→Nat)(w:World)(hn:n≤1048576)(hm:m≤1048576)(hk:k≤1000000)(hr:∃ f,w.rowIs pb 82 (n*4) f)(hsh:JsSh w jb D m N bs)(hsame:∀ i j,i<m→j<m→bs j=bs i→N j=N i)(hlt:pb<jb)(hD:jb<D)(hDs:D≤w.heap.size):
 Calls Tryz.prog 15 #[.agg #[.slice (some ⟨pb,0,none⟩) n n,.slice (some ⟨jb,0,none⟩) m m],.int .i64 k] w fun e w'=>∃ k':Nat,e=.returned (.int .i64 k')∧k'≤4398046511104∧Amid pb D w w':=by
 have HS:Hid (∀ i j,i<m→j<m→bs j=bs i→N j=N i):=hsame
 have HSH:Hid (JsSh w jb D m N bs):=hsh
 clear hsame hsh
 go_enter Tryz.func15,Tryz.ntmps15
 go_wp2_with fail
 have b0:=bel1 w (.cells #[.slice (some ⟨pb,0,none⟩) n n,.slice (some ⟨jb,0,none⟩) m m] 40)
 have hr1:∃ f,(w.alloc (.cells #[.slice (some ⟨pb,0,none⟩) n n,.slice (some ⟨jb,0,none⟩) m m] 40)).rowIs pb 82 (n*4) f:=by
  obtain ⟨f,hr⟩:=hr
  exact ⟨f,hr.alloc _⟩
 refine (markPieceS49 pb n k _ hn (by omega) hr1).mono ?_
 rintro e w1 ⟨rfl,ha1,_⟩
 have HSH1:Hid (JsSh w1 jb D m N bs):=(HSH.out.below b0).amid2 ha1 (by omega)
 have HA1:Hid (Amid pb D w w1):=(Amid.ofBelow b0).trans (ha1.wide lr (by omega))
 have a1:w1.cell? ⟨w.heap.size,1,none⟩=some (.slice (some ⟨jb,0,none⟩) m m):=by
  rw [World.cell?_of_block (w:=w.alloc (.cells #[.slice (some ⟨pb,0,none⟩) n n,.slice (some ⟨jb,0,none⟩) m m] 40)) (ha1.block w.heap.size (by simp) (by omega))]
  simp
 clear HSH hr hr1 ha1 b0
 go_wp2_with fail
 refine (markJointS50 jb D m (k+n*4) N bs _ hm (by omega) HSH1.out HS.out).mono ?_
 rintro e w2 ⟨k',rfl,hk',ha2⟩
 have hA2:=HA1.out.trans (ha2.wide (by omega) lr)
 clear HA1 HSH1 HS
 go_wp2_with fail
 go_ret
 exact ⟨k',rfl,by omega,hA2⟩

end Go.Proofs.YtjhmaofjmalglaaGreat
