import Derived.Test.YtoennemahlakeaaGreatXc
import Derived.Deep.Slices
namespace Go.Proofs.YtoennemahlakeaaGreat
open Go.RowKit Go.Lib

theorem lr {n : Nat} : n ≤ n := Nat.le_refl n
theorem zl {n : Nat} : 0 ≤ n := Nat.zero_le n
theorem ltl {a b c:Nat}(h:a<b)(k:b≤c):a<c:=by omega
def oneB (z:Int):ByteArray:=strOfNums [z]
theorem oneB_size (z:Int):(oneB z).size=1:=by simp [oneB,strOfNums,ByteArray.size]
theorem conv1 (wr:World)(z:Int):(convert 153 9 (.slice (some ⟨wr.heap.size,0,none⟩) 1 1)).run Tryz.prog (wr.alloc (.cells #[.int .u8 z] 5))=.ok (.string (oneB z)) (wr.alloc (.cells #[.int .u8 z] 5)):=
 run_convert_bytes_arg (P:=Tryz.prog) (wr.alloc (.cells #[.int .u8 z] 5)) 153 5 Tryz.underlying153 Tryz.underlying5 wr.heap.size 0 1 1 [z] rfl (fun i hi=>by
  obtain rfl:i=0:=by omega
  simp) 9 Tryz.underlying9
set_option maxRecDepth 100000 in
set_option maxHeartbeats 1000000 in
theorem markText51 (k:Nat)(w:World)(hk:k≤4611686018427387904):
 Calls Tryz.prog 68 #[.int .i64 k] w fun e w'=>(∃ s:ByteArray,e=.returned (.string s))∧Below w.heap.size w w':=by
 by_cases h0:k=0
 ·subst h0
  go_enter Tryz.func68,Tryz.ntmps68
  go_wp2_with fail
  go_ret
  exact ⟨⟨_,rfl⟩,Below.refl _ _⟩
 ·have h1:(1:Int)≤(k:Int):=by omega
  have h1':decide ((k:Int)≤0)=false:=by simp;omega
  go_enter Tryz.func68,Tryz.ntmps68
  go_wp2_with fail
  go_loopw [0,3] (fun a o wr=>∃ (q:Nat) (s:ByteArray),s.size+q≤k∧a=.int .i64 q∧o=.string s∧Below w.heap.size w wr) (fun a _ _=>(intOf a).toNat)
  case atStart=>exact ⟨k,⟨#[]⟩,by simp [ByteArray.size],rfl,rfl,Below.refl _ _⟩
  case round=>
   obtain ⟨q,s,hq,rfl,rfl,hB⟩:=hrel
   by_cases hq0:q=0
   ·subst hq0
    go_wp2_with fail
    go_ret
    exact ⟨⟨_,rfl⟩,hB⟩
   ·have hq1:(0:Int)<(q:Int):=by omega
    have hcv:=conv1 wr (48+(q:Int) % 10)
    have hsz:=oneB_size (48+(q:Int) % 10)
    generalize oneB (48+(q:Int) % 10)=z at *
    go_wp2_with fail
    go_roundw
    case rel=>exact ⟨q / 10,z ++ s,by rw [ByteArray.size_append];omega,by go_num,rfl,hB.alloc hB.size _⟩
    case measure=>simp [intOf];omega
structure Amid (C D:Nat)(w w':World):Prop where
 os:w'.os=w.os
 tape:w'.tape=w.tape
 output:w'.output=w.output
 size:w.heap.size≤w'.heap.size
 block:∀ k,k<w.heap.size→(k<C∨D≤k)→w'.heap[k]?=w.heap[k]?
theorem Amid.refl (C D:Nat)(w:World):Amid C D w w:=⟨rfl,rfl,rfl,Nat.le_refl _,fun _ _ _=>rfl⟩
theorem Amid.trans {C D:Nat}{a b c:World}(h:Amid C D a b)(g:Amid C D b c):Amid C D a c:=
 ⟨g.os.trans h.os,g.tape.trans h.tape,g.output.trans h.output,Nat.le_trans h.size g.size,fun k hk hc=>(g.block k (ltl hk h.size) hc).trans (h.block k hk hc)⟩
theorem Amid.wide {C D C' D':Nat}{a b:World}(h:Amid C D a b)(hC:C'≤C)(hD:D≤D'):Amid C' D' a b:=
 ⟨h.os,h.tape,h.output,h.size,fun k hk hc=>h.block k hk (by omega)⟩
theorem Amid.ofBelow {C D:Nat}{a b:World}(h:Below a.heap.size a b):Amid C D a b:=
 ⟨h.os,h.tape,h.output,h.size,fun k hk _=>h.block k hk⟩
theorem Amid.setCell {C D:Nat}{a w:World}(h:Amid C D a w){p:Addr}(hC:C≤p.block)(hD:p.block<D)(v:Value):Amid C D a (w.setCell p v):=
 h.trans ⟨rfl,rfl,rfl,by simp [World.setCell],fun k _ hc=>Below.heap_setCell _ _ _ _ (by omega)⟩
theorem Amid.below {C D B:Nat}{a b:World}(h:Amid C D a b)(hB:B≤C)(hs:B≤a.heap.size):Below B a b:=
 ⟨h.os,h.tape,h.output,h.size,fun k hk=>h.block k (by omega) (by omega)⟩
theorem row_amid {C D:Nat}{w w':World}{b:Nat}{t:TypeId}{n:Nat}{f:Nat→Value}(h:w.rowIs b t n f)(ha:Amid C D w w')(hb:b<C∨D≤b):w'.rowIs b t n f:=
 h.of_block (ha.block b h.lt hb)
set_option maxHeartbeats 1000000 in
theorem markEndS87 (B n k:Nat)(w:World)(hn:n≤1048576)(hk:k≤1152921504606846976)(hr:∃ f,w.rowIs B 138 (n*2) f):
 Calls Tryz.prog 69 #[.slice (some ⟨B,0,none⟩) n n,.int .i64 k] w fun e w'=>e=.returned (.int .i64 ((k+n*2:Nat):Int))∧Amid B (B+1) w w'∧∃ f,w'.rowIs B 138 (n*2) f:=by
 go_enter Tryz.func69,Tryz.ntmps69
 go_wp2_with fail
 go_loopw [1,5] (fun c i wr=>∃ q:Nat,q≤n∧i=.int .i64 q∧c=.int .i64 ((k+q*2:Nat):Int)∧(∃ f,wr.rowIs B 138 (n*2) f)∧Amid B (B+1) w wr) (fun _ i _=>n-(intOf i).toNat)
 case atStart=>exact ⟨0,Nat.zero_le _,rfl,by simp,hr,Amid.refl _ _ _⟩
 case round=>
  obtain ⟨q,hq,rfl,rfl,hrow,hA⟩:=hrel
  clear hr
  by_cases hlt:q<n
  ·obtain ⟨f,hrow⟩:=hrow
   have d0:=hrow.cell (i:=q*2) (by omega)
   have d1:=hrow.cell (i:=q*2+1) (by omega)
   have e0:=hrow.frozen (q*2)
   have e1:=hrow.frozen (q*2+1)
   have HR:Hid (wr.rowIs B 138 (n*2) f):=hrow
   clear hrow
   go_wp2_with fail
   go_roundw
   case rel=>exact ⟨q+1,by omega,by go_num,by go_num,⟨_,(HR.out.set _ _).set _ _⟩,(hA.setCell lr (Nat.lt_succ_self _) _).setCell lr (Nat.lt_succ_self _) _⟩
   case measure=>simp [intOf];omega
  ·obtain rfl:q=n:=by omega
   go_wp2_with fail
   go_ret
   exact ⟨rfl,hA,hrow⟩
set_option maxHeartbeats 1000000 in
theorem markPieceS49 (B n k:Nat)(w:World)(hn:n≤1048576)(hk:k≤1152921504606846976)(hr:∃ f,w.rowIs B 82 (n*4) f):
 Calls Tryz.prog 37 #[.slice (some ⟨B,0,none⟩) n n,.int .i64 k] w fun e w'=>e=.returned (.int .i64 ((k+n*4:Nat):Int))∧Amid B (B+1) w w'∧∃ f,w'.rowIs B 82 (n*4) f:=by
 go_enter Tryz.func37,Tryz.ntmps37
 go_wp2_with fail
 go_loopw [1,5] (fun c i wr=>∃ q:Nat,q≤n∧i=.int .i64 q∧c=.int .i64 ((k+q*4:Nat):Int)∧(∃ f,wr.rowIs B 82 (n*4) f)∧Amid B (B+1) w wr) (fun _ i _=>n-(intOf i).toNat)
 case atStart=>exact ⟨0,Nat.zero_le _,rfl,by simp,hr,Amid.refl _ _ _⟩
 case round=>
  obtain ⟨q,hq,rfl,rfl,hrow,hA⟩:=hrel
  clear hr
  by_cases hlt:q<n
  ·obtain ⟨f,hrow⟩:=hrow
   have HR0:Hid (wr.rowIs B 82 (n*4) f):=hrow
   clear hrow
   go_wp2_with fail
   refine (markText51 (k+q*4) _ (by omega)).mono ?_
   rintro e w1 ⟨⟨s,rfl⟩,hb1⟩
   have hrow:=rowBel HR0.out hb1 HR0.out.lt
   have hA1:=hA.trans (Amid.ofBelow hb1)
   have d0:=hrow.cell (i:=q*4) (by omega)
   have d1:=hrow.cell (i:=q*4+1) (by omega)
   have d2:=hrow.cell (i:=q*4+2) (by omega)
   have d3:=hrow.cell (i:=q*4+3) (by omega)
   have e0:=hrow.frozen (q*4)
   have e1:=hrow.frozen (q*4+1)
   have e2:=hrow.frozen (q*4+2)
   have e3:=hrow.frozen (q*4+3)
   have HR:Hid (w1.rowIs B 82 (n*4) f):=hrow
   clear hrow hA hb1 HR0
   go_wp2_with fail
   go_roundw
   case rel=>exact ⟨q+1,by omega,by go_num,by go_num,⟨_,(((HR.out.set _ _).set _ _).set _ _).set _ _⟩,(((hA1.setCell lr (Nat.lt_succ_self _) _).setCell lr (Nat.lt_succ_self _) _).setCell lr (Nat.lt_succ_self _) _).setCell lr (Nat.lt_succ_self _) _⟩
   case measure=>simp [intOf];omega
  ·obtain rfl:q=n:=by omega
   go_wp2_with fail
   go_ret
   exact ⟨rfl,hA,hrow⟩
def JsSh (w:World)(B D n:Nat)(N bs:Nat→Nat):Prop:=
 ∃ f,w.rowIs B 96 (n*3) f∧∀ j,j<n→f (j*3+2)=.slice (some ⟨bs j,0,none⟩) (N j) (N j)∧B<bs j∧bs j<D∧N j≤1048576∧∃ g,w.rowIs (bs j) 138 (N j*2) g
theorem JsSh.below {w w':World}{B D n:Nat}{N bs:Nat→Nat}(h:JsSh w B D n N bs)(hb:Below w.heap.size w w'):JsSh w' B D n N bs:=by
 obtain ⟨f,hr,hf⟩:=h
 refine ⟨f,rowBel hr hb hr.lt,fun j hj=>?_⟩
 obtain ⟨h1,h2,h3,h4,g,hg⟩:=hf j hj
 exact ⟨h1,h2,h3,h4,g,rowBel hg hb hg.lt⟩
theorem JsSh.set {w:World}{B D n:Nat}{N bs:Nat→Nat}(h:JsSh w B D n N bs)(i o:Nat)(ho:o<2)(v:Value):JsSh (w.setCell ⟨B,i*3+o,none⟩ v) B D n N bs:=by
 obtain ⟨f,hr,hf⟩:=h
 refine ⟨_,hr.set _ _,fun j hj=>?_⟩
 obtain ⟨h1,h2,h3,h4,g,hg⟩:=hf j hj
 refine ⟨?_,h2,h3,h4,g,hg.setOther (a:=⟨B,i*3+o,none⟩) (by show bs j≠B;omega) v⟩
 rw [if_neg (by omega)]
 exact h1
theorem JsSh.amid {w w':World}{B D n:Nat}{N bs:Nat→Nat}{i:Nat}(h:JsSh w B D n N bs)(hi:i<n)(ha:Amid (bs i) (bs i+1) w w')(hg:∃ g,w'.rowIs (bs i) 138 (N i*2) g)(hsame:∀ j,j<n→bs j=bs i→N j=N i):JsSh w' B D n N bs:=by
 obtain ⟨f,hr,hf⟩:=h
 obtain ⟨_,hlt,_⟩:=hf i hi
 refine ⟨f,row_amid hr ha (by omega),fun j hj=>?_⟩
 obtain ⟨h1,h2,h3,h4,g,hgj⟩:=hf j hj
 refine ⟨h1,h2,h3,h4,?_⟩
 by_cases e:bs j=bs i
 ·rw [e,hsame j hj e];exact hg
 ·exact ⟨g,row_amid hgj ha (by omega)⟩
set_option maxHeartbeats 1000000 in
theorem markJointS50 (B D n k:Nat)(N bs:Nat→Nat)(w:World)(hn:n≤1048576)(hk:k≤1073741824)(hs:JsSh w B D n N bs)(hsame:∀ i j,i<n→j<n→bs j=bs i→N j=N i):
 Calls Tryz.prog 38 #[.slice (some ⟨B,0,none⟩) n n,.int .i64 k] w fun e w'=>∃ k':Nat,e=.returned (.int .i64 k')∧k'≤k+n*2097154∧Amid B D w w':=by
 have HS:Hid (∀ i j,i<n→j<n→bs j=bs i→N j=N i):=hsame
 clear hsame
 go_enter Tryz.func38,Tryz.ntmps38
 go_wp2_with fail
 go_loopw [1,5] (fun c i wr=>∃ q kk:Nat,q≤n∧i=.int .i64 q∧c=.int .i64 kk∧kk≤k+q*2097154∧JsSh wr B D n N bs∧Amid B D w wr) (fun _ i _=>n-(intOf i).toNat)
 case atStart=>exact ⟨0,k,Nat.zero_le _,rfl,rfl,by omega,hs,Amid.refl _ _ _⟩
 case round=>
  obtain ⟨q,kk,hq,rfl,rfl,hkk,hsh,hA⟩:=hrel
  clear hs
  by_cases hlt:q<n
  ·have hbD:B<D∧N q≤1048576:=by
    obtain ⟨f,_,hf⟩:=hsh
    obtain ⟨_,h2,h3,h4,_⟩:=hf q hlt
    omega
   have HSH:Hid (JsSh wr B D n N bs):=hsh
   obtain ⟨f,hrow,hf⟩:=hsh
   have d0:=hrow.cell (i:=q*3) (by omega)
   have d1:=hrow.cell (i:=q*3+1) (by omega)
   have e0:=hrow.frozen (q*3)
   have e1:=hrow.frozen (q*3+1)
   clear hrow hf
   go_wp2_with fail
   have HSH1:Hid (JsSh (wr.setCell ⟨B,q*3,none⟩ (.int .i64 kk)) B D n N bs):=HSH.out.set q 0 (by omega) _
   have HA1:Hid (Amid B D w (wr.setCell ⟨B,q*3,none⟩ (.int .i64 kk))):=hA.setCell lr hbD.1 _
   clear HSH hA d0 d1 e0 e1
   rw [show ((kk:Int)+1)=((kk+1:Nat):Int) by omega]
   refine (markText51 (kk+1) _ (by omega)).mono ?_
   rintro e w1 ⟨⟨s,rfl⟩,hb1⟩
   have HSH2:Hid (JsSh w1 B D n N bs):=HSH1.out.below hb1
   have HA2:Hid (Amid B D w w1):=HA1.out.trans (Amid.ofBelow hb1)
   obtain ⟨f,hrow,hf⟩:=HSH2.out
   have d1:=hrow.cell (i:=q*3+1) (by omega)
   have d2:=hrow.cell (i:=q*3+2) (by omega)
   rw [(hf q hlt).1] at d2
   have e1:=hrow.frozen (q*3+1)
   clear hrow hf hb1 HSH1 HA1
   go_wp2_with fail
   have HSH3:Hid (JsSh (w1.setCell ⟨B,q*3+1,none⟩ (.string s)) B D n N bs):=HSH2.out.set q 1 (by omega) _
   have HA3:Hid (Amid B D w (w1.setCell ⟨B,q*3+1,none⟩ (.string s))):=HA2.out.setCell lr hbD.1 _
   have hg:(∃ g,(w1.setCell ⟨B,q*3+1,none⟩ (.string s)).rowIs (bs q) 138 (N q*2) g)∧B<bs q∧bs q<D:=by
    obtain ⟨f,_,hf⟩:=HSH3.out
    obtain ⟨_,h2,h3,_,h4⟩:=hf q hlt
    exact ⟨h4,h2,h3⟩
   clear HSH2 HA2 d1 d2 e1
   rw [show ((kk:Int)+1+1)=((kk+2:Nat):Int) by omega]
   refine (markEndS87 (bs q) (N q) (kk+2) _ hbD.2 (by omega) hg.1).mono ?_
   rintro e w2 ⟨rfl,ha2,hg2⟩
   have HSH4:Hid (JsSh w2 B D n N bs):=HSH3.out.amid hlt ha2 hg2 (fun j hj=>HS.out q j hlt hj)
   have HA4:Hid (Amid B D w w2):=HA3.out.trans (ha2.wide (by omega) (by omega))
   clear HSH3 HA3 hg ha2 hg2
   go_wp2_with fail
   go_roundw
   case rel=>exact ⟨q+1,kk+2+N q*2,by omega,by go_num,by go_num,by omega,HSH4.out,HA4.out⟩
   case measure=>simp [intOf];omega
  ·obtain rfl:q=n:=by omega
   go_wp2_with fail
   go_ret
   exact ⟨kk,rfl,hkk,hA⟩
theorem row_size {w:World}{b:Nat}{t t':TypeId}{n n':Nat}{f f':Nat→Value}(h:w.rowIs b t n f)(h':w.rowIs b t' n' f'):n=n':=by
 obtain ⟨c,h1,h2,_⟩:=h
 obtain ⟨c',h1',h2',_⟩:=h'
 rw [h1] at h1'
 simp only [Option.some.injEq,Obj.cells.injEq] at h1'
 rw [← h2,← h2',h1'.1]
theorem JsTo.sh {w:World}{B n:Nat}{J:Nat→Jt}(h:JsTo w B n n J)(hne:∀ i,i<n→(J i).ne≤1048576):
 ∃ bs:Nat→Nat,JsSh w B w.heap.size n (fun j=>(J j).ne) bs∧∀ i j,i<n→j<n→bs j=bs i→(J j).ne=(J i).ne:=by
 obtain ⟨f,hr,hf⟩:=h
 obtain ⟨bs,hbs⟩:=Go.Deep.choose_lt (α:=Nat) (n:=n) (p:=fun j b'=>f (j*3+2)=.slice (some ⟨b',0,none⟩) (J j).ne (J j).ne∧B<b'∧EsTo w b' (J j).ne (J j).ne (J j).E) (fun j hj=>by
  obtain ⟨_,_,b',h3,h4,h5⟩:=hf j hj
  exact ⟨b',h3,h4,h5⟩)
 refine ⟨bs,⟨f,hr,fun j hj=>?_⟩,fun i j hi hj e=>?_⟩
 ·obtain ⟨h1,h2,h3⟩:=hbs j hj
  refine ⟨h1,h2,h3.lt,hne j hj,?_⟩
  obtain ⟨g,hg,_⟩:=h3
  exact ⟨g,hg⟩
 ·obtain ⟨_,_,g,hg,_⟩:=hbs i hi
  obtain ⟨_,_,g',hg',_⟩:=hbs j hj
  rw [e] at hg'
  have:=row_size hg hg'
  omega
theorem JsSh.amid2 {C D:Nat}{w w':World}{B D' n:Nat}{N bs:Nat→Nat}(h:JsSh w B D' n N bs)(ha:Amid C D w w')(hD:D≤B):JsSh w' B D' n N bs:=by
 obtain ⟨f,hr,hf⟩:=h
 refine ⟨f,row_amid hr ha (by omega),fun j hj=>?_⟩
 obtain ⟨h1,h2,h3,h4,g,hg⟩:=hf j hj
 exact ⟨h1,h2,h3,h4,g,row_amid hg ha (by omega)⟩
structure Within (b lo hi:Nat)(w w':World):Prop where
 os:w'.os=w.os
 tape:w'.tape=w.tape
 output:w'.output=w.output
 size:w'.heap.size=w.heap.size
 other:∀ k,k≠b→w'.heap[k]?=w.heap[k]?
 cell:∀ o,(o<lo∨hi≤o)→w'.cell? ⟨b,o,none⟩=w.cell? ⟨b,o,none⟩
 frozen:∀ o,w'.frozen? ⟨b,o,none⟩=w.frozen? ⟨b,o,none⟩
theorem Within.refl (b lo hi:Nat)(w:World):Within b lo hi w w:=⟨rfl,rfl,rfl,rfl,fun _ _=>rfl,fun _ _=>rfl,fun _=>rfl⟩
theorem Within.set {b lo hi:Nat}{a w:World}(h:Within b lo hi a w){o:Nat}(h1:lo≤o)(h2:o<hi)(v:Value):Within b lo hi a (w.setCell ⟨b,o,none⟩ v):=
 ⟨h.os,h.tape,h.output,by rw [← h.size];simp [World.setCell],fun k hk=>(Below.heap_setCell _ _ _ _ hk).trans (h.other k hk),
  fun o' ho=>(cset_ne _ _ _ _ _ _ (by omega)).trans (h.cell o' ho),fun o'=>(World.frozen?_setCell _ _ _ _).trans (h.frozen o')⟩
theorem Within.below {b lo hi:Nat}{w w':World}(h:Within b lo hi w w'):Below b w w':=
 ⟨h.os,h.tape,h.output,by rw [h.size];exact Nat.le_refl _,fun k hk=>h.other k (by omega)⟩
set_option maxHeartbeats 2000000 in
theorem markStepS52 (a:Option Addr)(n cap k b off:Nat)(w:World)(hn:n≤1048576)(hk:k≤1152921504606846976)(ha:0<n→a=some ⟨b,off,none⟩)
 (hw:∀ o,off≤o→o<off+n*2→(∃ v,w.cell? ⟨b,o,none⟩=some v)∧w.frozen? ⟨b,o,none⟩=false):
 Calls Tryz.prog 39 #[.slice a n cap,.int .i64 k] w fun e w'=>e=.returned (.int .i64 ((k+n*2:Nat):Int))∧Within b off (off+n*2) w w'∧∀ i,i<n→∀ j,j<2→w'.cell? ⟨b,off+i*2+j,none⟩=some (.int .i64 ((k+i*2+j:Nat):Int)):=by
 have Hw:Hid (∀ o,off≤o→o<off+n*2→(∃ v,w.cell? ⟨b,o,none⟩=some v)∧w.frozen? ⟨b,o,none⟩=false):=hw
 clear hw
 go_enter Tryz.func39,Tryz.ntmps39
 go_wp2_with fail
 go_loopw [1,5] (fun m i wr=>∃ q:Nat,q≤n∧i=.int .i64 q∧m=.int .i64 ((k+q*2:Nat):Int)∧Hid (∀ o,off+q*2≤o→wr.cell? ⟨b,o,none⟩=w.cell? ⟨b,o,none⟩)∧
  Hid (∀ i,i<q→∀ j,j<2→wr.cell? ⟨b,off+i*2+j,none⟩=some (.int .i64 ((k+i*2+j:Nat):Int)))∧Within b off (off+n*2) w wr) (fun _ i _=>n-(intOf i).toNat)
 case atStart=>exact ⟨0,Nat.zero_le _,rfl,by simp,fun _ _=>rfl,fun i hi=>absurd hi (Nat.not_lt_zero _),Within.refl _ _ _ _⟩
 case round=>
  obtain ⟨q,hq,rfl,rfl,hsame0,hmk,hW⟩:=hrel
  by_cases hlt:q<n
  ·obtain rfl:=ha (by omega)
   have hsame:=hsame0.out
   have d0':=hsame (off+q*2) (by omega)
   obtain ⟨v0,hv0⟩:=(Hw.out (off+q*2) (by omega) (by omega)).1
   have d0:wr.cell? ⟨b,off+q*2,none⟩=some v0:=d0'.trans hv0
   have e0:wr.frozen? ⟨b,off+q*2,none⟩=false:=(hW.frozen _).trans (Hw.out (off+q*2) (by omega) (by omega)).2
   have d1':=hsame (off+q*2+1) (by omega)
   obtain ⟨v1,hv1⟩:=(Hw.out (off+q*2+1) (by omega) (by omega)).1
   have d1:wr.cell? ⟨b,off+q*2+1,none⟩=some v1:=d1'.trans hv1
   have e1:wr.frozen? ⟨b,off+q*2+1,none⟩=false:=(hW.frozen _).trans (Hw.out (off+q*2+1) (by omega) (by omega)).2
   have HW:Hid (Within b off (off+n*2) w wr):=hW
   clear hsame hW d0' hv0 d1' hv1
   go_wp2_with fail
   go_roundw
   case rel=>
    refine ⟨q+1,by omega,by go_num,by go_num,fun o ho=>?_,fun i hi j hj=>?_,((HW.out).set (by omega) (by omega) _).set (by omega) (by omega) _⟩
    ·rw [cset_ne _ _ _ _ _ _ (by omega)];rw [cset_ne _ _ _ _ _ _ (by omega)];exact hsame0.out o (by omega)
    ·by_cases e:i=q
     ·subst e
      rcases (show j=0∨j=1 by omega) with rfl | rfl
      ·rw [cset_ne _ _ _ _ _ _ (by omega)];simp only [Nat.add_zero];rw [cset_same (u:=v0) d0];simp
      ·rw [cset_same (u:=v1) (by rw [cset_ne _ _ _ _ _ _ (by omega)];exact d1)];simp [Int.add_assoc]
     ·rw [cset_ne _ _ _ _ _ _ (by omega)];rw [cset_ne _ _ _ _ _ _ (by omega)];exact hmk.out i (by omega) j hj
   case measure=>simp [intOf];omega
  ·obtain rfl:q=n:=by omega
   go_wp2_with fail
   go_ret
   exact ⟨rfl,hW,hmk.out⟩
set_option maxHeartbeats 2000000 in
theorem markPartS55 (a:Option Addr)(n cap k b off:Nat)(w:World)(hn:n≤1048576)(hk:k≤1152921504606846976)(ha:0<n→a=some ⟨b,off,none⟩)
 (hw:∀ o,off≤o→o<off+n*3→(∃ v,w.cell? ⟨b,o,none⟩=some v)∧w.frozen? ⟨b,o,none⟩=false):
 Calls Tryz.prog 16 #[.slice a n cap,.int .i64 k] w fun e w'=>e=.returned (.int .i64 ((k+n*3:Nat):Int))∧Within b off (off+n*3) w w'∧∀ i,i<n→∀ j,j<3→w'.cell? ⟨b,off+i*3+j,none⟩=some (.int .i64 ((k+i*3+j:Nat):Int)):=by
 have Hw:Hid (∀ o,off≤o→o<off+n*3→(∃ v,w.cell? ⟨b,o,none⟩=some v)∧w.frozen? ⟨b,o,none⟩=false):=hw
 clear hw
 go_enter Tryz.func16,Tryz.ntmps16
 go_wp2_with fail
 go_loopw [1,5] (fun m i wr=>∃ q:Nat,q≤n∧i=.int .i64 q∧m=.int .i64 ((k+q*3:Nat):Int)∧Hid (∀ o,off+q*3≤o→wr.cell? ⟨b,o,none⟩=w.cell? ⟨b,o,none⟩)∧
  Hid (∀ i,i<q→∀ j,j<3→wr.cell? ⟨b,off+i*3+j,none⟩=some (.int .i64 ((k+i*3+j:Nat):Int)))∧Within b off (off+n*3) w wr) (fun _ i _=>n-(intOf i).toNat)
 case atStart=>exact ⟨0,Nat.zero_le _,rfl,by simp,fun _ _=>rfl,fun i hi=>absurd hi (Nat.not_lt_zero _),Within.refl _ _ _ _⟩
 case round=>
  obtain ⟨q,hq,rfl,rfl,hsame0,hmk,hW⟩:=hrel
  by_cases hlt:q<n
  ·obtain rfl:=ha (by omega)
   have hsame:=hsame0.out
   have d0':=hsame (off+q*3) (by omega)
   obtain ⟨v0,hv0⟩:=(Hw.out (off+q*3) (by omega) (by omega)).1
   have d0:wr.cell? ⟨b,off+q*3,none⟩=some v0:=d0'.trans hv0
   have e0:wr.frozen? ⟨b,off+q*3,none⟩=false:=(hW.frozen _).trans (Hw.out (off+q*3) (by omega) (by omega)).2
   have d1':=hsame (off+q*3+1) (by omega)
   obtain ⟨v1,hv1⟩:=(Hw.out (off+q*3+1) (by omega) (by omega)).1
   have d1:wr.cell? ⟨b,off+q*3+1,none⟩=some v1:=d1'.trans hv1
   have e1:wr.frozen? ⟨b,off+q*3+1,none⟩=false:=(hW.frozen _).trans (Hw.out (off+q*3+1) (by omega) (by omega)).2
   have d2':=hsame (off+q*3+2) (by omega)
   obtain ⟨v2,hv2⟩:=(Hw.out (off+q*3+2) (by omega) (by omega)).1
   have d2:wr.cell? ⟨b,off+q*3+2,none⟩=some v2:=d2'.trans hv2
   have e2:wr.frozen? ⟨b,off+q*3+2,none⟩=false:=(hW.frozen _).trans (Hw.out (off+q*3+2) (by omega) (by omega)).2
   have HW:Hid (Within b off (off+n*3) w wr):=hW
   clear hsame hW d0' hv0 d1' hv1 d2' hv2
   go_wp2_with fail
   go_roundw
   case rel=>
    refine ⟨q+1,by omega,by go_num,by go_num,fun o ho=>?_,fun i hi j hj=>?_,(((HW.out).set (by omega) (by omega) _).set (by omega) (by omega) _).set (by omega) (by omega) _⟩
    ·rw [cset_ne _ _ _ _ _ _ (by omega)];rw [cset_ne _ _ _ _ _ _ (by omega)];rw [cset_ne _ _ _ _ _ _ (by omega)];exact hsame0.out o (by omega)
    ·by_cases e:i=q
     ·subst e
      rcases (show j=0∨j=1∨j=2 by omega) with rfl | rfl | rfl
      ·rw [cset_ne _ _ _ _ _ _ (by omega)];rw [cset_ne _ _ _ _ _ _ (by omega)];simp only [Nat.add_zero];rw [cset_same (u:=v0) d0];simp
      ·rw [cset_ne _ _ _ _ _ _ (by omega)];rw [cset_same (u:=v1) (by rw [cset_ne _ _ _ _ _ _ (by omega)];exact d1)];simp [Int.add_assoc]
      ·rw [cset_same (u:=v2) (by rw [cset_ne _ _ _ _ _ _ (by omega)];rw [cset_ne _ _ _ _ _ _ (by omega)];exact d2)];simp [Int.add_assoc]
     ·rw [cset_ne _ _ _ _ _ _ (by omega)];rw [cset_ne _ _ _ _ _ _ (by omega)];rw [cset_ne _ _ _ _ _ _ (by omega)];exact hmk.out i (by omega) j hj
   case measure=>simp [intOf];omega
  ·obtain rfl:q=n:=by omega
   go_wp2_with fail
   go_ret
   exact ⟨rfl,hW,hmk.out⟩
set_option maxHeartbeats 1000000 in
theorem heldStepS57 (a:Option Addr)(n cap k b off:Nat)(w:World)(hn:n≤1048576)(hk:k≤1152921504606846976)(ha:0<n→a=some ⟨b,off,none⟩)
 (hm:∀ i,i<n→∀ j,j<2→w.cell? ⟨b,off+i*2+j,none⟩=some (.int .i64 ((k+i*2+j:Nat):Int))):
 Calls Tryz.prog 44 #[.slice a n cap,.int .i64 k] w fun e w'=>e=.returned (.int .i64 ((k+n*2:Nat):Int))∧w'=w:=by
 have Hm:Hid (∀ i,i<n→∀ j,j<2→w.cell? ⟨b,off+i*2+j,none⟩=some (.int .i64 ((k+i*2+j:Nat):Int))):=hm
 clear hm
 go_enter Tryz.func44,Tryz.ntmps44
 go_wp2_with fail
 go_loop [1,5] (fun m i=>∃ q:Nat,q≤n∧i=.int .i64 q∧m=.int .i64 ((k+q*2:Nat):Int)) (fun _ i=>n-(intOf i).toNat)
 case atStart=>exact ⟨0,Nat.zero_le _,rfl,by simp⟩
 case round=>
  obtain ⟨q,hq,rfl,rfl⟩:=hrel
  by_cases hlt:q<n
  ·obtain rfl:=ha (by omega)
   have d0:w.cell? ⟨b,off+q*2,none⟩=some (.int .i64 ((k+q*2+0:Nat):Int)):=Hm.out q hlt 0 (by omega)
   have d1:w.cell? ⟨b,off+q*2+1,none⟩=some (.int .i64 ((k+q*2+1:Nat):Int)):=Hm.out q hlt 1 (by omega)
   go_wp2_with fail
   go_round
   case rel=>exact ⟨q+1,by omega,by go_num,by go_num⟩
   case measure=>simp [intOf];omega
  ·obtain rfl:q=n:=by omega
   go_wp2_with fail
   go_ret
   exact ⟨rfl,rfl⟩
set_option maxHeartbeats 1000000 in
theorem heldPartS60 (a:Option Addr)(n cap k b off:Nat)(w:World)(hn:n≤1048576)(hk:k≤1152921504606846976)(ha:0<n→a=some ⟨b,off,none⟩)
 (hm:∀ i,i<n→∀ j,j<3→w.cell? ⟨b,off+i*3+j,none⟩=some (.int .i64 ((k+i*3+j:Nat):Int))):
 Calls Tryz.prog 17 #[.slice a n cap,.int .i64 k] w fun e w'=>e=.returned (.int .i64 ((k+n*3:Nat):Int))∧w'=w:=by
 have Hm:Hid (∀ i,i<n→∀ j,j<3→w.cell? ⟨b,off+i*3+j,none⟩=some (.int .i64 ((k+i*3+j:Nat):Int))):=hm
 clear hm
 go_enter Tryz.func17,Tryz.ntmps17
 go_wp2_with fail
 go_loop [1,5] (fun m i=>∃ q:Nat,q≤n∧i=.int .i64 q∧m=.int .i64 ((k+q*3:Nat):Int)) (fun _ i=>n-(intOf i).toNat)
 case atStart=>exact ⟨0,Nat.zero_le _,rfl,by simp⟩
 case round=>
  obtain ⟨q,hq,rfl,rfl⟩:=hrel
  by_cases hlt:q<n
  ·obtain rfl:=ha (by omega)
   have d0:w.cell? ⟨b,off+q*3,none⟩=some (.int .i64 ((k+q*3+0:Nat):Int)):=Hm.out q hlt 0 (by omega)
   have d1:w.cell? ⟨b,off+q*3+1,none⟩=some (.int .i64 ((k+q*3+1:Nat):Int)):=Hm.out q hlt 1 (by omega)
   have d2:w.cell? ⟨b,off+q*3+2,none⟩=some (.int .i64 ((k+q*3+2:Nat):Int)):=Hm.out q hlt 2 (by omega)
   go_wp2_with fail
   go_round
   case rel=>exact ⟨q+1,by omega,by go_num,by go_num⟩
   case measure=>simp [intOf];omega
  ·obtain rfl:q=n:=by omega
   go_wp2_with fail
   go_ret
   exact ⟨rfl,rfl⟩
set_option maxHeartbeats 1000000 in
theorem markNet20x (pb n jb m k D:Nat)(N bs:Nat→Nat)(w:World)(hn:n≤1048576)(hm:m≤1048576)(hk:k≤1000000)(hr:∃ f,w.rowIs pb 82 (n*4) f)(hsh:JsSh w jb D m N bs)(hsame:∀ i j,i<m→j<m→bs j=bs i→N j=N i)(hlt:pb<jb)(hD:jb<D)(hDs:D≤w.heap.size):
 Calls Tryz.prog 14 #[.agg #[.slice (some ⟨pb,0,none⟩) n n,.slice (some ⟨jb,0,none⟩) m m],.int .i64 k] w fun e w'=>∃ k':Nat,e=.returned (.int .i64 k')∧k'≤4398046511104∧Amid pb D w w':=by
 have HS:Hid (∀ i j,i<m→j<m→bs j=bs i→N j=N i):=hsame
 have HSH:Hid (JsSh w jb D m N bs):=hsh
 clear hsame hsh
 go_enter Tryz.func14,Tryz.ntmps14
 go_wp2_with fail
 have b0:=bel1 w (.cells #[.slice (some ⟨pb,0,none⟩) n n,.slice (some ⟨jb,0,none⟩) m m] 38)
 have hr1:∃ f,(w.alloc (.cells #[.slice (some ⟨pb,0,none⟩) n n,.slice (some ⟨jb,0,none⟩) m m] 38)).rowIs pb 82 (n*4) f:=by
  obtain ⟨f,hr⟩:=hr
  exact ⟨f,hr.alloc _⟩
 refine (markPieceS49 pb n k _ hn (by omega) hr1).mono ?_
 rintro e w1 ⟨rfl,ha1,_⟩
 have HSH1:Hid (JsSh w1 jb D m N bs):=(HSH.out.below b0).amid2 ha1 (by omega)
 have HA1:Hid (Amid pb D w w1):=(Amid.ofBelow b0).trans (ha1.wide lr (by omega))
 have a1:w1.cell? ⟨w.heap.size,1,none⟩=some (.slice (some ⟨jb,0,none⟩) m m):=by
  rw [World.cell?_of_block (w:=w.alloc (.cells #[.slice (some ⟨pb,0,none⟩) n n,.slice (some ⟨jb,0,none⟩) m m] 38)) (ha1.block w.heap.size (by simp) (by omega))]
  simp
 clear HSH hr hr1 ha1 b0
 go_wp2_with fail
 refine (markJointS50 jb D m (k+n*4) N bs _ hm (by omega) HSH1.out HS.out).mono ?_
 rintro e w2 ⟨k',rfl,hk',ha2⟩
 have hA2:=HA1.out.trans (ha2.wide (by omega) lr)
 clear HA1 HSH1 HS
 go_wp2_with fail
 go_ret
 exact ⟨k',rfl,by omega,hA2⟩
def TrX (w : World) (fp fa fw lg : Int) (nb : Nat) (B : Nat → Nat → Int) (e : Ending) (w' : World) : Prop := ∃ bn : Nat, e = .returned (.agg #[.int .i64 fp, .int .i64 fa, .int .i64 fw, .int .i64 lg, .slice (some ⟨bn, 0, none⟩) nb nb]) ∧ VOwn w.heap.size 79 2 w' (.slice (some ⟨bn, 0, none⟩) nb nb) nb (intF B) ∧ Below w.heap.size w w'
theorem NsTo.own {w : World} {B n : Nat} {F : Nat → Nat → Int} (h : NsTo w B n n F) (hn : n ≤ maxLen) : VOwn B 79 2 w (.slice (some ⟨B, 0, none⟩) n n) n (intF F) := by
  obtain ⟨f, ⟨cur, h1, h2, h3⟩, hf⟩ := h
  refine .inr ⟨B, n, cur, rfl, Nat.le_refl _, h1, Nat.le_refl _, hn, h2, fun i hi j hj => ?_⟩
  have hk : i * 2 + j < n * 2 := by omega
  rw [h3 _ hk]
  rcases (show j = 0 ∨ j = 1 by omega) with rfl | rfl
  · rw [Nat.add_zero, (hf i hi).1]
  · rw [(hf i hi).2]
set_option maxHeartbeats 1000000 in
theorem toStepS29x (a : Option Addr) (n cap : Nat) (E : Nat → Nat → Int) (w : World) (hn : n ≤ 1048576) (hE : NsAt 2 0 w a n E) :
    Calls Tryz.prog 29 #[.slice a n cap] w fun e w' => e = .returned (.slice (some ⟨w.heap.size, 0, none⟩) n n) ∧ VOwn w.heap.size 79 2 w' (.slice (some ⟨w.heap.size, 0, none⟩) n n) n (intF E) ∧ Below w.heap.size w w' := by
  have hmk := make_rows (P := Tryz.prog) 41 79 _ 16 2 Tryz.underlying41 info114 n (by omega) (by omega)
  have hf0 : NsTo (w.alloc (.cells (mk0 (.agg #[.int .i64 0, .int .i64 0]) (n * 2)) 79)) w.heap.size n 0 E := by
    obtain ⟨f0, hf0⟩ := row_mk0 w (.agg #[.int .i64 0, .int .i64 0]) (n * 2) 79
    exact ⟨f0, hf0, fun j hj => absurd hj (Nat.not_lt_zero _)⟩
  go_enter Tryz.func29, Tryz.ntmps29
  go_wp2_with fail
  go_loopw [4] (fun i wr => ∃ (k : Nat), k ≤ n ∧ i = .int .i64 k ∧ NsTo wr w.heap.size n k E ∧ Below w.heap.size w wr) (fun i _ => n - (intOf i).toNat)
  case atStart => exact ⟨0, Nat.zero_le _, rfl, hf0, bel1 _ _⟩
  case round =>
    obtain ⟨k, hk, rfl, hto, hbel⟩ := hrel
    clear hf0 hmk
    by_cases hlt : k < n
    · obtain ⟨b, off, rfl, _, hb, hc⟩ := (hE.mono (Nat.le_refl _) hbel (Nat.le_refl _)) (by omega)
      have c0 : wr.cell? ⟨b, off + k * 2, none⟩ = some (.int .i64 (E k 0)) := hc k hlt 0 (by omega)
      have c1 : wr.cell? ⟨b, off + k * 2 + 1, none⟩ = some (.int .i64 (E k 1)) := hc k hlt 1 (by omega)
      clear hc
      go_wp2_with fail
      refine (toStep65 (E k 0) (E k 1) _).mono ?_
      rintro e w1 ⟨rfl, hb1⟩
      have hto1 : NsTo w1 w.heap.size n k E := by
        obtain ⟨f, hr, hf⟩ := hto
        exact ⟨f, rowBel hr hb1 hr.lt, hf⟩
      have hbel1 := hbel.trans (hb1.mono hbel.size)
      have hR := hto1.step
      obtain ⟨f, hr1, _⟩ := hto1
      have d0 := hr1.cell (i := k * 2) (by omega)
      have d1 := hr1.cell (i := k * 2 + 1) (by omega)
      have e0 := hr1.frozen (k * 2)
      have e1 := hr1.frozen (k * 2 + 1)
      clear c0 c1 hto hr1
      go_wp2_with fail
      go_roundw
      case rel => exact ⟨k + 1, by omega, by go_num, hR, (hbel1.setCell (Nat.le_refl _) _).setCell (Nat.le_refl _) _⟩
      case measure => simp [intOf]; omega
    · obtain rfl : k = n := by omega
      go_wp2
      go_ret
      exact ⟨rfl, hto.own (by simp only [maxLen]; omega), hbel⟩
set_option maxHeartbeats 4000000 in
theorem toTrain9x (fp fa fw lg : Int) (nb : Nat) (B : Nat → Nat → Int) (ba : Option Addr) (bk : Nat) (w : World) (hn : nb ≤ 1048576) (hB : NsAt 2 0 w ba nb B) :
    Calls Tryz.prog 9 #[.agg #[.int .i64 fp, .int .i64 fa, .int .i64 fw, .int .i64 lg, .slice ba nb bk]] w fun e w' => TrX w fp fa fw lg nb B e w' := by
  have S0 : Hid (Below w.heap.size w (((w.alloc (.cells #[.int .i64 fp, .int .i64 fa, .int .i64 fw, .int .i64 lg, .slice ba nb bk] 30)).alloc (.cells #[.int .i64 0, .int .i64 0, .int .i64 0, .int .i64 0, .slice none 0 0] 43)).alloc (.cells #[.int .i64 0, .int .i64 0, .int .i64 0, .int .i64 0, .slice none 0 0] 43)) ∧ Box (((w.alloc (.cells #[.int .i64 fp, .int .i64 fa, .int .i64 fw, .int .i64 lg, .slice ba nb bk] 30)).alloc (.cells #[.int .i64 0, .int .i64 0, .int .i64 0, .int .i64 0, .slice none 0 0] 43)).alloc (.cells #[.int .i64 0, .int .i64 0, .int .i64 0, .int .i64 0, .slice none 0 0] 43)) w.heap.size 30 #[.int .i64 fp, .int .i64 fa, .int .i64 fw, .int .i64 lg, .slice ba nb bk] ∧ Box (((w.alloc (.cells #[.int .i64 fp, .int .i64 fa, .int .i64 fw, .int .i64 lg, .slice ba nb bk] 30)).alloc (.cells #[.int .i64 0, .int .i64 0, .int .i64 0, .int .i64 0, .slice none 0 0] 43)).alloc (.cells #[.int .i64 0, .int .i64 0, .int .i64 0, .int .i64 0, .slice none 0 0] 43)) (w.heap.size + 1) 43 #[.int .i64 0, .int .i64 0, .int .i64 0, .int .i64 0, .slice none 0 0] ∧ Box (((w.alloc (.cells #[.int .i64 fp, .int .i64 fa, .int .i64 fw, .int .i64 lg, .slice ba nb bk] 30)).alloc (.cells #[.int .i64 0, .int .i64 0, .int .i64 0, .int .i64 0, .slice none 0 0] 43)).alloc (.cells #[.int .i64 0, .int .i64 0, .int .i64 0, .int .i64 0, .slice none 0 0] 43)) (w.heap.size + 1 + 1) 43 #[.int .i64 0, .int .i64 0, .int .i64 0, .int .i64 0, .slice none 0 0]) := ⟨((Below.refl _ _).alloc (Nat.le_refl _) _ |>.alloc (by simp) _ |>.alloc (by simp; omega) _), ((Box.new _ _ _).alloc _).alloc _, by have := (Box.new (w.alloc (.cells #[.int .i64 fp, .int .i64 fa, .int .i64 fw, .int .i64 lg, .slice ba nb bk] 30)) 43 #[.int .i64 0, .int .i64 0, .int .i64 0, .int .i64 0, .slice none 0 0]).alloc (.cells #[.int .i64 0, .int .i64 0, .int .i64 0, .int .i64 0, .slice none 0 0] 43); simpa using this, by have := Box.new ((w.alloc (.cells #[.int .i64 fp, .int .i64 fa, .int .i64 fw, .int .i64 lg, .slice ba nb bk] 30)).alloc (.cells #[.int .i64 0, .int .i64 0, .int .i64 0, .int .i64 0, .slice none 0 0] 43)) 43 #[.int .i64 0, .int .i64 0, .int .i64 0, .int .i64 0, .slice none 0 0]; simpa using this⟩
  go_enter Tryz.func9, Tryz.ntmps9
  go_upto_region 2 with fail
  generalize (((w.alloc (.cells #[.int .i64 fp, .int .i64 fa, .int .i64 fw, .int .i64 lg, .slice ba nb bk] 30)).alloc (.cells #[.int .i64 0, .int .i64 0, .int .i64 0, .int .i64 0, .slice none 0 0] 43)).alloc (.cells #[.int .i64 0, .int .i64 0, .int .i64 0, .int .i64 0, .slice none 0 0] 43)) = V0 at S0 ⊢
  have t0 : V0.cell? ⟨w.heap.size, 0, none⟩ = some (.int .i64 fp) := S0.out.2.1.cell 0
  have t1 : V0.cell? ⟨w.heap.size, 1, none⟩ = some (.int .i64 fa) := S0.out.2.1.cell 1
  have t2 : V0.cell? ⟨w.heap.size, 2, none⟩ = some (.int .i64 fw) := S0.out.2.1.cell 2
  have t3 : V0.cell? ⟨w.heap.size, 3, none⟩ = some (.int .i64 lg) := S0.out.2.1.cell 3
  have t4 : V0.cell? ⟨w.heap.size, 4, none⟩ = some (.slice ba nb bk) := S0.out.2.1.cell 4
  go_wp2_with fail
  clear t0 t1 t2 t3 t4
  refine (toSpot38 fp fa fw V0).mono ?_
  rintro e w1 ⟨rfl, hb1⟩
  have S1 : Hid (Below w.heap.size w w1 ∧ Box w1 w.heap.size 30 #[.int .i64 fp, .int .i64 fa, .int .i64 fw, .int .i64 lg, .slice ba nb bk] ∧ Box w1 (w.heap.size + 1) 43 #[.int .i64 0, .int .i64 0, .int .i64 0, .int .i64 0, .slice none 0 0] ∧ Box w1 (w.heap.size + 1 + 1) 43 #[.int .i64 0, .int .i64 0, .int .i64 0, .int .i64 0, .slice none 0 0]) := ⟨S0.out.1.trans (hb1.mono S0.out.1.size), S0.out.2.1.mono hb1 (Nat.le_refl _), S0.out.2.2.1.mono hb1 (Nat.le_refl _), S0.out.2.2.2.mono hb1 (Nat.le_refl _)⟩
  clear hb1 S0
  have e0 : w.heap.size ≠ w.heap.size + 1 + 1 := by omega
  have e1 : w.heap.size + 1 ≠ w.heap.size + 1 + 1 := by omega
  have S2 : Hid (Below w.heap.size w ((((w1.setCell ⟨w.heap.size + 1 + 1, 0, none⟩ (.int .i64 fp)).setCell ⟨w.heap.size + 1 + 1, 1, none⟩ (.int .i64 fa)).setCell ⟨w.heap.size + 1 + 1, 2, none⟩ (.int .i64 fw)).setCell ⟨w.heap.size + 1 + 1, 3, none⟩ (.int .i64 lg)) ∧ Box ((((w1.setCell ⟨w.heap.size + 1 + 1, 0, none⟩ (.int .i64 fp)).setCell ⟨w.heap.size + 1 + 1, 1, none⟩ (.int .i64 fa)).setCell ⟨w.heap.size + 1 + 1, 2, none⟩ (.int .i64 fw)).setCell ⟨w.heap.size + 1 + 1, 3, none⟩ (.int .i64 lg)) w.heap.size 30 #[.int .i64 fp, .int .i64 fa, .int .i64 fw, .int .i64 lg, .slice ba nb bk] ∧ Box ((((w1.setCell ⟨w.heap.size + 1 + 1, 0, none⟩ (.int .i64 fp)).setCell ⟨w.heap.size + 1 + 1, 1, none⟩ (.int .i64 fa)).setCell ⟨w.heap.size + 1 + 1, 2, none⟩ (.int .i64 fw)).setCell ⟨w.heap.size + 1 + 1, 3, none⟩ (.int .i64 lg)) (w.heap.size + 1) 43 #[.int .i64 0, .int .i64 0, .int .i64 0, .int .i64 0, .slice none 0 0] ∧ Box ((((w1.setCell ⟨w.heap.size + 1 + 1, 0, none⟩ (.int .i64 fp)).setCell ⟨w.heap.size + 1 + 1, 1, none⟩ (.int .i64 fa)).setCell ⟨w.heap.size + 1 + 1, 2, none⟩ (.int .i64 fw)).setCell ⟨w.heap.size + 1 + 1, 3, none⟩ (.int .i64 lg)) (w.heap.size + 1 + 1) 43 #[.int .i64 fp, .int .i64 fa, .int .i64 fw, .int .i64 lg, .slice none 0 0]) := ⟨((((S1.out.1.setCell (Nat.le_add_right _ 2) _).setCell (Nat.le_add_right _ 2) _).setCell (Nat.le_add_right _ 2) _).setCell (Nat.le_add_right _ 2) _), ((((S1.out.2.1.other e0 _).other e0 _).other e0 _).other e0 _), ((((S1.out.2.2.1.other e1 _).other e1 _).other e1 _).other e1 _), by
    have h9 := (((S1.out.2.2.2.set 0 (.int .i64 fp)).set 1 (.int .i64 fa)).set 2 (.int .i64 fw)).set 3 (.int .i64 lg)
    exact h9⟩
  have t3 : w1.cell? ⟨w.heap.size, 3, none⟩ = some (.int .i64 lg) := S1.out.2.1.cell 3
  have t4 : w1.cell? ⟨w.heap.size, 4, none⟩ = some (.slice ba nb bk) := S1.out.2.1.cell 4
  have z0 : w1.cell? ⟨w.heap.size + 1 + 1, 0, none⟩ = some (.int .i64 0) := S1.out.2.2.2.cell 0
  have z1 : w1.cell? ⟨w.heap.size + 1 + 1, 1, none⟩ = some (.int .i64 0) := S1.out.2.2.2.cell 1
  have z2 : w1.cell? ⟨w.heap.size + 1 + 1, 2, none⟩ = some (.int .i64 0) := S1.out.2.2.2.cell 2
  have z3 : w1.cell? ⟨w.heap.size + 1 + 1, 3, none⟩ = some (.int .i64 0) := S1.out.2.2.2.cell 3
  have z4 : w1.cell? ⟨w.heap.size + 1 + 1, 4, none⟩ = some (.slice none 0 0) := S1.out.2.2.2.cell 4
  have q0 := S1.out.2.2.2.free 0
  have q1 := S1.out.2.2.2.free 1
  have q2 := S1.out.2.2.2.free 2
  have q3 := S1.out.2.2.2.free 3
  have q4 := S1.out.2.2.2.free 4
  go_wp2_with fail
  clear t3 t4 z0 z1 z2 z3 z4 q0 q1 q2 q3 q4 S1
  generalize ((((w1.setCell ⟨w.heap.size + 1 + 1, 0, none⟩ (.int .i64 fp)).setCell ⟨w.heap.size + 1 + 1, 1, none⟩ (.int .i64 fa)).setCell ⟨w.heap.size + 1 + 1, 2, none⟩ (.int .i64 fw)).setCell ⟨w.heap.size + 1 + 1, 3, none⟩ (.int .i64 lg)) = V2 at S2 ⊢
  refine (toStepS29x ba nb bk B V2 hn (hB.mono (Nat.le_refl _) S2.out.1 (Nat.le_refl _))).mono ?_
  rintro e w3 ⟨rfl, hN3, hb3⟩
  have S3 : Hid (Below w.heap.size w w3 ∧ Box w3 w.heap.size 30 #[.int .i64 fp, .int .i64 fa, .int .i64 fw, .int .i64 lg, .slice ba nb bk] ∧ Box w3 (w.heap.size + 1) 43 #[.int .i64 0, .int .i64 0, .int .i64 0, .int .i64 0, .slice none 0 0] ∧ Box w3 (w.heap.size + 1 + 1) 43 #[.int .i64 fp, .int .i64 fa, .int .i64 fw, .int .i64 lg, .slice none 0 0]) := ⟨S2.out.1.trans (hb3.mono S2.out.1.size), S2.out.2.1.mono hb3 (Nat.le_refl _), S2.out.2.2.1.mono hb3 (Nat.le_refl _), S2.out.2.2.2.mono hb3 (Nat.le_refl _)⟩
  have HN : Hid (VOwn V2.heap.size 79 2 w3 (.slice (some ⟨V2.heap.size, 0, none⟩) nb nb) nb (intF B) ∧ w.heap.size + 1 + 1 < V2.heap.size) := ⟨hN3, S2.out.2.2.2.lt⟩
  clear hb3 hN3 S2
  generalize V2.heap.size = bn at HN ⊢
  have S4 : Hid ((Below w.heap.size w (w3.setCell ⟨w.heap.size + 1 + 1, 4, none⟩ (.slice (some ⟨bn, 0, none⟩) nb nb)) ∧ Box (w3.setCell ⟨w.heap.size + 1 + 1, 4, none⟩ (.slice (some ⟨bn, 0, none⟩) nb nb)) w.heap.size 30 #[.int .i64 fp, .int .i64 fa, .int .i64 fw, .int .i64 lg, .slice ba nb bk] ∧ Box (w3.setCell ⟨w.heap.size + 1 + 1, 4, none⟩ (.slice (some ⟨bn, 0, none⟩) nb nb)) (w.heap.size + 1) 43 #[.int .i64 0, .int .i64 0, .int .i64 0, .int .i64 0, .slice none 0 0] ∧ Box (w3.setCell ⟨w.heap.size + 1 + 1, 4, none⟩ (.slice (some ⟨bn, 0, none⟩) nb nb)) (w.heap.size + 1 + 1) 43 #[.int .i64 fp, .int .i64 fa, .int .i64 fw, .int .i64 lg, .slice (some ⟨bn, 0, none⟩) nb nb]) ∧ VOwn bn 79 2 (w3.setCell ⟨w.heap.size + 1 + 1, 4, none⟩ (.slice (some ⟨bn, 0, none⟩) nb nb)) (.slice (some ⟨bn, 0, none⟩) nb nb) nb (intF B)) := ⟨⟨S3.out.1.setCell (Nat.le_add_right _ 2) _, S3.out.2.1.other e0 _, S3.out.2.2.1.other e1 _, by
    have h9 := S3.out.2.2.2.set 4 (.slice (some ⟨bn, 0, none⟩) nb nb)
    exact h9⟩, HN.out.1.set S3.out.2.2.2 (by decide) 4 _⟩
  have z4 : w3.cell? ⟨w.heap.size + 1 + 1, 4, none⟩ = some (.slice none 0 0) := S3.out.2.2.2.cell 4
  have q4 := S3.out.2.2.2.free 4
  have HL : Hid (w.heap.size + 1 + 1 < bn) := HN.out.2
  clear HN S3
  go_upto_region 5 with fail
  clear z4 q4
  generalize (w3.setCell ⟨w.heap.size + 1 + 1, 4, none⟩ (.slice (some ⟨bn, 0, none⟩) nb nb)) = V4 at S4 ⊢
  have z0 : V4.cell? ⟨w.heap.size + 1 + 1, 0, none⟩ = some (.int .i64 fp) := S4.out.1.2.2.2.cell 0
  have z1 : V4.cell? ⟨w.heap.size + 1 + 1, 1, none⟩ = some (.int .i64 fa) := S4.out.1.2.2.2.cell 1
  have z2 : V4.cell? ⟨w.heap.size + 1 + 1, 2, none⟩ = some (.int .i64 fw) := S4.out.1.2.2.2.cell 2
  have z3 : V4.cell? ⟨w.heap.size + 1 + 1, 3, none⟩ = some (.int .i64 lg) := S4.out.1.2.2.2.cell 3
  have z4 : V4.cell? ⟨w.heap.size + 1 + 1, 4, none⟩ = some (.slice (some ⟨bn, 0, none⟩) nb nb) := S4.out.1.2.2.2.cell 4
  have y0 : V4.cell? ⟨w.heap.size + 1, 0, none⟩ = some (.int .i64 0) := S4.out.1.2.2.1.cell 0
  have y1 : V4.cell? ⟨w.heap.size + 1, 1, none⟩ = some (.int .i64 0) := S4.out.1.2.2.1.cell 1
  have y2 : V4.cell? ⟨w.heap.size + 1, 2, none⟩ = some (.int .i64 0) := S4.out.1.2.2.1.cell 2
  have y3 : V4.cell? ⟨w.heap.size + 1, 3, none⟩ = some (.int .i64 0) := S4.out.1.2.2.1.cell 3
  have y4 : V4.cell? ⟨w.heap.size + 1, 4, none⟩ = some (.slice none 0 0) := S4.out.1.2.2.1.cell 4
  have q0 := S4.out.1.2.2.1.free 0
  have q1 := S4.out.1.2.2.1.free 1
  have q2 := S4.out.1.2.2.1.free 2
  have q3 := S4.out.1.2.2.1.free 3
  have q4 := S4.out.1.2.2.1.free 4
  have S5 : Hid ((Below w.heap.size w (((((V4.setCell ⟨w.heap.size + 1, 0, none⟩ (.int .i64 fp)).setCell ⟨w.heap.size + 1, 1, none⟩ (.int .i64 fa)).setCell ⟨w.heap.size + 1, 2, none⟩ (.int .i64 fw)).setCell ⟨w.heap.size + 1, 3, none⟩ (.int .i64 lg)).setCell ⟨w.heap.size + 1, 4, none⟩ (.slice (some ⟨bn, 0, none⟩) nb nb)) ∧ Box (((((V4.setCell ⟨w.heap.size + 1, 0, none⟩ (.int .i64 fp)).setCell ⟨w.heap.size + 1, 1, none⟩ (.int .i64 fa)).setCell ⟨w.heap.size + 1, 2, none⟩ (.int .i64 fw)).setCell ⟨w.heap.size + 1, 3, none⟩ (.int .i64 lg)).setCell ⟨w.heap.size + 1, 4, none⟩ (.slice (some ⟨bn, 0, none⟩) nb nb)) (w.heap.size + 1) 43 #[.int .i64 fp, .int .i64 fa, .int .i64 fw, .int .i64 lg, .slice (some ⟨bn, 0, none⟩) nb nb]) ∧ VOwn bn 79 2 (((((V4.setCell ⟨w.heap.size + 1, 0, none⟩ (.int .i64 fp)).setCell ⟨w.heap.size + 1, 1, none⟩ (.int .i64 fa)).setCell ⟨w.heap.size + 1, 2, none⟩ (.int .i64 fw)).setCell ⟨w.heap.size + 1, 3, none⟩ (.int .i64 lg)).setCell ⟨w.heap.size + 1, 4, none⟩ (.slice (some ⟨bn, 0, none⟩) nb nb)) (.slice (some ⟨bn, 0, none⟩) nb nb) nb (intF B)) := ⟨⟨(((((S4.out.1.1.setCell (Nat.le_add_right _ 1) _).setCell (Nat.le_add_right _ 1) _).setCell (Nat.le_add_right _ 1) _).setCell (Nat.le_add_right _ 1) _).setCell (Nat.le_add_right _ 1) _), by
    have h9 := (((((S4.out.1.2.2.1.set 0 (.int .i64 fp)).set 1 (.int .i64 fa)).set 2 (.int .i64 fw)).set 3 (.int .i64 lg)).set 4 (.slice (some ⟨bn, 0, none⟩) nb nb))
    exact h9⟩, (((((S4.out.2.set S4.out.1.2.2.1 (by decide) 0 _).set (S4.out.1.2.2.1.set 0 (.int .i64 fp)) (by decide) 1 _).set ((S4.out.1.2.2.1.set 0 (.int .i64 fp)).set 1 (.int .i64 fa)) (by decide) 2 _).set (((S4.out.1.2.2.1.set 0 (.int .i64 fp)).set 1 (.int .i64 fa)).set 2 (.int .i64 fw)) (by decide) 3 _).set ((((S4.out.1.2.2.1.set 0 (.int .i64 fp)).set 1 (.int .i64 fa)).set 2 (.int .i64 fw)).set 3 (.int .i64 lg)) (by decide) 4 _)⟩
  go_wp2_with fail
  clear z0 z1 z2 z3 z4 y0 y1 y2 y3 y4 q0 q1 q2 q3 q4 S4
  generalize (((((V4.setCell ⟨w.heap.size + 1, 0, none⟩ (.int .i64 fp)).setCell ⟨w.heap.size + 1, 1, none⟩ (.int .i64 fa)).setCell ⟨w.heap.size + 1, 2, none⟩ (.int .i64 fw)).setCell ⟨w.heap.size + 1, 3, none⟩ (.int .i64 lg)).setCell ⟨w.heap.size + 1, 4, none⟩ (.slice (some ⟨bn, 0, none⟩) nb nb)) = W9 at S5 ⊢
  have z0 : W9.cell? ⟨w.heap.size + 1, 0, none⟩ = some (.int .i64 fp) := S5.out.1.2.cell 0
  have z1 : W9.cell? ⟨w.heap.size + 1, 1, none⟩ = some (.int .i64 fa) := S5.out.1.2.cell 1
  have z2 : W9.cell? ⟨w.heap.size + 1, 2, none⟩ = some (.int .i64 fw) := S5.out.1.2.cell 2
  have z3 : W9.cell? ⟨w.heap.size + 1, 3, none⟩ = some (.int .i64 lg) := S5.out.1.2.cell 3
  have z4 : W9.cell? ⟨w.heap.size + 1, 4, none⟩ = some (.slice (some ⟨bn, 0, none⟩) nb nb) := S5.out.1.2.cell 4
  exact bodyPost_ret (v := .agg #[.int .i64 fp, .int .i64 fa, .int .i64 fw, .int .i64 lg, .slice (some ⟨bn, 0, none⟩) nb nb]) (by simp [results, Tryz.results9, go_sem, z0, z1, z2, z3, z4]) rfl ⟨bn, rfl, S5.out.2.keep (by have := HL.out; omega) (fun _ _ => rfl), S5.out.1.1⟩
set_option maxHeartbeats 2000000 in
theorem markTrain15 (t0 t1 t2 t3 : Int) (a : Option Addr) (n cap k b off : Nat) (w : World) (hn : n ≤ 1048576) (hk : k ≤ 1152921504606846976) (ha : 0 < n → a = some ⟨b, off, none⟩) (hl : 0 < n → b < w.heap.size) (hw : ∀ o, off ≤ o → o < off + n * 2 → (∃ v, w.cell? ⟨b, o, none⟩ = some v) ∧ w.frozen? ⟨b, o, none⟩ = false) :
    Calls Tryz.prog 15 #[.agg #[.int .i64 t0, .int .i64 t1, .int .i64 t2, .int .i64 t3, .slice a n cap], .int .i64 k] w fun e w' => e = .returned (.int .i64 ((k + n * 2 : Nat) : Int)) ∧ (∃ o, Within b off (off + n * 2) (w.alloc o) w') ∧ ∀ i, i < n → ∀ j, j < 2 → w'.cell? ⟨b, off + i * 2 + j, none⟩ = some (.int .i64 ((k + i * 2 + j : Nat) : Int)) := by
  have hb := bel1 w (.cells #[.int .i64 t0, .int .i64 t1, .int .i64 t2, .int .i64 t3, .slice a n cap] 43)
  have t4 : (w.alloc (.cells #[.int .i64 t0, .int .i64 t1, .int .i64 t2, .int .i64 t3, .slice a n cap] 43)).cell? ⟨w.heap.size, 4, none⟩ = some (.slice a n cap) := (Box.new w 43 #[.int .i64 t0, .int .i64 t1, .int .i64 t2, .int .i64 t3, .slice a n cap]).cell 4
  have HW : Hid (∀ o, off ≤ o → o < off + n * 2 → (∃ v, (w.alloc (.cells #[.int .i64 t0, .int .i64 t1, .int .i64 t2, .int .i64 t3, .slice a n cap] 43)).cell? ⟨b, o, none⟩ = some v) ∧ (w.alloc (.cells #[.int .i64 t0, .int .i64 t1, .int .i64 t2, .int .i64 t3, .slice a n cap] 43)).frozen? ⟨b, o, none⟩ = false) := fun o h1 h2 => by
    obtain ⟨⟨v, hv⟩, hf⟩ := hw o h1 h2
    exact ⟨⟨v, cell_keep hb (hl (by omega)) hv⟩, (hb.frozen (p := ⟨b, o, none⟩) (hl (by omega))).trans hf⟩
  clear hw
  go_enter Tryz.func15, Tryz.ntmps15
  go_wp2_with fail
  refine (markStepS52 a n cap k b off _ hn hk ha HW.out).mono ?_
  rintro e w1 ⟨rfl, h1, h2⟩
  go_wp2_with fail
  go_ret
  exact ⟨rfl, ⟨_, h1⟩, h2⟩
set_option maxHeartbeats 2000000 in
theorem heldTrain20 (t0 t1 t2 t3 : Int) (a : Option Addr) (n cap k b off : Nat) (w : World) (hn : n ≤ 1048576) (hk : k ≤ 1152921504606846976) (ha : 0 < n → a = some ⟨b, off, none⟩) (hl : 0 < n → b < w.heap.size) (hm : ∀ i, i < n → ∀ j, j < 2 → w.cell? ⟨b, off + i * 2 + j, none⟩ = some (.int .i64 ((k + i * 2 + j : Nat) : Int))) :
    Calls Tryz.prog 20 #[.agg #[.int .i64 t0, .int .i64 t1, .int .i64 t2, .int .i64 t3, .slice a n cap], .int .i64 k] w fun e w' => e = .returned (.int .i64 ((k + n * 2 : Nat) : Int)) ∧ Below w.heap.size w w' := by
  have hb := bel1 w (.cells #[.int .i64 t0, .int .i64 t1, .int .i64 t2, .int .i64 t3, .slice a n cap] 43)
  have t4 : (w.alloc (.cells #[.int .i64 t0, .int .i64 t1, .int .i64 t2, .int .i64 t3, .slice a n cap] 43)).cell? ⟨w.heap.size, 4, none⟩ = some (.slice a n cap) := (Box.new w 43 #[.int .i64 t0, .int .i64 t1, .int .i64 t2, .int .i64 t3, .slice a n cap]).cell 4
  have HM : Hid (∀ i, i < n → ∀ j, j < 2 → (w.alloc (.cells #[.int .i64 t0, .int .i64 t1, .int .i64 t2, .int .i64 t3, .slice a n cap] 43)).cell? ⟨b, off + i * 2 + j, none⟩ = some (.int .i64 ((k + i * 2 + j : Nat) : Int))) := fun i hi j hj => cell_keep hb (hl (by omega)) (hm i hi j hj)
  have hnn : ¬ (((k + n * 2 : Nat) : Int) < 0) := by omega
  have hnn2 : ¬ ((k : Int) + (n : Int) * 2 < 0) := by omega
  clear hm
  go_enter Tryz.func20, Tryz.ntmps20
  go_wp2_with fail
  refine (heldStepS57 a n cap k b off _ hn hk ha HM.out).mono ?_
  rintro e w1 ⟨rfl, rfl⟩
  go_wp2_with fail
  go_ret
  exact ⟨rfl, bel1 _ _⟩

end Go.Proofs.YtoennemahlakeaaGreat
