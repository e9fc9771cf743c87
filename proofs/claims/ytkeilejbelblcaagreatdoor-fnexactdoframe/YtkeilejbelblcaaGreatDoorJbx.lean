import Derived.Test.YtkeilejbelblcaaGreatDoorJap
import Derived.Test.YtkeilejbelblcaaGreatDoorJbb
import Derived.Test.YtkeilejbelblcaaGreatDoorJai
import Derived.Test.YtkeilejbelblcaaGreatDoorJbq
import Derived.Test.YtkeilejbelblcaaGreatDoorSd
namespace Go.Proofs.YtkeilejbelblcaaGreatDoor
open Go.RowKit Go.Lib
set_option maxHeartbeats 400000 in
theorem toPoint (a0 a1:Int) (w:World):
  Calls Tryz.prog 75 #[.agg #[.int .i64 a0,.int .i64 a1]] w fun e w'=>e=.returned (.agg #[.int .i64 a0,.int .i64 a1])/\Below w.heap.size w w':=by
 go_enter Tryz.func75,Tryz.ntmps75
 go_wp2
 exact bodyPost_ret (v:=.agg #[.int .i64 a0,.int .i64 a1]) (by simp[results,Tryz.results75,go_sem]) rfl ⟨rfl,bel3 _ _ _ _⟩
set_option maxHeartbeats 1000000 in
theorem toPointS (a:Option Addr) (n cap:Nat) (F:Nat->Nat->Int) (w:World) (hn:n<=1048576) (hE:VsAt 2 0 w a n (intF F)):
  Calls Tryz.prog 40 #[.slice a n cap] w fun e w'=>∃b,b=w.heap.size/\e=.returned (.slice (some (ad b 0)) n n)/\VOwn b 69 2 w' (.slice (some (ad b 0)) n n) n (intF F)/\Below w.heap.size w w':=by
 have hmk:=make_rows (P:=Tryz.prog) 39 69 _ 16 2 Tryz.underlying39 infoPoint n (by omega) (by omega)
 have hf0:=VTo.new 2 69 w (.agg #[.int .i64 0,.int .i64 0]) n (intF F)
 go_enter Tryz.func40,Tryz.ntmps40
 go_wp2_with fail
 go_loopw [4] (fun i wr=>∃(k:Nat),k<=n/\i=.int .i64 k/\VTo 2 69 wr w.heap.size n (k*2) (intF F)/\Below w.heap.size w wr) (fun i _=>n-(intOf i).toNat)
 case atStart=>exact⟨0,Nat.zero_le _,rfl,by first |exact hf0|simpa only[Nat.mul_one] using hf0,bel1 _ _⟩
 case round=>
  obtain⟨k,hk,rfl,hto,hbel⟩:=hrel
  clear hf0 hmk
  by_cases hlt:k<n
  ·
   obtain⟨b,off,rfl,_,hb,hc⟩:=(hE.mono nr hbel nr) (by omega)
   have c0:wr.cell? (ad b (off+k*2))=some (.int .i64 (F k 0)):=hc k hlt 0 (by omega)
   have c1:wr.cell? (ad b (off+k*2+1))=some (.int .i64 (F k 1)):=hc k hlt 1 (by omega)
   clear hc
   go_wp2_with fail
   refine(toPoint (F k 0) (F k 1) _).mono ?_
   rintro e w1 ⟨rfl,hb1⟩
   have hto1:VTo 2 69 w1 w.heap.size n (k*2) (intF F):=hto.below hb1
   have hbel1:=hbel.trans (hb1.mono hbel.size)
   have hR:=((hto1.step (x:=.int .i64 (F k 0)) (by rw[show(k*2) / 2=k by omega,show(k*2)%2=0 by omega]<;>rfl)).step (x:=.int .i64 (F k 1)) (by rw[show(k*2+1) / 2=k by omega,show(k*2+1)%2=1 by omega]<;>rfl))
   obtain⟨f,hr1,_⟩:=hto1
   have d0:=hr1.cell (i:=k*2) (by omega)
   have e0:=hr1.frozen (k*2)
   have d1:=hr1.cell (i:=k*2+1) (by omega)
   have e1:=hr1.frozen (k*2+1)
   clear c0 c1 hto hr1
   go_wp2_with fail
   go_roundw
   case rel=>exact⟨k+1,by omega,by go_num,by rw[show(k+1)*2=k*2+1+1 by omega];exact hR,((hbel1.setCell nr _).setCell nr _)⟩
   case measure=>simp[intOf];omega
  ·
   obtain rfl:k=n:=by omega
   go_wp2
   go_ret
   exact⟨_,rfl,rfl,VTo.own (by simpa using hto) (by simp[maxLen];omega),hbel⟩
def ThR (w:World) (h:Hl) (e:Ending) (w':World):Prop:=∃b1,e=.returned (.agg #[.int .i64 h.st,.int .i64 h.gone,.slice (some (ad b1 0)) h.nb h.nb,.bool h.shown,.int .i64 h.timer])/\w.heap.size<=b1/\VOwn b1 4 1 w' (.slice (some (ad b1 0)) h.nb h.nb) h.nb (boolF h.B)/\Below w.heap.size w w'
set_option maxRecDepth 100000 in
set_option maxHeartbeats 4000000 in
theorem toHeld77 (h:Hl) (ra:Option Addr) (rc:Nat) (w:World) (hn:h.nb<=1048576) (hv:VsAt 1 0 w ra h.nb (boolF h.B)):
  Calls Tryz.prog 76 #[.agg #[.int .i64 h.st,.int .i64 h.gone,.slice ra h.nb rc,.bool h.shown,.int .i64 h.timer]] w fun e w'=>ThR w h e w':=by
 have HVX:Hid (VsAt 1 0 w ra h.nb (boolF h.B)):=hv
 have S0:Hid (Below w.heap.size w (((w.alloc (.cells (vHl h ra rc) 122)).alloc (.cells zhv 72)).alloc (.cells #[.int .i64 h.st,.int .i64 h.gone,.slice none 0 0,.bool false,.int .i64 0] 72))/\Box (((w.alloc (.cells (vHl h ra rc) 122)).alloc (.cells zhv 72)).alloc (.cells #[.int .i64 h.st,.int .i64 h.gone,.slice none 0 0,.bool false,.int .i64 0] 72)) w.heap.size 122 (vHl h ra rc)/\Box (((w.alloc (.cells (vHl h ra rc) 122)).alloc (.cells zhv 72)).alloc (.cells #[.int .i64 h.st,.int .i64 h.gone,.slice none 0 0,.bool false,.int .i64 0] 72)) (w.heap.size+1) 72 zhv/\Box (((w.alloc (.cells (vHl h ra rc) 122)).alloc (.cells zhv 72)).alloc (.cells #[.int .i64 h.st,.int .i64 h.gone,.slice none 0 0,.bool false,.int .i64 0] 72)) (w.heap.size+1+1) 72 #[.int .i64 h.st,.int .i64 h.gone,.slice none 0 0,.bool false,.int .i64 0]):=⟨bel3 _ _ _ _,((Box.new _ _ _).alloc _).alloc _,by have :=(Box.new (w.alloc (.cells (vHl h ra rc) 122)) 72 zhv).alloc (.cells #[.int .i64 h.st,.int .i64 h.gone,.slice none 0 0,.bool false,.int .i64 0] 72);simpa using this,by have :=Box.new ((w.alloc (.cells (vHl h ra rc) 122)).alloc (.cells zhv 72)) 72 #[.int .i64 h.st,.int .i64 h.gone,.slice none 0 0,.bool false,.int .i64 0];simpa using this⟩
 have hsz:(((w.alloc (.cells (vHl h ra rc) 122)).alloc (.cells zhv 72)).alloc (.cells #[.int .i64 h.st,.int .i64 h.gone,.slice none 0 0,.bool false,.int .i64 0] 72)).heap.size=w.heap.size+1+1+1:=by simp
 clear hv
 go_enter Tryz.func76,Tryz.ntmps76
 go_wp2_with fail
 generalize (((w.alloc (.cells (vHl h ra rc) 122)).alloc (.cells zhv 72)).alloc (.cells #[.int .i64 h.st,.int .i64 h.gone,.slice none 0 0,.bool false,.int .i64 0] 72))=W at S0 hsz⊢
 refine(toBoolS ra h.nb rc h.B W hn (HVX.out.mono nr S0.out.1 nr)).mono ?_
 rintro e w1 ⟨b,hbe,rfl,ho,hb1⟩
 rw[hsz] at hbe
 subst hbe
 have S1:Hid (Below w.heap.size w w1/\Box w1 w.heap.size 122 (vHl h ra rc)/\Box w1 (w.heap.size+1) 72 zhv/\Box w1 (w.heap.size+1+1) 72 #[.int .i64 h.st,.int .i64 h.gone,.slice none 0 0,.bool false,.int .i64 0]/\VOwn (w.heap.size+1+1+1) 4 1 w1 (.slice (some (ad (w.heap.size+1+1+1) 0)) h.nb h.nb) h.nb (boolF h.B)):=⟨S0.out.1.trans (hb1.mono S0.out.1.size),S0.out.2.1.mono hb1 nr,S0.out.2.2.1.mono hb1 nr,S0.out.2.2.2.mono hb1 nr,ho⟩
 clear S0 ho hb1
 obtain⟨u0,u1,u2,u3,u4⟩:=S1.out.2.1.c5
 obtain⟨z0,z1,z2,z3,z4⟩:=S1.out.2.2.1.c5
 obtain⟨m0,m1,m2,m3,m4⟩:=S1.out.2.2.2.1.c5
 have y0:=S1.out.2.2.1.free 0
 have n0:=S1.out.2.2.2.1.free 0
 have y1:=S1.out.2.2.1.free 1
 have n1:=S1.out.2.2.2.1.free 1
 have y2:=S1.out.2.2.1.free 2
 have n2:=S1.out.2.2.2.1.free 2
 have y3:=S1.out.2.2.1.free 3
 have n3:=S1.out.2.2.2.1.free 3
 have y4:=S1.out.2.2.1.free 4
 have n4:=S1.out.2.2.2.1.free 4
 have HF:Hid (Below w.heap.size w ((((((((w1.setCell (ad (w.heap.size+1+1) 2) (.slice (some (ad (w.heap.size+1+1+1) 0)) h.nb h.nb)).setCell (ad (w.heap.size+1+1) 3) (.bool h.shown)).setCell (ad (w.heap.size+1+1) 4) (.int .i64 h.timer)).setCell (ad (w.heap.size+1) 0) (.int .i64 h.st)).setCell (ad (w.heap.size+1) 1) (.int .i64 h.gone)).setCell (ad (w.heap.size+1) 2) (.slice (some (ad (w.heap.size+1+1+1) 0)) h.nb h.nb)).setCell (ad (w.heap.size+1) 3) (.bool h.shown)).setCell (ad (w.heap.size+1) 4) (.int .i64 h.timer))/\Box ((((((((w1.setCell (ad (w.heap.size+1+1) 2) (.slice (some (ad (w.heap.size+1+1+1) 0)) h.nb h.nb)).setCell (ad (w.heap.size+1+1) 3) (.bool h.shown)).setCell (ad (w.heap.size+1+1) 4) (.int .i64 h.timer)).setCell (ad (w.heap.size+1) 0) (.int .i64 h.st)).setCell (ad (w.heap.size+1) 1) (.int .i64 h.gone)).setCell (ad (w.heap.size+1) 2) (.slice (some (ad (w.heap.size+1+1+1) 0)) h.nb h.nb)).setCell (ad (w.heap.size+1) 3) (.bool h.shown)).setCell (ad (w.heap.size+1) 4) (.int .i64 h.timer)) (w.heap.size+1) 72 (vHl h (some (ad (w.heap.size+1+1+1) 0)) h.nb)/\VOwn (w.heap.size+1+1+1) 4 1 ((((((((w1.setCell (ad (w.heap.size+1+1) 2) (.slice (some (ad (w.heap.size+1+1+1) 0)) h.nb h.nb)).setCell (ad (w.heap.size+1+1) 3) (.bool h.shown)).setCell (ad (w.heap.size+1+1) 4) (.int .i64 h.timer)).setCell (ad (w.heap.size+1) 0) (.int .i64 h.st)).setCell (ad (w.heap.size+1) 1) (.int .i64 h.gone)).setCell (ad (w.heap.size+1) 2) (.slice (some (ad (w.heap.size+1+1+1) 0)) h.nb h.nb)).setCell (ad (w.heap.size+1) 3) (.bool h.shown)).setCell (ad (w.heap.size+1) 4) (.int .i64 h.timer)) (.slice (some (ad (w.heap.size+1+1+1) 0)) h.nb h.nb) h.nb (boolF h.B)):=by
  have hne:w.heap.size+1≠w.heap.size+1+1:=by omega
  have hB:∀ {u:World}(j:Nat) (x:Value),Below w.heap.size w u->Below w.heap.size w (u.setCell (ad (w.heap.size+1+1) j) x):=fun j x hu=>hu.setCell (show w.heap.size<=w.heap.size+1+1 by omega) x
  have hX:∀ {u:World}(j:Nat) (x:Value),Box u (w.heap.size+1) 72 zhv->Box (u.setCell (ad (w.heap.size+1+1) j) x) (w.heap.size+1) 72 zhv:=fun j x hu=>hu.other hne x
  have hO:∀ {u:World}(q j:Nat) (x:Value),q<w.heap.size+1+1+1->VOwn (w.heap.size+1+1+1) 4 1 u (.slice (some (ad (w.heap.size+1+1+1) 0)) h.nb h.nb) h.nb (boolF h.B)->VOwn (w.heap.size+1+1+1) 4 1 (u.setCell (ad q j) x) (.slice (some (ad (w.heap.size+1+1+1) 0)) h.nb h.nb) h.nb (boolF h.B):=fun q j x hq hu=>hu.keep nr fun g hg=>Below.heap_setCell _ (ad q j) x g (by have :=own_block hg;show g≠q;omega)
  refine⟨below_set5 (hB 4 _ (hB 3 _ (hB 2 _ S1.out.1))) (by omega),box_set5 (hX 4 _ (hX 3 _ (hX 2 _ S1.out.2.2.1))),?_⟩
  have h3:=hO _ 4 (.int .i64 h.timer) (show w.heap.size+1+1<w.heap.size+1+1+1 by omega) (hO _ 3 (.bool h.shown) (show w.heap.size+1+1<w.heap.size+1+1+1 by omega) (hO _ 2 (.slice (some (ad (w.heap.size+1+1+1) 0)) h.nb h.nb) (show w.heap.size+1+1<w.heap.size+1+1+1 by omega) S1.out.2.2.2.2))
  exact h3.keep nr fun g hg=>heap_set5 (by have :=own_block hg;omega)
 go_wp2_with fail
 generalize ((((((((w1.setCell (ad (w.heap.size+1+1) 2) (.slice (some (ad (w.heap.size+1+1+1) 0)) h.nb h.nb)).setCell (ad (w.heap.size+1+1) 3) (.bool h.shown)).setCell (ad (w.heap.size+1+1) 4) (.int .i64 h.timer)).setCell (ad (w.heap.size+1) 0) (.int .i64 h.st)).setCell (ad (w.heap.size+1) 1) (.int .i64 h.gone)).setCell (ad (w.heap.size+1) 2) (.slice (some (ad (w.heap.size+1+1+1) 0)) h.nb h.nb)).setCell (ad (w.heap.size+1) 3) (.bool h.shown)).setCell (ad (w.heap.size+1) 4) (.int .i64 h.timer))=W9 at HF⊢
 clear u0 z0 m0 y0 n0 u1 z1 m1 y1 n1 u2 z2 m2 y2 n2 u3 z3 m3 y3 n3 u4 z4 m4 y4 n4
 obtain⟨d0,d1,d2,d3,d4⟩:=HF.out.2.1.c5
 exact bodyPost_ret (v:=.agg #[.int .i64 h.st,.int .i64 h.gone,.slice (some (ad (w.heap.size+1+1+1) 0)) h.nb h.nb,.bool h.shown,.int .i64 h.timer]) (by simp[results,Tryz.results76,go_sem,d0,d1,d2,d3,d4]) rfl ⟨w.heap.size+1+1+1,rfl,by omega,HF.out.2.2,HF.out.1⟩
def HtOwn (w:World) (b n k:Nat) (Y:Nat->Hl) (r:Nat->Nat):Prop:=
 ∃vs:Array Value,Box w b 72 vs/\vs.size=n*5/\∀i,i<k->(∀j,j<5->vs[i*5+j]?=some (hlF Y r i j))/\VOwn (r i) 4 1 w (.slice (some (ad (r i) 0)) (Y i).nb (Y i).nb) (Y i).nb (boolF (Y i).B)/\b<r i/\∀j,j<i->r j<r i
theorem HtOwn.mono {w w':World}{b n k M:Nat}{Y:Nat->Hl}{r:Nat->Nat}(h:HtOwn w b n k Y r) (hb:Below M w w') (hM:w.heap.size<=M):HtOwn w' b n k Y r:=by
 obtain⟨vs,h1,h2,h3⟩:=h
 refine⟨vs,h1.mono hb hM,h2,fun i hi=>?_⟩
 obtain⟨e1,e2,e3⟩:=h3 i hi
 exact⟨e1,e2.mono nr hb hM,e3⟩
theorem HtOwn.step {w w1:World}{b n k:Nat}{Y:Nat->Hl}{r:Nat->Nat}{b1:Nat}(h:HtOwn w b n k Y r) (hk:k<n) (hb:Below w.heap.size w w1) (hb1:w.heap.size<=b1) (ho:VOwn b1 4 1 w1 (.slice (some (ad b1 0)) (Y k).nb (Y k).nb) (Y k).nb (boolF (Y k).B)):
  HtOwn (((((w1.setCell (ad b (k*5)) (.int .i64 (Y k).st)).setCell (ad b (k*5+1)) (.int .i64 (Y k).gone)).setCell (ad b (k*5+2)) (.slice (some (ad b1 0)) (Y k).nb (Y k).nb)).setCell (ad b (k*5+3)) (.bool (Y k).shown)).setCell (ad b (k*5+4)) (.int .i64 (Y k).timer)) b n (k+1) Y (updN r k b1):=by
 have hbw:b<w.heap.size:=by obtain⟨_,h1,_⟩:=h;exact h1.lt
 have hrw:∀i,i<k->r i<w.heap.size:=fun i hi=>by obtain⟨_,_,_,h3⟩:=h;exact((h3 i hi).2.1.lt rfl).2
 obtain⟨vs,h1,h2,h3⟩:=h.mono hb nr
 have hkeep:∀g,g≠b->(((((w1.setCell (ad b (k*5)) (.int .i64 (Y k).st)).setCell (ad b (k*5+1)) (.int .i64 (Y k).gone)).setCell (ad b (k*5+2)) (.slice (some (ad b1 0)) (Y k).nb (Y k).nb)).setCell (ad b (k*5+3)) (.bool (Y k).shown)).setCell (ad b (k*5+4)) (.int .i64 (Y k).timer)).heap[g]?=w1.heap[g]?:=fun g hg=>by
  have q:∀(u:World) (i:Nat) (v:Value),(u.setCell (ad b i) v).heap[g]?=u.heap[g]?:=fun u i v=>Below.heap_setCell u (ad b i) v g hg
  rw[q,q,q,q,q]
 refine⟨_,((((h1.set (k*5) (.int .i64 (Y k).st)).set (k*5+1) (.int .i64 (Y k).gone)).set (k*5+2) (.slice (some (ad b1 0)) (Y k).nb (Y k).nb)).set (k*5+3) (.bool (Y k).shown)).set (k*5+4) (.int .i64 (Y k).timer),by simp only[Array.size_setIfInBounds];exact h2,fun i hi=>?_⟩
 by_cases e:i=k
 ·
  subst e
  rw[updN_same]
  refine⟨fun j hj=>?_,ho.keep nr fun g hg=>hkeep g (by have :=own_block hg;omega),by omega,fun j hj=>?_⟩
  ·
   have hlt:i*5+4<vs.size:=by omega
   rcases(show j=0\/j=1\/j=2\/j=3\/j=4 by omega) with rfl|rfl|rfl|rfl|rfl<;>simp[hlF,updN_same,Array.getElem?_setIfInBounds]<;>omega
  ·
   rw[updN_ne (by omega)]
   have :=hrw j (by omega)
   omega
 ·
  obtain⟨e1,e2,e3,e4⟩:=h3 i (by omega)
  rw[updN_ne e]
  refine⟨fun j hj=>?_,e2.keep nr fun g hg=>hkeep g (by have :=own_block hg;omega),e3,fun j hj=>?_⟩
  ·
   have :=e1 j hj
   simp only[Array.getElem?_setIfInBounds,show¬k*5+4=i*5+j by omega,show¬k*5+3=i*5+j by omega,show¬k*5+2=i*5+j by omega,show¬k*5+1=i*5+j by omega,show¬k*5=i*5+j by omega,if_false]
   rw[this]
   simp only[hlF,updN_ne e]
  ·
   rw[updN_ne (by omega)]
   exact e4 j hj
theorem HtOwn.own {w:World}{b n:Nat}{Y:Nat->Hl}{r:Nat->Nat}(h:HtOwn w b n n Y r) (hn:n<=1048576):HsOwn b w (.slice (some (ad b 0)) n n) n Y r:=by
 obtain⟨vs,h1,h2,h3⟩:=h
 refine⟨.inr ⟨b,n,vs,rfl,Nat.le_refl _,h1,Nat.le_refl _,by simp only[maxLen];omega,h2,fun i hi j hj=>(h3 i hi).1 j hj⟩,fun i hi=>⟨(h3 i hi).2.1,by have :=(h3 i hi).2.2.1;omega⟩,fun i hi j hj e=>?_⟩
 by_cases c:i<j
 ·
  have :=(h3 j hj).2.2.2 i c
  omega
 ·
  by_cases d:j<i
  ·
   have :=(h3 i hi).2.2.2 j d
   omega
  ·
   omega
set_option maxRecDepth 100000 in
set_option maxHeartbeats 4000000 in
theorem toHeldS (a:Option Addr) (n cap:Nat) (Y:Nat->Hl) (w:World) (hn:n<=1048576) (hR:HsAt 0 w a n Y) (hs:∀i,i<n->(Y i).nb<=1048576):
  Calls Tryz.prog 41 #[.slice a n cap] w fun e w'=>∃b r,b=w.heap.size/\e=.returned (.slice (some (ad b 0)) n n)/\HsOwn b w' (.slice (some (ad b 0)) n n) n Y r/\Below w.heap.size w w':=by
 have HS:Hid (∀i,i<n->(Y i).nb<=1048576):=hs
 have hmk:=make_rows (P:=Tryz.prog) 40 72 _ 56 5 Tryz.underlying40 infoHeld n (by omega) (by omega)
 have hf0:HtOwn (w.alloc (.cells (mk0 (.agg #[.int .i64 0,.int .i64 0,.slice none 0 0,.bool false,.int .i64 0]) (n*5)) 72)) w.heap.size n 0 Y (fun _=>0):=⟨_,Box.new w 72 _,size_madeCells _ _,fun i hi=>absurd hi (Nat.not_lt_zero _)⟩
 clear hs
 go_enter Tryz.func41,Tryz.ntmps41
 go_wp2_with fail
 go_loopw [4] (fun i wr=>∃(k:Nat) (r:Nat->Nat),k<=n/\i=.int .i64 k/\Hid (HtOwn wr w.heap.size n k Y r)/\Below w.heap.size w wr) (fun i _=>n-(intOf i).toNat)
 case atStart=>exact⟨0,_,Nat.zero_le _,rfl,hf0,bel1 _ _⟩
 case round=>
  obtain⟨k,r,hk,rfl,HT,hbel⟩:=hrel
  clear hf0 hmk
  by_cases hlt:k<n
  ·
   obtain⟨b,off,rfl,_,hb,hc⟩:=(hR.mono nr hbel nr) (by omega)
   obtain⟨ra,rc,c0,c1,c2,c3,c4,hin⟩:=hc k hlt
   have HIN:Hid (VsAt 1 0 wr ra (Y k).nb (boolF (Y k).B)):=hin
   clear hc hin
   go_wp2_with fail
   clear c0 c1 c2 c3 c4
   refine(toHeld77 (Y k) ra rc _ (HS.out k hlt) HIN.out).mono ?_
   rintro e w1 ⟨b1,rfl,hbb,ho,hb1⟩
   have HST:Hid (HtOwn _ w.heap.size n (k+1) Y (updN r k b1)):=HT.out.step hlt hb1 hbb ho
   obtain⟨vs,h1,h2,_⟩:=HT.out.mono hb1 nr
   have d:∀j,j<5->∃v,w1.cell? (ad w.heap.size (k*5+j))=some v:=fun j hj=>⟨vs[k*5+j]'(by omega),by rw[h1.cell];exact Array.getElem?_eq_getElem _⟩
   obtain⟨v0,d0⟩:=d 0 (by omega)
   obtain⟨v1,d1⟩:=d 1 (by omega)
   obtain⟨v2,d2⟩:=d 2 (by omega)
   obtain⟨v3,d3⟩:=d 3 (by omega)
   obtain⟨v4,d4⟩:=d 4 (by omega)
   rw[Nat.add_zero] at d0
   have f0:=h1.free (k*5)
   have f1:=h1.free (k*5+1)
   have f2:=h1.free (k*5+2)
   have f3:=h1.free (k*5+3)
   have f4:=h1.free (k*5+4)
   have hbel1:=hbel.trans (hb1.mono hbel.size)
   clear d h1 h2 HIN HT ho hb1
   go_wp2_with fail
   go_roundw
   case rel=>exact⟨k+1,_,by omega,by go_num,HST,((((hbel1.setCell nr _).setCell nr _).setCell nr _).setCell nr _).setCell nr _⟩
   case measure=>simp[intOf];omega
  ·
   obtain rfl:k=n:=by omega
   go_wp2
   go_ret
   exact⟨_,r,rfl,rfl,HT.out.own hn,hbel⟩
theorem box_set4 {w:World}{b:Nat}{T:TypeId}{z0 z1 z2 z3 v0 v1 v2 v3:Value}(h:Box w b T #[z0,z1,z2,z3]):Box ((((w.setCell (ad b 0) (v0)).setCell (ad b 1) (v1)).setCell (ad b 2) (v2)).setCell (ad b 3) (v3)) b T #[v0,v1,v2,v3]:=by
 have h7:=(((h.set 0 v0).set 1 v1).set 2 v2).set 3 v3
 simpa using h7
theorem heap_set4 {w:World}{b g:Nat}{v0 v1 v2 v3:Value}(h:g≠b):((((w.setCell (ad b 0) (v0)).setCell (ad b 1) (v1)).setCell (ad b 2) (v2)).setCell (ad b 3) (v3)).heap[g]?=w.heap[g]?:=by
 have k:∀(u:World) (i:Nat) (v:Value),(u.setCell (ad b i) v).heap[g]?=u.heap[g]?:=fun u i v=>Below.heap_setCell u (ad b i) v g h
 rw[k,k,k,k]
theorem below_set4 {M:Nat}{w0 w:World}{b:Nat}{v0 v1 v2 v3:Value}(h:Below M w0 w) (hb:M<=b):Below M w0 ((((w.setCell (ad b 0) (v0)).setCell (ad b 1) (v1)).setCell (ad b 2) (v2)).setCell (ad b 3) (v3)):=by
 have k:∀ {u:World}(i:Nat) (v:Value),Below M w0 u->Below M w0 (u.setCell (ad b i) v):=fun i v hu=>hu.setCell (show M<=((ad b i):Addr).block from hb) v
 exact k 3 _ (k 2 _ (k 1 _ (k 0 _ h)))
def TfR (w:World) (f:Fm) (e:Ending) (w':World):Prop:=∃ob pb hb r,e=.returned (.agg #[.bool f.ok,.slice (some (ad ob 0)) f.no f.no,.slice (some (ad pb 0)) f.np f.np,.slice (some (ad hb 0)) f.nh f.nh])/\FmOwn w.heap.size w' f (.slice (some (ad ob 0)) f.no f.no) (.slice (some (ad pb 0)) f.np f.np) (.slice (some (ad hb 0)) f.nh f.nh) r/\Below w.heap.size w w'
set_option maxRecDepth 100000 in
set_option maxHeartbeats 4000000 in
theorem toFrame10 (f:Fm) (oa pa ha:Option Addr) (oc pc hc:Nat) (w:World) (hfs:f.small) (hF:FmIn 0 w f oa pa ha):
  Calls Tryz.prog 10 #[.agg #[.bool f.ok,.slice oa f.no oc,.slice pa f.np pc,.slice ha f.nh hc]] w fun e w'=>TfR w f e w':=by
 have H:Hid (FmIn 0 w f oa pa ha/\f.small):=⟨hF,hfs⟩
 have S0:Hid (Below w.heap.size w (((w.alloc (.cells (vFr f oa oc pa pc ha hc) 31)).alloc (.cells z4v 42)).alloc (.cells #[.bool f.ok,.slice none 0 0,.slice none 0 0,.slice none 0 0] 42))/\Box (((w.alloc (.cells (vFr f oa oc pa pc ha hc) 31)).alloc (.cells z4v 42)).alloc (.cells #[.bool f.ok,.slice none 0 0,.slice none 0 0,.slice none 0 0] 42)) w.heap.size 31 (vFr f oa oc pa pc ha hc)/\Box (((w.alloc (.cells (vFr f oa oc pa pc ha hc) 31)).alloc (.cells z4v 42)).alloc (.cells #[.bool f.ok,.slice none 0 0,.slice none 0 0,.slice none 0 0] 42)) (w.heap.size+1) 42 z4v/\Box (((w.alloc (.cells (vFr f oa oc pa pc ha hc) 31)).alloc (.cells z4v 42)).alloc (.cells #[.bool f.ok,.slice none 0 0,.slice none 0 0,.slice none 0 0] 42)) (w.heap.size+1+1) 42 #[.bool f.ok,.slice none 0 0,.slice none 0 0,.slice none 0 0]):=⟨bel3 _ _ _ _,((Box.new _ _ _).alloc _).alloc _,by have :=(Box.new (w.alloc (.cells (vFr f oa oc pa pc ha hc) 31)) 42 z4v).alloc (.cells #[.bool f.ok,.slice none 0 0,.slice none 0 0,.slice none 0 0] 42);simpa using this,by have :=Box.new ((w.alloc (.cells (vFr f oa oc pa pc ha hc) 31)).alloc (.cells z4v 42)) 42 #[.bool f.ok,.slice none 0 0,.slice none 0 0,.slice none 0 0];simpa using this⟩
 clear hF hfs
 go_enter Tryz.func10,Tryz.ntmps10
 go_wp2_with fail
 generalize (((w.alloc (.cells (vFr f oa oc pa pc ha hc) 31)).alloc (.cells z4v 42)).alloc (.cells #[.bool f.ok,.slice none 0 0,.slice none 0 0,.slice none 0 0] 42))=W at S0⊢
 refine(toBoolS oa f.no oc f.O W H.out.2.1 (H.out.1.o.mono nr S0.out.1 nr)).mono ?_
 rintro e w1 ⟨ob,hob,rfl,ho,hb1⟩
 have S1:Hid ((Below w.heap.size w w1/\Box w1 w.heap.size 31 (vFr f oa oc pa pc ha hc)/\Box w1 (w.heap.size+1) 42 z4v/\Box w1 (w.heap.size+1+1) 42 #[.bool f.ok,.slice none 0 0,.slice none 0 0,.slice none 0 0])/\VOwn w.heap.size 4 1 w1 (.slice (some (ad ob 0)) f.no f.no) f.no (boolF f.O)/\w.heap.size+1+1<ob/\ob<w1.heap.size):=⟨⟨S0.out.1.trans (hb1.mono S0.out.1.size),S0.out.2.1.mono hb1 nr,S0.out.2.2.1.mono hb1 nr,S0.out.2.2.2.mono hb1 nr⟩,ho.keep (by rw[hob];exact S0.out.1.size) fun _ _=>rfl,by rw[hob];exact S0.out.2.2.2.lt,(ho.lt rfl).2⟩
 clear S0 ho hb1 hob
 have m1:w1.cell? (ad (w.heap.size+1+1) 1)=some (.slice none 0 0):=S1.out.1.2.2.2.cell 1
 have n1:=S1.out.1.2.2.2.free 1
 have u2:w1.cell? (ad w.heap.size 2)=some (.slice pa f.np pc):=S1.out.1.2.1.cell 2
 go_wp2_with fail
 have S2:Hid ((Below w.heap.size w (w1.setCell (ad (w.heap.size+1+1) 1) (.slice (some (ad ob 0)) f.no f.no))/\Box (w1.setCell (ad (w.heap.size+1+1) 1) (.slice (some (ad ob 0)) f.no f.no)) w.heap.size 31 (vFr f oa oc pa pc ha hc)/\Box (w1.setCell (ad (w.heap.size+1+1) 1) (.slice (some (ad ob 0)) f.no f.no)) (w.heap.size+1) 42 z4v/\Box (w1.setCell (ad (w.heap.size+1+1) 1) (.slice (some (ad ob 0)) f.no f.no)) (w.heap.size+1+1) 42 #[.bool f.ok,.slice (some (ad ob 0)) f.no f.no,.slice none 0 0,.slice none 0 0])/\VOwn w.heap.size 4 1 (w1.setCell (ad (w.heap.size+1+1) 1) (.slice (some (ad ob 0)) f.no f.no)) (.slice (some (ad ob 0)) f.no f.no) f.no (boolF f.O)/\w.heap.size+1+1<ob/\ob<(w1.setCell (ad (w.heap.size+1+1) 1) (.slice (some (ad ob 0)) f.no f.no)).heap.size):=⟨⟨S1.out.1.1.setCell (by show w.heap.size<=w.heap.size+1+1;omega) _,S1.out.1.2.1.other (by show w.heap.size≠w.heap.size+1+1;omega) _,S1.out.1.2.2.1.other (by show w.heap.size+1≠w.heap.size+1+1;omega) _,by have :=S1.out.1.2.2.2.set 1 (.slice (some (ad ob 0)) f.no f.no);simpa using this⟩,S1.out.2.1.set S1.out.1.2.2.2 (by decide) 1 _,S1.out.2.2.1,Nat.lt_of_lt_of_le S1.out.2.2.2 (by simp[World.setCell])⟩
 generalize w1.setCell (ad (w.heap.size+1+1) 1) (.slice (some (ad ob 0)) f.no f.no)=V1 at S2⊢
 clear m1 n1 u2 S1
 refine(toPointS pa f.np pc f.P V1 H.out.2.2.1 (H.out.1.p.mono nr S2.out.1.1 nr)).mono ?_
 rintro e w2 ⟨pb,hpb,rfl,ho,hb2⟩
 have S3:Hid ((Below w.heap.size w w2/\Box w2 w.heap.size 31 (vFr f oa oc pa pc ha hc)/\Box w2 (w.heap.size+1) 42 z4v/\Box w2 (w.heap.size+1+1) 42 #[.bool f.ok,.slice (some (ad ob 0)) f.no f.no,.slice none 0 0,.slice none 0 0])/\(VOwn w.heap.size 4 1 w2 (.slice (some (ad ob 0)) f.no f.no) f.no (boolF f.O)/\w.heap.size+1+1<ob/\ob<w2.heap.size)/\VOwn w.heap.size 69 2 w2 (.slice (some (ad pb 0)) f.np f.np) f.np (intF f.P)/\w.heap.size+1+1<pb):=⟨⟨S2.out.1.1.trans (hb2.mono S2.out.1.1.size),S2.out.1.2.1.mono hb2 nr,S2.out.1.2.2.1.mono hb2 nr,S2.out.1.2.2.2.mono hb2 nr⟩,⟨S2.out.2.1.mono nr hb2 nr,S2.out.2.2.1,Nat.lt_of_lt_of_le S2.out.2.2.2 hb2.size⟩,ho.keep (by rw[hpb];exact S2.out.1.1.size) fun _ _=>rfl,by rw[hpb];exact S2.out.1.2.2.2.lt⟩
 clear S2 ho hb2 hpb
 have m1:w2.cell? (ad (w.heap.size+1+1) 2)=some (.slice none 0 0):=S3.out.1.2.2.2.cell 2
 have n1:=S3.out.1.2.2.2.free 2
 have u2:w2.cell? (ad w.heap.size 3)=some (.slice ha f.nh hc):=S3.out.1.2.1.cell 3
 go_wp2_with fail
 have S4:Hid ((Below w.heap.size w (w2.setCell (ad (w.heap.size+1+1) 2) (.slice (some (ad pb 0)) f.np f.np))/\Box (w2.setCell (ad (w.heap.size+1+1) 2) (.slice (some (ad pb 0)) f.np f.np)) w.heap.size 31 (vFr f oa oc pa pc ha hc)/\Box (w2.setCell (ad (w.heap.size+1+1) 2) (.slice (some (ad pb 0)) f.np f.np)) (w.heap.size+1) 42 z4v/\Box (w2.setCell (ad (w.heap.size+1+1) 2) (.slice (some (ad pb 0)) f.np f.np)) (w.heap.size+1+1) 42 #[.bool f.ok,.slice (some (ad ob 0)) f.no f.no,.slice (some (ad pb 0)) f.np f.np,.slice none 0 0])/\(VOwn w.heap.size 4 1 (w2.setCell (ad (w.heap.size+1+1) 2) (.slice (some (ad pb 0)) f.np f.np)) (.slice (some (ad ob 0)) f.no f.no) f.no (boolF f.O)/\w.heap.size+1+1<ob/\ob<(w2.setCell (ad (w.heap.size+1+1) 2) (.slice (some (ad pb 0)) f.np f.np)).heap.size)/\VOwn w.heap.size 69 2 (w2.setCell (ad (w.heap.size+1+1) 2) (.slice (some (ad pb 0)) f.np f.np)) (.slice (some (ad pb 0)) f.np f.np) f.np (intF f.P)/\w.heap.size+1+1<pb):=⟨⟨S3.out.1.1.setCell (by show w.heap.size<=w.heap.size+1+1;omega) _,S3.out.1.2.1.other (by show w.heap.size≠w.heap.size+1+1;omega) _,S3.out.1.2.2.1.other (by show w.heap.size+1≠w.heap.size+1+1;omega) _,by have :=S3.out.1.2.2.2.set 2 (.slice (some (ad pb 0)) f.np f.np);simpa using this⟩,⟨S3.out.2.1.1.set S3.out.1.2.2.2 (by decide) 2 _,S3.out.2.1.2.1,Nat.lt_of_lt_of_le S3.out.2.1.2.2 (by simp[World.setCell])⟩,S3.out.2.2.1.set S3.out.1.2.2.2 (by decide) 2 _,S3.out.2.2.2⟩
 generalize w2.setCell (ad (w.heap.size+1+1) 2) (.slice (some (ad pb 0)) f.np f.np)=V2 at S4⊢
 clear m1 n1 u2 S3
 refine(toHeldS ha f.nh hc f.Y V2 H.out.2.2.2.1 (H.out.1.h.mono nr S4.out.1.1 nr) H.out.2.2.2.2).mono ?_
 rintro e w3 ⟨hb,r,hhb,rfl,ho,hb3⟩
 have S5:Hid ((Below w.heap.size w w3/\Box w3 w.heap.size 31 (vFr f oa oc pa pc ha hc)/\Box w3 (w.heap.size+1) 42 z4v/\Box w3 (w.heap.size+1+1) 42 #[.bool f.ok,.slice (some (ad ob 0)) f.no f.no,.slice (some (ad pb 0)) f.np f.np,.slice none 0 0])/\(VOwn w.heap.size 4 1 w3 (.slice (some (ad ob 0)) f.no f.no) f.no (boolF f.O)/\w.heap.size+1+1<ob/\ob<w3.heap.size)/\(VOwn w.heap.size 69 2 w3 (.slice (some (ad pb 0)) f.np f.np) f.np (intF f.P)/\w.heap.size+1+1<pb)/\HsOwn hb w3 (.slice (some (ad hb 0)) f.nh f.nh) f.nh f.Y r/\ob<hb/\w.heap.size+1+1<hb):=⟨⟨S4.out.1.1.trans (hb3.mono S4.out.1.1.size),S4.out.1.2.1.mono hb3 nr,S4.out.1.2.2.1.mono hb3 nr,S4.out.1.2.2.2.mono hb3 nr⟩,⟨S4.out.2.1.1.mono nr hb3 nr,S4.out.2.1.2.1,Nat.lt_of_lt_of_le S4.out.2.1.2.2 hb3.size⟩,⟨S4.out.2.2.1.mono nr hb3 nr,S4.out.2.2.2⟩,ho,by rw[hhb];exact S4.out.2.1.2.2,by rw[hhb];exact S4.out.1.2.2.2.lt⟩
 clear S4 ho hb3 hhb
 have m0:w3.cell? (ad (w.heap.size+1+1) 0)=some (.bool f.ok):=S5.out.1.2.2.2.cell 0
 have m1:w3.cell? (ad (w.heap.size+1+1) 1)=some (.slice (some (ad ob 0)) f.no f.no):=S5.out.1.2.2.2.cell 1
 have m2:w3.cell? (ad (w.heap.size+1+1) 2)=some (.slice (some (ad pb 0)) f.np f.np):=S5.out.1.2.2.2.cell 2
 have m3:w3.cell? (ad (w.heap.size+1+1) 3)=some (.slice none 0 0):=S5.out.1.2.2.2.cell 3
 have z0:w3.cell? (ad (w.heap.size+1) 0)=some (.bool false):=S5.out.1.2.2.1.cell 0
 have z1:w3.cell? (ad (w.heap.size+1) 1)=some (.slice none 0 0):=S5.out.1.2.2.1.cell 1
 have z2:w3.cell? (ad (w.heap.size+1) 2)=some (.slice none 0 0):=S5.out.1.2.2.1.cell 2
 have z3:w3.cell? (ad (w.heap.size+1) 3)=some (.slice none 0 0):=S5.out.1.2.2.1.cell 3
 obtain⟨y0,y1,y2,y3⟩:=S5.out.1.2.2.1.f4
 have n3:=S5.out.1.2.2.2.free 3
 have HF:Hid (Below w.heap.size w (((((w3.setCell (ad (w.heap.size+1+1) 3) (.slice (some (ad hb 0)) f.nh f.nh)).setCell (ad (w.heap.size+1) 0) (.bool f.ok)).setCell (ad (w.heap.size+1) 1) (.slice (some (ad ob 0)) f.no f.no)).setCell (ad (w.heap.size+1) 2) (.slice (some (ad pb 0)) f.np f.np)).setCell (ad (w.heap.size+1) 3) (.slice (some (ad hb 0)) f.nh f.nh))/\Box (((((w3.setCell (ad (w.heap.size+1+1) 3) (.slice (some (ad hb 0)) f.nh f.nh)).setCell (ad (w.heap.size+1) 0) (.bool f.ok)).setCell (ad (w.heap.size+1) 1) (.slice (some (ad ob 0)) f.no f.no)).setCell (ad (w.heap.size+1) 2) (.slice (some (ad pb 0)) f.np f.np)).setCell (ad (w.heap.size+1) 3) (.slice (some (ad hb 0)) f.nh f.nh)) (w.heap.size+1) 42 (vFo f ob pb hb)/\FmOwn w.heap.size (((((w3.setCell (ad (w.heap.size+1+1) 3) (.slice (some (ad hb 0)) f.nh f.nh)).setCell (ad (w.heap.size+1) 0) (.bool f.ok)).setCell (ad (w.heap.size+1) 1) (.slice (some (ad ob 0)) f.no f.no)).setCell (ad (w.heap.size+1) 2) (.slice (some (ad pb 0)) f.np f.np)).setCell (ad (w.heap.size+1) 3) (.slice (some (ad hb 0)) f.nh f.nh)) f (.slice (some (ad ob 0)) f.no f.no) (.slice (some (ad pb 0)) f.np f.np) (.slice (some (ad hb 0)) f.nh f.nh) r):=by
  have hA:=S5.out.1.2.2.1.other (p:=(ad (w.heap.size+1+1) 3)) (by show w.heap.size+1≠w.heap.size+1+1;omega) (.slice (some (ad hb 0)) f.nh f.nh)
  have hK:∀b T cur,Box w3 b T cur->T≠42->(((((w3.setCell (ad (w.heap.size+1+1) 3) (.slice (some (ad hb 0)) f.nh f.nh)).setCell (ad (w.heap.size+1) 0) (.bool f.ok)).setCell (ad (w.heap.size+1) 1) (.slice (some (ad ob 0)) f.no f.no)).setCell (ad (w.heap.size+1) 2) (.slice (some (ad pb 0)) f.np f.np)).setCell (ad (w.heap.size+1) 3) (.slice (some (ad hb 0)) f.nh f.nh)).heap[b]?=w3.heap[b]?:=fun b T cur hb hT=>(heap_set4 (hb.ne S5.out.1.2.2.1 hT)).trans (Below.heap_setCell w3 (ad (w.heap.size+1+1) 3) _ b (hb.ne S5.out.1.2.2.2 hT))
  refine⟨below_set4 (S5.out.1.1.setCell (by show w.heap.size<=w.heap.size+1+1;omega) _) (by omega),box_set4 hA,S5.out.2.1.1.by_ fun b cur hb=>hK b 4 cur hb (by decide),S5.out.2.2.1.1.by_ fun b cur hb=>hK b 69 cur hb (by decide),?_,fun g hg i hi=>?_⟩
  ·
   have h1:=S5.out.2.2.2.1.by_ fun b T cur hb hT=>hK b T cur hb (by rcases hT with rfl|rfl<;>decide)
   exact⟨h1.own.keep (by have :=S5.out.2.2.2.2.2;omega) fun _ _=>rfl,fun i hi=>⟨(h1.row i hi).1,by have :=(h1.row i hi).2;have :=S5.out.2.2.2.2.2;omega⟩,h1.inj⟩
  ·
   have e1:=own_block hg
   have e2:=(S5.out.2.2.2.1.row i hi).2
   have e3:=S5.out.2.2.2.2.1
   omega
 go_wp2_with fail
 generalize (((((w3.setCell (ad (w.heap.size+1+1) 3) (.slice (some (ad hb 0)) f.nh f.nh)).setCell (ad (w.heap.size+1) 0) (.bool f.ok)).setCell (ad (w.heap.size+1) 1) (.slice (some (ad ob 0)) f.no f.no)).setCell (ad (w.heap.size+1) 2) (.slice (some (ad pb 0)) f.np f.np)).setCell (ad (w.heap.size+1) 3) (.slice (some (ad hb 0)) f.nh f.nh))=W9 at HF⊢
 clear m0 z0 y0 m1 z1 y1 m2 z2 y2 m3 z3 y3 n3
 have d0:W9.cell? (ad (w.heap.size+1) 0)=some (.bool f.ok):=HF.out.2.1.cell 0
 have d1:W9.cell? (ad (w.heap.size+1) 1)=some (.slice (some (ad ob 0)) f.no f.no):=HF.out.2.1.cell 1
 have d2:W9.cell? (ad (w.heap.size+1) 2)=some (.slice (some (ad pb 0)) f.np f.np):=HF.out.2.1.cell 2
 have d3:W9.cell? (ad (w.heap.size+1) 3)=some (.slice (some (ad hb 0)) f.nh f.nh):=HF.out.2.1.cell 3
 exact bodyPost_ret (v:=.agg #[.bool f.ok,.slice (some (ad ob 0)) f.no f.no,.slice (some (ad pb 0)) f.np f.np,.slice (some (ad hb 0)) f.nh f.nh]) (by simp[results,Tryz.results10,go_sem,d0,d1,d2,d3]) rfl ⟨ob,pb,hb,r,rfl,HF.out.2.2,HF.out.1⟩
end Go.Proofs.YtkeilejbelblcaaGreatDoor
namespace Go.Proofs.YtkeilejbelblcaaGreatDoor
open Go.RowKit
set_option maxHeartbeats 1000000 in
theorem toEv19 (op o lie:Int) (w:World):
  Calls Tryz.prog 15 #[.agg #[.int .i64 op,.int .i64 o,.int .i64 lie]] w fun e w'=>e=.returned (.agg #[.int .i64 op,.int .i64 o,.int .i64 lie])/\Below w.heap.size w w':=by
 go_enter Tryz.func15,Tryz.ntmps15
 go_wp2_with fail
 exact bodyPost_ret (v:=.agg #[.int .i64 op,.int .i64 o,.int .i64 lie]) (by simp[results,Tryz.results15,go_sem]) rfl ⟨rfl,bel3 _ _ _ _⟩
end Go.Proofs.YtkeilejbelblcaaGreatDoor
