import Derived.Test.YtkeilejbelblcaaGreatDoorJaq
import Derived.Test.YtkeilejbelblcaaGreatDoorJab
import Derived.Test.YtkeilejbelblcaaGreatDoorJap
import Derived.Test.YtkeilejbelblcaaGreatDoorJao
import Derived.Test.YtkeilejbelblcaaGreatDoorJag
import Derived.Test.YtkeilejbelblcaaGreatDoorJai
import Derived.Test.YtkeilejbelblcaaGreatDoorJaj
namespace Go.Proofs.YtkeilejbelblcaaGreatDoor
open Go.RowKit
theorem WsOwn.keep {w w':World}{b n k:Nat}{Y:Nat->Wy}{lo:Nat->Nat}(h:WsOwn w b n k Y lo) (hs:w.heap.size<=w'.heap.size) (hk:∀g,b<=g->w'.heap[g]?=w.heap[g]?):WsOwn w' b n k Y lo:=by
 obtain⟨vs,h1,h2,h3,h4,h5,h6⟩:=h
 refine⟨vs,h1.keep (hk b nr),h2,h3,Nat.le_trans h4 hs,h5,fun i hi=>?_⟩
 obtain⟨b1,b2,b3,b4,b5,hr⟩:=h6 i hi
 exact⟨b1,b2,b3,b4,b5,hr.keep fun g hg _=>hk g (by have :=h5 0 i (Nat.zero_le _) (by omega);omega)⟩
theorem BsOwn.keep {w w':World}{b n k:Nat}{K:Nat->Nat}{T:Nat->Nat->Bool}{r:Nat->Nat}(h:BsOwn w b n k K T r) (hk:∀g,b<=g->w'.heap[g]?=w.heap[g]?):BsOwn w' b n k K T r:=by
 obtain⟨vs,h1,h2,h3⟩:=h
 refine⟨vs,h1.keep (hk b nr),h2,fun i hi=>?_⟩
 obtain⟨e1,e2,e3,e4⟩:=h3 i hi
 exact⟨e1,e2.keep nr fun g hg=>hk g (by simp only[Value.ownBlock,Option.some.injEq] at hg;omega),e3,e4⟩
structure PlOwn (C:Nat) (w:World) (p:Pl) (wb yb bb:Nat) (lo r:Nat->Nat):Prop where
 c1:C<=wb
 c2:wb<yb
 c3:lo p.ny<=bb
 sw:VOwn wb 3 1 w (.slice (some (ad wb 0)) p.nw p.nw) p.nw (oneF p.W)
 wy:WsOwn w yb p.ny p.ny p.Y lo
 br:BsOwn w bb p.nb p.nb p.K p.T r
theorem WsOwn.lo0 {w:World}{b n k:Nat}{Y:Nat->Wy}{lo:Nat->Nat}(h:WsOwn w b n k Y lo):b<lo k:=by
 obtain⟨vs,h1,h2,h3,h4,h5,h6⟩:=h
 exact Nat.lt_of_lt_of_le h3 (h5 0 k (Nat.zero_le _) nr)
theorem PlOwn.keep {C C':Nat}{w w':World}{p:Pl}{wb yb bb:Nat}{lo r:Nat->Nat}(h:PlOwn C w p wb yb bb lo r) (hC:C'<=C) (hs:w.heap.size<=w'.heap.size) (hk:∀g,C<=g->w'.heap[g]?=w.heap[g]?):PlOwn C' w' p wb yb bb lo r:=by
 have h1:=h.c1
 have h2:=h.c2
 have h3:=h.c3
 have h4:=h.wy.lo0
 exact⟨by omega,h2,h3,h.sw.keep nr fun g hg=>hk g (by simp only[Value.ownBlock,Option.some.injEq] at hg;omega),h.wy.keep hs fun g hg=>hk g (by omega),h.br.keep fun g hg=>hk g (by omega)⟩
theorem PlOwn.mono {C C':Nat}{w w':World}{p:Pl}{wb yb bb B:Nat}{lo r:Nat->Nat}(h:PlOwn C w p wb yb bb lo r) (hC:C'<=C) (hb:Below B w w') (hB:w.heap.size<=B):PlOwn C' w' p wb yb bb lo r:=
 ⟨Nat.le_trans hC h.c1,h.c2,h.c3,h.sw.mono nr hb hB,h.wy.mono hb hB,h.br.mono hb hB⟩
theorem PlOwn.in {C C':Nat}{w:World}{p:Pl}{wb yb bb:Nat}{lo r:Nat->Nat}(h:PlOwn C w p wb yb bb lo r) (hC:C'<=C):PlIn C' w p (some (ad wb 0)) (some (ad yb 0)) (some (ad bb 0)):=by
 have h1:=h.c1
 have h2:=h.c2
 have h3:=h.c3
 have h4:=h.wy.lo0
 exact⟨h.sw.vs.le (by omega),h.wy.at (by omega),h.br.at (by omega)⟩
set_option maxRecDepth 100000 in
set_option maxHeartbeats 4000000 in
theorem toPlan (p:Pl) (wa ya ba:Option Addr) (wc yc bc:Nat) (w:World) (hs:p.small) (h:PlIn 0 w p wa ya ba):
  Calls Tryz.prog 9 #[.agg #[.int .i64 p.sec,.slice wa p.nw wc,.slice ya p.ny yc,.slice ba p.nb bc,.int .i64 p.hold]] w fun e w'=>∃wb yb bb lo r,e=.returned (.agg #[.int .i64 p.sec,.slice (some (ad wb 0)) p.nw p.nw,.slice (some (ad yb 0)) p.ny p.ny,.slice (some (ad bb 0)) p.nb p.nb,.int .i64 p.hold])/\PlOwn w.heap.size w' p wb yb bb lo r/\Below w.heap.size w w':=by
 obtain⟨s1,s2,s3,s4,s5⟩:=hs
 have HS:Hid ((∀i,i<p.ny->(p.Y i).small 1048576)/\∀i,i<p.nb->p.K i<=1048576):=⟨s3,s5⟩
 have H:Hid (PlIn 0 w p wa ya ba):=h
 clear h s3 s5
 go_enter Tryz.func9,Tryz.ntmps9
 go_wp2_with fail
 have A0:Box (w.alloc (.cells (vPl p wa wc ya yc ba bc) 26)) w.heap.size 26 (vPl p wa wc ya yc ba bc):=Box.new w 26 _
 have R0:Box ((w.alloc (.cells (vPl p wa wc ya yc ba bc) 26)).alloc (.cells #[.int .i64 0,.slice none 0 0,.slice none 0 0,.slice none 0 0,.int .i64 0] 37)) (w.heap.size+1) 37 #[.int .i64 0,.slice none 0 0,.slice none 0 0,.slice none 0 0,.int .i64 0]:=by have :=Box.new (w.alloc (.cells (vPl p wa wc ya yc ba bc) 26)) 37 #[.int .i64 0,.slice none 0 0,.slice none 0 0,.slice none 0 0,.int .i64 0];simpa using this
 have O1:Box (((w.alloc (.cells (vPl p wa wc ya yc ba bc) 26)).alloc (.cells #[.int .i64 0,.slice none 0 0,.slice none 0 0,.slice none 0 0,.int .i64 0] 37)).alloc (.cells #[.int .i64 p.sec,.slice none 0 0,.slice none 0 0,.slice none 0 0,.int .i64 0] 37)) (w.heap.size+1+1) 37 #[.int .i64 p.sec,.slice none 0 0,.slice none 0 0,.slice none 0 0,.int .i64 0]:=by have :=Box.new ((w.alloc (.cells (vPl p wa wc ya yc ba bc) 26)).alloc (.cells #[.int .i64 0,.slice none 0 0,.slice none 0 0,.slice none 0 0,.int .i64 0] 37)) 37 #[.int .i64 p.sec,.slice none 0 0,.slice none 0 0,.slice none 0 0,.int .i64 0];simpa using this
 have A1:=(A0.alloc (.cells #[.int .i64 0,.slice none 0 0,.slice none 0 0,.slice none 0 0,.int .i64 0] 37)).alloc (.cells #[.int .i64 p.sec,.slice none 0 0,.slice none 0 0,.slice none 0 0,.int .i64 0] 37)
 have R1:=R0.alloc (.cells #[.int .i64 p.sec,.slice none 0 0,.slice none 0 0,.slice none 0 0,.int .i64 0] 37)
 have B1:Below w.heap.size w (((w.alloc (.cells (vPl p wa wc ya yc ba bc) 26)).alloc (.cells #[.int .i64 0,.slice none 0 0,.slice none 0 0,.slice none 0 0,.int .i64 0] 37)).alloc (.cells #[.int .i64 p.sec,.slice none 0 0,.slice none 0 0,.slice none 0 0,.int .i64 0] 37)):=bel3 w _ _ _
 clear A0 R0
 refine(toIntS wa p.nw wc p.W _ s1 (H.out.sw.mono nr B1 nr)).mono ?_
 rintro e w1 ⟨wb,hb1,rfl,o1,hl1⟩
 have A11:=A1.mono hl1 nr
 have R11:=R1.mono hl1 nr
 have O11:=O1.mono hl1 nr
 have B11:=B1.trans (hl1.mono B1.size)
 have hk1:w.heap.size+1+1<wb:=by rw[hb1];simp
 have hz1:wb<w1.heap.size:=(o1.lt rfl).2
 clear hl1 hb1 A1 R1 O1 B1
 have xa1:w1.cell? (ad w.heap.size 2)=some _:=A11.cell 2
 have xo1:=O11.cel 1
 have xf1:=O11.free 1
 have HH1:Hid (Box w1 w.heap.size 26 _/\Box w1 (w.heap.size+1) 37 _/\Box w1 (w.heap.size+1+1) 37 _/\Below w.heap.size w w1):=⟨A11,R11,O11,B11⟩
 have P1_1:Hid (VOwn wb 3 1 w1 (.slice (some (ad wb 0)) p.nw p.nw) p.nw (oneF p.W)):=o1
 clear A11 R11 O11 B11 o1
 go_wp2_with fail
 obtain⟨A11,R11,O11,B11⟩:=HH1.out
 have A2:=A11.other (p:=(ad (w.heap.size+1+1) 1)) (by show w.heap.size≠w.heap.size+1+1;omega) (.slice (some (ad wb 0)) p.nw p.nw)
 have R2:=R11.other (p:=(ad (w.heap.size+1+1) 1)) (by show w.heap.size+1≠w.heap.size+1+1;omega) (.slice (some (ad wb 0)) p.nw p.nw)
 have O2:=O11.set 1 (.slice (some (ad wb 0)) p.nw p.nw)
 have B2:=B11.setCell (p:=(ad (w.heap.size+1+1) 1)) (by show w.heap.size<=w.heap.size+1+1;omega) (.slice (some (ad wb 0)) p.nw p.nw)
 have o1:=P1_1.out.keep nr (fun g hg=>Below.heap_setCell w1 (ad (w.heap.size+1+1) 1) (.slice (some (ad wb 0)) p.nw p.nw) g (by simp only[Value.ownBlock,Option.some.injEq] at hg;show g≠w.heap.size+1+1;omega))
 clear HH1 A11 R11 O11 B11 xa1 xo1 xf1 P1_1
 refine(toWayS ya p.ny yc p.Y _ s2 (H.out.wy.mono nr B2 nr) HS.out.1).mono ?_
 rintro e w2 ⟨yb,lo,hb2,rfl,o2,hl2⟩
 have A12:=A2.mono hl2 nr
 have R12:=R2.mono hl2 nr
 have O12:=O2.mono hl2 nr
 have B12:=B2.trans (hl2.mono B2.size)
 have o1:=o1.mono nr hl2 nr
 have hk2:wb<yb:=by rw[hb2,size_setc];exact hz1
 have hz2:lo p.ny<=w2.heap.size:=by obtain⟨_,_,_,_,h4,_⟩:=o2;exact h4
 clear hl2 hb2 A2 R2 O2 B2 hz1
 have xa2:w2.cell? (ad w.heap.size 3)=some _:=A12.cell 3
 have xo2:=O12.cel 2
 have xf2:=O12.free 2
 have HH2:Hid (Box w2 w.heap.size 26 _/\Box w2 (w.heap.size+1) 37 _/\Box w2 (w.heap.size+1+1) 37 _/\Below w.heap.size w w2):=⟨A12,R12,O12,B12⟩
 have P2_1:Hid (VOwn wb 3 1 w2 (.slice (some (ad wb 0)) p.nw p.nw) p.nw (oneF p.W)):=o1
 have P2_2:Hid (WsOwn w2 yb p.ny p.ny p.Y lo):=o2
 clear A12 R12 O12 B12 o1 o2
 go_wp2_with fail
 obtain⟨A12,R12,O12,B12⟩:=HH2.out
 have A3:=A12.other (p:=(ad (w.heap.size+1+1) 2)) (by show w.heap.size≠w.heap.size+1+1;omega) (.slice (some (ad yb 0)) p.ny p.ny)
 have R3:=R12.other (p:=(ad (w.heap.size+1+1) 2)) (by show w.heap.size+1≠w.heap.size+1+1;omega) (.slice (some (ad yb 0)) p.ny p.ny)
 have O3:=O12.set 2 (.slice (some (ad yb 0)) p.ny p.ny)
 have B3:=B12.setCell (p:=(ad (w.heap.size+1+1) 2)) (by show w.heap.size<=w.heap.size+1+1;omega) (.slice (some (ad yb 0)) p.ny p.ny)
 have o1:=P2_1.out.keep nr (fun g hg=>Below.heap_setCell w2 (ad (w.heap.size+1+1) 2) (.slice (some (ad yb 0)) p.ny p.ny) g (by simp only[Value.ownBlock,Option.some.injEq] at hg;show g≠w.heap.size+1+1;omega))
 have o2:=P2_2.out.keep (Nat.le_of_eq (size_setc w2 (ad (w.heap.size+1+1) 2) (.slice (some (ad yb 0)) p.ny p.ny)).symm) (fun g hg=>Below.heap_setCell w2 (ad (w.heap.size+1+1) 2) (.slice (some (ad yb 0)) p.ny p.ny) g (by show g≠w.heap.size+1+1;omega))
 clear HH2 A12 R12 O12 B12 xa2 xo2 xf2 P2_1 P2_2
 refine(toBoolSS ba p.nb bc p.K p.T _ s4 (H.out.br.mono nr B3 nr) HS.out.2).mono ?_
 rintro e w3 ⟨bb,r,hb3,rfl,o3,hl3⟩
 have A13:=A3.mono hl3 nr
 have R13:=R3.mono hl3 nr
 have O13:=O3.mono hl3 nr
 have B13:=B3.trans (hl3.mono B3.size)
 have o1:=o1.mono nr hl3 nr
 have o2:=o2.mono hl3 nr
 have hk3:lo p.ny<=bb:=by rw[hb3,size_setc];exact hz2
 clear hl3 hb3 A3 R3 O3 B3 hz2
 have xa3:w3.cell? (ad w.heap.size 4)=some _:=A13.cell 4
 have xo3:=O13.cel 3
 have xo0:=O13.cel 0
 have xo1:=O13.cel 1
 have xo2:=O13.cel 2
 have xo4:=O13.cel 4
 have xf3:=O13.free 3
 have xf4:=O13.free 4
 obtain⟨xr0,xr1,xr2,xr3,xr4⟩:=R13.c5
 obtain⟨xg0,xg1,xg2,xg3,xg4⟩:=R13.f5
 have HH3:Hid (Box w3 w.heap.size 26 _/\Box w3 (w.heap.size+1) 37 _/\Box w3 (w.heap.size+1+1) 37 _/\Below w.heap.size w w3):=⟨A13,R13,O13,B13⟩
 have P3_1:Hid (VOwn wb 3 1 w3 (.slice (some (ad wb 0)) p.nw p.nw) p.nw (oneF p.W)):=o1
 have P3_2:Hid (WsOwn w3 yb p.ny p.ny p.Y lo):=o2
 have P3_3:Hid (BsOwn w3 bb p.nb p.nb p.K p.T r):=o3
 clear A13 R13 O13 B13 o1 o2 o3
 go_wp2_with fail
 refine bodyPost_ret (v:=.agg #[.int .i64 p.sec,.slice (some (ad wb 0)) p.nw p.nw,.slice (some (ad yb 0)) p.ny p.ny,.slice (some (ad bb 0)) p.nb p.nb,.int .i64 p.hold]) (by simp[results,Tryz.results9,go_sem,xr0,xr1,xr2,xr3,xr4]) rfl ⟨wb,yb,bb,lo,r,rfl,?_,?_⟩
 ·
  have h4:=P3_2.out.lo0
  have hQ:PlOwn (w.heap.size+1+1+1) w3 p wb yb bb lo r:=⟨by omega,hk2,hk3,P3_1.out,P3_2.out,P3_3.out⟩
  refine hQ.keep (by omega) (by simp[World.setCell]) fun g hg=>?_
  have h1:g≠w.heap.size+1:=by omega
  have h2:g≠w.heap.size+1+1:=by omega
  rw[Below.heap_setCell _ _ _ _ h1,Below.heap_setCell _ _ _ _ h1,Below.heap_setCell _ _ _ _ h1,Below.heap_setCell _ _ _ _ h1,Below.heap_setCell _ _ _ _ h1,Below.heap_setCell _ _ _ _ h2,Below.heap_setCell _ _ _ _ h2]
 ·
  obtain⟨_,_,_,B13⟩:=HH3.out
  have h1:w.heap.size<=w.heap.size+1:=by omega
  have h2:w.heap.size<=w.heap.size+1+1:=by omega
  exact((((((B13.setCell h2 _).setCell h2 _).setCell h1 _).setCell h1 _).setCell h1 _).setCell h1 _).setCell h1 _
def WlAt (w:World) (a:Option Addr) (n:Nat) (N:Nat->Nat) (S:Nat->WS):Prop:=
 0<n->∃b off,a=some (ad b off)/\b<w.heap.size/\∀i,i<n->∃v,w.cell? (ad b (off+i))=some v/\WsV w (N i) (S i) v
theorem WlAt.mono {w w':World}{a:Option Addr}{n:Nat}{N:Nat->Nat}{S:Nat->WS}{B:Nat}(h:WlAt w a n N S) (hb:Below B w w') (hB:w.heap.size<=B):WlAt w' a n N S:=by
 intro h0
 obtain⟨b,off,h1,h2,h3⟩:=h h0
 refine⟨b,off,h1,Nat.lt_of_lt_of_le h2 hb.size,fun i hi=>?_⟩
 obtain⟨v,k1,k2⟩:=h3 i hi
 exact⟨v,(hb.cell (p:=(ad b (off+i))) (by show b<B;omega)).trans k1,k2.mono hb hB⟩
def heldS:WS->Bool
 | .idle=>false
 | .set _=>true
 | .clear=>true
 | .taking _=>true
 | .used _ _ _=>true
theorem ta166 (w:World):(Instr.typeAssert (.iface 161 (.agg #[])) 132 161 true).run Tryz.prog w=.ok (.tuple #[.agg #[],.bool true]) w:=by kernel_rfl
theorem ta168 (w:World) (x:Value):(Instr.typeAssert (.iface 163 x) 132 161 true).run Tryz.prog w=.ok (.tuple #[.agg #[],.bool false]) w:=by kernel_rfl
theorem ta169 (w:World) (x:Value):(Instr.typeAssert (.iface 164 x) 132 161 true).run Tryz.prog w=.ok (.tuple #[.agg #[],.bool false]) w:=by kernel_rfl
theorem ta171 (w:World) (x:Value):(Instr.typeAssert (.iface 166 x) 132 161 true).run Tryz.prog w=.ok (.tuple #[.agg #[],.bool false]) w:=by kernel_rfl
theorem ta174 (w:World) (x:Value):(Instr.typeAssert (.iface 169 x) 132 161 true).run Tryz.prog w=.ok (.tuple #[.agg #[],.bool false]) w:=by kernel_rfl
theorem ta_any {w:World}{n:Nat}{s:WS}{v:Value}(h:WsV w n s v) (W:World):(Instr.typeAssert v 132 161 true).run Tryz.prog W=.ok (.tuple #[.agg #[],.bool (!heldS s)]) W:=by
 cases s with
 |idle=>obtain rfl:=(h:v=_);exact ta166 W
 |set sh=>obtain rfl:=(h:v=_);exact ta168 W _
 |clear=>obtain rfl:=(h:v=_);exact ta169 W _
 |taking t=>obtain rfl:=(h:v=_);exact ta171 W _
 |used g B sh=>
  obtain⟨b,cap,cur,rfl,_⟩:=h
  exact ta174 W _
set_option maxRecDepth 100000 in
set_option maxHeartbeats 2000000 in
theorem isHeld114 (p:Pl) (wb yb bb:Nat) (oa:Option Addr) (no oc:Nat) (pa:Option Addr) (np pc:Nat) (ia:Option Addr) (ic:Nat) (S:Nat->WS) (N:Nat->Nat) (k:Nat) (w:World) (hk:k<p.ny) (hny:p.ny<=1048576) (h:WlAt w ia p.ny N S):
  Calls Tryz.prog 107 #[.agg #[.int .i64 p.sec,.slice (some (ad wb 0)) p.nw p.nw,.slice (some (ad yb 0)) p.ny p.ny,.slice (some (ad bb 0)) p.nb p.nb,.int .i64 p.hold,.slice oa no oc,.slice pa np pc,.slice ia p.ny ic],.int .i64 (k:Int)] w fun e w'=>e=.returned (.bool (heldS (S k)))/\Below w.heap.size w w':=by
 obtain⟨b,off,rfl,hb,hc⟩:=h (by omega)
 obtain⟨v,c0,hv⟩:=hc k hk
 obtain⟨t,x,rfl⟩:=hv.one
 have ht:=ta_any hv
 clear hc h hv
 have hk0:(0:Int)<=(k:Int):=by omega
 have hkn:(k:Int)<(p.ny:Int):=by omega
 have HB:Hid (Below w.heap.size w ((w.alloc (.cells (vDk p wb yb bb oa no oc pa np pc (some (ad b off)) ic) 84)).alloc (.cells #[] 161))):=bel2 _ _ _
 go_enter Tryz.func107,Tryz.ntmps107
 go_wp2_with(first |rw[ht]|fail)
 go_ret
 exact⟨by simp,HB.out⟩
def clashD (p:Pl) (S:Nat->WS):Bool:=anyB (fun i=>anyB (fun k=>p.T i k&&(heldS (S i)&&heldS (S k))) i) p.nb
set_option maxRecDepth 100000 in
set_option maxHeartbeats 8000000 in
theorem clash81 (p:Pl) (wb yb bb:Nat) (lo rr:Nat->Nat) (oa:Option Addr) (no oc:Nat) (pa:Option Addr) (np pc:Nat) (ia:Option Addr) (ic:Nat) (S:Nat->WS) (N:Nat->Nat) (w:World) (hs:p.small) (hok:p.Ok) (hP:PlOwn 0 w p wb yb bb lo rr) (h:WlAt w ia p.ny N S):
  Calls Tryz.prog 80 #[.agg #[.int .i64 p.sec,.slice (some (ad wb 0)) p.nw p.nw,.slice (some (ad yb 0)) p.ny p.ny,.slice (some (ad bb 0)) p.nb p.nb,.int .i64 p.hold,.slice oa no oc,.slice pa np pc,.slice ia p.ny ic]] w fun e w'=>e=.returned (.bool (clashD p S))/\Below w.heap.size w w':=by
 have HP:Hid (PlOwn 0 w p wb yb bb lo rr/\p.small/\p.Ok/\WlAt w ia p.ny N S):=⟨hP,hs,hok,h⟩
 have hny:p.ny<=1048576:=hs.2.1
 have hnbs:p.nb<=1048576:=hs.2.2.2.1
 obtain⟨R,HR⟩:∃R,Hid (clashD p S=R):=⟨_,rfl⟩
 rw[HR.out]
 have S0:Hid (Below w.heap.size w (w.alloc (.cells (vDk p wb yb bb oa no oc pa np pc ia ic) 84))/\Box (w.alloc (.cells (vDk p wb yb bb oa no oc pa np pc ia ic) 84)) w.heap.size 84 (vDk p wb yb bb oa no oc pa np pc ia ic)):=⟨bel1 _ _,Box.new _ _ _⟩
 have x3:=S0.out.2.cel 3
 clear hP hs hok h
 go_enter Tryz.func80,Tryz.ntmps80
 go_wp2_with fail
 clear x3
 go_loopw [11] (fun i wr=>∃q:Nat,q<=p.nb/\i=.int .i64 q/\Hid (∀i,i<q->anyB (fun k=>p.T i k&&(heldS (S i)&&heldS (S k))) i=false)/\Hid (Below w.heap.size w wr/\Box wr w.heap.size 84 (vDk p wb yb bb oa no oc pa np pc ia ic))) (fun i _=>p.nb-(intOf i).toNat)
 case atStart=>exact⟨0,Nat.zero_le _,rfl,fun i hi=>absurd hi (Nat.not_lt_zero _),S0⟩
 case round=>
  clear S0
  obtain⟨q,hq,rfl,HQ,S1⟩:=hrel
  by_cases hlt:q<p.nb
  ·
   have hqy:q<p.ny:=by have :=HP.out.2.2.1.nb;omega
   have hKq:p.K q=p.ny:=HP.out.2.2.1.row q hlt
   obtain⟨vs,hbx,_,hrow⟩:=HP.out.1.br.mono S1.out.1 nr
   obtain⟨e1,e2,_⟩:=hrow q hlt
   rw[hKq] at e1 e2
   have c0:wr.cell? (ad bb q)=some (.slice (some (ad (rr q) 0)) p.ny p.ny):=by rw[hbx.cell];exact e1
   have HROW:Hid (VsAt 1 0 wr (some (ad (rr q) 0)) p.ny (boolF (p.T q))):=e2.vs.le (Nat.zero_le _)
   clear hrow hbx e1 e2
   have hq0:(0:Int)<=(q:Int):=by omega
   have hqn:(q:Int)<(p.nb:Int):=by omega
   have hqy':(q:Int)<=(p.ny:Int):=by omega
   go_wp2_with fail
   clear c0
   obtain⟨WR,hWR⟩:∃W,W=wr:=⟨wr,rfl⟩
   rw[<-hWR] at S1 HROW
   rw[<-hWR]
   clear hWR
   go_loopw [20] (fun j wi=>∃r:Nat,r<=q/\j=.int .i64 r/\Hid (∀k,k<r->(p.T q k&&(heldS (S q)&&heldS (S k)))=false)/\Hid (Below WR.heap.size WR wi)) (fun j _=>q-(intOf j).toNat)
   case atStart=>exact⟨0,Nat.zero_le _,rfl,fun i hi=>absurd hi (Nat.not_lt_zero _),Below.refl _ _⟩
   case round=>
    obtain⟨r,hr,rfl,HQr,HBI⟩:=hrel
    have S2:Hid (Below w.heap.size w wr/\Box wr w.heap.size 84 (vDk p wb yb bb oa no oc pa np pc ia ic)):=⟨S1.out.1.trans (HBI.out.mono S1.out.1.size),S1.out.2.mono HBI.out nr⟩
    by_cases hrq:r<q
    ·
     obtain⟨rb,ro,hra,_,_,hcr⟩:=HROW.out.mono nr HBI.out nr (by omega)
     simp only[Option.some.injEq,Addr.mk.injEq,and_true] at hra
     obtain⟨rfl,rfl⟩:=hra
     have e0:wr.cell? (ad (rr q) r)=some (.bool (p.T q r)):=by have :=hcr r (by omega) 0 (by omega);simpa using this
     clear hcr
     have hr0:(0:Int)<=(r:Int):=by omega
     have hrq':(r:Int)<(q:Int):=by omega
     have HGO:Hid ((p.T q r&&(heldS (S q)&&heldS (S r)))=false->∀k,k<r+1->(p.T q k&&(heldS (S q)&&heldS (S k)))=false):=fun e k hk=>by
      by_cases c:k=r
      ·
       subst c
       exact e
      ·
       exact HQr.out k (by omega)
     have HYES:Hid ((p.T q r&&(heldS (S q)&&heldS (S r)))=true->R=true):=fun e=>by
      rw[<-HR.out,clashD]
      exact anyB_yes hlt (anyB_yes hrq e)
     have HL:Hid (∀W,Below w.heap.size w W->WlAt W ia p.ny N S):=fun W hb=>HP.out.2.2.2.mono hb nr
     cases hT:p.T q r with
     |false=>
      rw[hT] at e0
      go_wp2_with fail
      go_roundw
      case rel=>exact⟨r+1,by omega,by go_num,HGO.out (by rw[hT];rfl),HBI⟩
      case measure=>simp[intOf];omega
     |true=>
      rw[hT] at e0
      obtain⟨x0,x1,x2,x3,x4,x5,x6,x7⟩:=S2.out.2.c8
      go_wp2_with fail
      refine(isHeld114 p wb yb bb oa no oc pa np pc ia ic S N q _ hqy hny (HL.out _ S2.out.1)).mono ?_
      rintro e w2 ⟨he,hb2⟩
      have HB2:Hid (Below WR.heap.size WR w2):=HBI.out.trans (hb2.mono HBI.out.size)
      have S3:Hid (Below w.heap.size w w2/\Box w2 w.heap.size 84 (vDk p wb yb bb oa no oc pa np pc ia ic)):=⟨S2.out.1.trans (hb2.mono S2.out.1.size),S2.out.2.mono hb2 nr⟩
      clear hb2 S2 x0 x1 x2 x3 x4 x5 x6 x7 e0
      cases hA:heldS (S q) with
      |false=>
       rw[hA] at he
       subst he
       go_wp2_with fail
       go_roundw
       case rel=>exact⟨r+1,by omega,by go_num,HGO.out (by rw[hA];simp),HB2⟩
       case measure=>simp[intOf];omega
      |true=>
       rw[hA] at he
       subst he
       obtain⟨x0,x1,x2,x3,x4,x5,x6,x7⟩:=S3.out.2.c8
       go_wp2_with fail
       refine(isHeld114 p wb yb bb oa no oc pa np pc ia ic S N r _ (by omega) hny (HL.out _ S3.out.1)).mono ?_
       rintro e w3 ⟨he,hb3⟩
       have HB3:Hid (Below WR.heap.size WR w3):=HB2.out.trans (hb3.mono HB2.out.size)
       have HB4:Hid (Below w.heap.size w w3):=S3.out.1.trans (hb3.mono S3.out.1.size)
       clear hb3 S3 HB2 x0 x1 x2 x3 x4 x5 x6 x7
       cases hA2:heldS (S r) with
       |false=>
        rw[hA2] at he
        subst he
        go_wp2_with fail
        go_roundw
        case rel=>exact⟨r+1,by omega,by go_num,HGO.out (by rw[hA2];simp),HB3⟩
        case measure=>simp[intOf];omega
       |true=>
        rw[hA2] at he
        subst he
        have HF:Hid (R=true):=HYES.out (by rw[hT,hA,hA2];rfl)
        go_wp2_with fail
        go_ret
        exact⟨by rw[HF.out];rfl,HB4.out⟩
    ·
     obtain rfl:r=q:=by omega
     have HQ2:Hid (∀i,i<r+1->anyB (fun k=>p.T i k&&(heldS (S i)&&heldS (S k))) i=false):=fun i hi=>by
      by_cases c:i=r
      ·
       subst c
       exact anyB_no HQr.out
      ·
       exact HQ.out i (by omega)
     go_wp2_with fail
     go_roundw
     case rel=>exact⟨r+1,by omega,by go_num,HQ2,S2⟩
     case measure=>simp[intOf];omega
  ·
   obtain rfl:q=p.nb:=by omega
   have HF:Hid (R=false):=by
    rw[Hid,<-HR.out,clashD]
    exact anyB_no HQ.out
   go_wp2_with fail
   go_ret
   exact⟨by rw[HF.out];rfl,S1.out.1⟩
end Go.Proofs.YtkeilejbelblcaaGreatDoor
namespace Go.Proofs.YtkeilejbelblcaaGreatDoor
open Go.RowKit Go.Lib
set_option maxHeartbeats 2000000 in
set_option maxRecDepth 100000 in
theorem grow146 (n:Nat) (F:Nat->Nat->Value) (w:World) (hn:n<=2097152):
  Calls Tryz.prog 140 #[.slice none 0 0,.int .i64 n] w fun e w'=>∃v,e=.returned v/\VOwn w.heap.size 3 1 w' v 0 F/\Below w.heap.size w w':=by
 obtain⟨i0,hi0,hz0,hs0,hb0⟩:=info_parts infoInt
 have h1:¬((n:Int)<0):=by omega
 by_cases h0:n=0
 ·
  subst h0
  go_enter Tryz.func140,Tryz.ntmps140
  go_wp2
  go_ret
  exact⟨_,rfl,VOwn.nil _ _ _ _ _,Below.refl _ _⟩
 ·
  have h4:(0:Int)<(n:Int):=by omega
  have hold:(Builtin.firstCells i0.size 0 (.slice none 0 0)).run Tryz.prog w.drew=.ok ([]:List Value).toArray w.drew:=run_firstCells_none w.drew i0.size 0 0 0
  have hrz:∀ty,(Builtin.append_ #[22,3] ty #[.slice none 0 0,.int .i64 (n:Int)]).run Tryz.prog w=
    .ok (.slice (some (ad w.heap.size 0)) (0+n) (grownCap w (0+n) 0 3)) (w.drew.alloc (.cells (([]:List Value).toArray++Builtin.zeroCells (Value.int .i64 0).cells n++Builtin.zeroCells (Value.int .i64 0).cells (grownCap w (0+n) 0 3-(0+n))) 3)):=fun ty=>
   run_append_grow_zeros w 22 3 ty 3 i0 _ .i64 .i64 Tryz.underlying22 Tryz.underlying3 hi0 hz0 none 0 0 [] hold n (by omega) (by omega) (by omega) (by omega) (by rw[hb0];omega) (by rw[hb0];have :=growslice_fits (need:=0+n) (old:=0) (bytes:=8) (by omega) (by omega);exact this)
  obtain⟨G,hG⟩:∃G,G=grownCap w (0+n) 0 3:=⟨_,rfl⟩
  have hGn:0+n<=G:=by rw[hG];exact grownCap_ge w _ _ _
  have hGm:G<=maxLen:=by rw[hG];exact grownCap_le_maxLen w (0+n) 0 3 (by unfold maxLen;omega)
  have hG63:G<=9223372036854775807:=by unfold maxLen at hGm;omega
  rw[<-hG] at hrz
  have HO:Hid ((w.alloc (.cells (Builtin.zeroCells #[.int .i64 0] n++Builtin.zeroCells #[.int .i64 0] (G-n)) 3)).drew.ownsRow w.heap.size 3 1 (.slice (some (ad w.heap.size 0)) 0 G) 0 []):=World.ownsRow_made w _ G nr hGm (by
   simp only[Array.size_append,size_zeroCells]
   show n*1+(G-n)*1=G*1
   omega)
  have HB:Hid (Below w.heap.size w (w.alloc (.cells (Builtin.zeroCells #[.int .i64 0] n++Builtin.zeroCells #[.int .i64 0] (G-n)) 3)).drew):=(bel1 _ _).drew
  clear hold hG
  go_enter Tryz.func140,Tryz.ntmps140
  go_wp2_with(at_builtin;refine wpList_append_run _ rfl _ _ _ _ rfl _ _ rfl rfl _ _ (hrz _) ?_)
  all_goals
   go_ret
   exact⟨_,rfl,VOwn.of_row HO.out,HB.out⟩
set_option maxHeartbeats 4000000 in
set_option maxRecDepth 100000 in
theorem concat128 (q lb lo nl lc fb fo nf fc:Nat) (L F:Nat->Nat->Int) (w:World) (hl:nl<=1048576) (hf:nf<=1048576) (hq:Box w q 22 #[.slice (some (ad lb lo)) nl lc,.slice (some (ad fb fo)) nf fc]) (hL:VsAt 1 0 w (some (ad lb lo)) nl (intF L)) (hF:VsAt 1 0 w (some (ad fb fo)) nf (intF F)):
  Calls Tryz.prog 122 #[.slice (some (ad q 0)) 2 2] w fun e w'=>∃v,e=.returned v/\VOwn w.heap.size 3 1 w' v (nl+nf) (intF (cat nl L F))/\Below w.heap.size w w':=by
 obtain⟨i0,hi0,hz0,hs0,hb0⟩:=info_parts infoInt
 obtain⟨c0,c1⟩:=hq.c2
 have H:Hid (Box w q 22 #[.slice (some (ad lb lo)) nl lc,.slice (some (ad fb fo)) nf fc]/\VsAt 1 0 w (some (ad lb lo)) nl (intF L)/\VsAt 1 0 w (some (ad fb fo)) nf (intF F)):=⟨hq,hL,hF⟩
 clear hq hL hF
 have n1:¬(nl:Int)<0:=by omega
 have n2:¬(nl:Int)+(nf:Int)<0:=by omega
 go_enter Tryz.func122,Tryz.ntmps122
 go_wp2_with fail
 refine wp_loop_rounds 3 ?_
 rw[rounds_succ]
 go_wp2_with fail
 rw[rounds_succ]
 go_wp2_with fail
 rw[rounds_succ]
 go_wp2_with fail
 have hsum:(nl:Int)+(nf:Int)=((nl+nf:Nat):Int):=by omega
 rw[hsum]
 refine(grow146 (nl+nf) (intF (fun _ _=>0)) _ (by omega)).mono ?_
 rintro e w1 ⟨v,rfl,ho,hb1⟩
 have HO:Hid (VOwn w.heap.size 3 1 w1 v 0 (intF (fun _ _=>0))/\Below w.heap.size w w1):=⟨ho,hb1⟩
 obtain⟨c0,c1⟩:=(H.out.1.mono hb1 nr).c2
 clear ho hb1 hsum n1 n2
 go_wp2_with fail
 refine wp_loop_rounds 3 ?_
 rw[rounds_succ]
 go_wp2_with(at_builtin;go_must (refine wpList_vcat _ rfl _ _ 22 rfl w.heap.size 3 i0 _ 1 8 Tryz.underlying22 hi0 hz0 hs0 hb0 rfl (by decide) v 0 (fun _ _=>0) rfl HO.out.1 lb lo nl lc L rfl (H.out.2.1.mono nr HO.out.2 nr) (by simp only[maxLen];omega) (by omega) HO.out.2.size (Halt.mk ?_)))
 intro v2 w2 o2 g2
 have o2:VOwn w.heap.size 3 1 w2 v2 nl (intF L):=(by simpa using o2:VOwn w.heap.size 3 1 w2 v2 nl (intF (cat 0 (fun _ _=>0) L))).congr fun i _ j _=>by simp[cat]
 have X1:=H.out.1.mono HO.out.2 nr
 have X2:=X1.grown g2 (fun e=>HO.out.1.off X1 (by decide) e rfl)
 have B2:Below w.heap.size w w2:=HO.out.2.grown g2 HO.out.2.size (fun j hj=>(HO.out.1.lt hj).1)
 have HO2:Hid (VOwn w.heap.size 3 1 w2 v2 nl (intF L)/\Below w.heap.size w w2):=⟨o2,B2⟩
 have c1:=X2.cel 1
 clear o2 g2 X1 X2 B2 HO c0
 go_wp2_with fail
 rw[rounds_succ]
 go_wp2_with(at_builtin;go_must (refine wpList_vcat _ rfl _ _ 22 rfl w.heap.size 3 i0 _ 1 8 Tryz.underlying22 hi0 hz0 hs0 hb0 rfl (by decide) v2 nl L rfl HO2.out.1 fb fo nf fc F rfl (H.out.2.2.mono nr HO2.out.2 nr) (by simp only[maxLen];omega) (by omega) HO2.out.2.size (Halt.mk ?_)))
 intro v3 w3 o3 g3
 have B3:Below w.heap.size w w3:=HO2.out.2.grown g3 HO2.out.2.size (fun j hj=>(HO2.out.1.lt hj).1)
 have HO3:Hid (VOwn w.heap.size 3 1 w3 v3 (nl+nf) (intF (cat nl L F))/\Below w.heap.size w w3):=⟨o3,B3⟩
 clear o3 g3 B3 HO2 c1
 go_wp2_with fail
 rw[rounds_succ]
 go_wp2_with fail
 go_ret
 exact⟨_,rfl,HO3.out.1,HO3.out.2⟩
structure VwIn (w:World) (y:Wy) (b1 b2 b3 b4 b5:Nat) (oa:Option Addr) (no:Nat) (O:Nat->Bool) (pa:Option Addr) (np:Nat) (P:Nat->Nat->Int):Prop where
 wy:WyIn 0 w y (some (ad b1 0)) (some (ad b2 0)) (some (ad b3 0)) (some (ad b4 0)) (some (ad b5 0))
 oc:VsAt 1 0 w oa no (boolF O)
 pt:VsAt 2 0 w pa np (intF P)
 inn:y.In no np
 sm:y.small 1048576
 lno:no<=1048576
 lnp:np<=1048576
theorem VwIn.mono {w w':World}{y:Wy}{b1 b2 b3 b4 b5:Nat}{oa:Option Addr}{no:Nat}{O:Nat->Bool}{pa:Option Addr}{np:Nat}{P:Nat->Nat->Int}{B:Nat}(h:VwIn w y b1 b2 b3 b4 b5 oa no O pa np P) (hb:Below B w w') (hB:w.heap.size<=B):VwIn w' y b1 b2 b3 b4 b5 oa no O pa np P:=
 ⟨h.wy.mono nr hb hB,h.oc.mono nr hb hB,h.pt.mono nr hb hB,h.inn,h.sm,h.lno,h.lnp⟩
set_option maxRecDepth 100000 in
set_option maxHeartbeats 2000000 in
theorem filled197 (y:Wy) (b1 b2 b3 b4 b5:Nat) (oa:Option Addr) (no oc:Nat) (O:Nat->Bool) (pa:Option Addr) (np pc:Nat) (P:Nat->Nat->Int) (k:Nat) (w:World) (hk:k<y.ns) (h:VwIn w y b1 b2 b3 b4 b5 oa no O pa np P):
  Calls Tryz.prog 198 #[.agg #[.slice (some (ad b1 0)) y.ns y.ns,.slice (some (ad b2 0)) y.nl y.nl,.slice (some (ad b3 0)) y.nf y.nf,.slice (some (ad b4 0)) y.no y.no,.slice (some (ad b5 0)) y.nm y.nm,.slice oa no oc,.slice pa np pc],.int .i64 (k:Int)] w fun e w'=>e=.returned (.bool (O (y.S k).toNat))/\Below w.heap.size w w':=by
 obtain⟨o,ho,hon⟩:=h.inn.s k hk
 have hno:=h.lno
 have hns:(y.ns:Int)<=1048576:=h.sm.1
 obtain⟨ob,oo,rfl,_,hob,hoc⟩:=h.oc (by omega)
 obtain⟨sb,so,e,_,hsb,hsc⟩:=h.wy.s (by omega)
 simp only[Option.some.injEq,Addr.mk.injEq,and_true] at e
 obtain⟨rfl,rfl⟩:=e
 have c0:w.cell? (ad b1 k)=some (.int .i64 (y.S k)):=by have :=hsc k hk 0 (by omega);simpa using this
 have c1:w.cell? (ad ob (oo+o))=some (.bool (O o)):=by have :=hoc o hon 0 (by omega);simpa using this
 rw[ho] at c0
 have HO:Hid ((y.S k).toNat=o):=by rw[Hid,ho];omega
 clear ho hsc hoc h
 have hk0:(0:Int)<=(k:Int):=by omega
 have hkn:(k:Int)<(y.ns:Int):=by omega
 have ho0:(0:Int)<=(o:Int):=by omega
 have hon':(o:Int)<(no:Int):=by omega
 have HB:Hid (Below w.heap.size w (w.alloc (.cells (vVw y b1 b2 b3 b4 b5 (some (ad ob oo)) no oc pa np pc) 114))):=bel1 _ _
 have B0:=Box.new w 114 (vVw y b1 b2 b3 b4 b5 (some (ad ob oo)) no oc pa np pc)
 have c0:=cell_keep HB.out hsb c0
 have c1:=cell_keep HB.out hob c1
 go_enter Tryz.func198,Tryz.ntmps198
 go_wp2_with fail
 generalize w.alloc (.cells (vVw y b1 b2 b3 b4 b5 (some (ad ob oo)) no oc pa np pc) 114)=W at *
 have x0:=B0.cel 0
 have x5:=B0.cel 5
 clear B0
 go_quiet (fail)
 go_wp2_with fail
 go_ret
 exact⟨by rw[HO.out];rfl,below_drewN HB.out _⟩
def secC (y:Wy) (j:Nat):Int:=cat y.ns (fun i _=>y.S i) (fun i _=>y.O i) j 0
theorem allB_add {f:Nat->Bool}(n:Nat):∀m,allB f (n+m)=(allB f n&&allB (fun j=>f (n+j)) m)
 |0=>by simp[allB]
 |m+1=>by
  have h1:allB f (n+m+1)=(allB f (n+m)&&f (n+m)):=by rfl
  have h2:allB (fun j=>f (n+j)) (m+1)=(allB (fun j=>f (n+j)) m&&f (n+m)):=by rfl
  rw[<-Nat.add_assoc,h1,h2,allB_add n m,Bool.and_assoc]
theorem secC_free (y:Wy) (O:Nat->Bool):allB (fun j=>!O (secC y j).toNat) (y.ns+y.no)=(freeB y.S y.ns O&&freeB y.O y.no O):=by
 rw[allB_add]
 congr 1
 ·
  unfold freeB
  exact allB_congr fun j hj=>by simp[secC,cat,hj]
 ·
  unfold freeB
  exact allB_congr fun j _=>by rw[secC,cat,if_neg (by omega),Nat.add_sub_cancel_left]
def updI (D:Nat->Int) (n:Nat) (x:Int) (i:Nat):Int:=if i<n then D i else x
def CrR (w:World) (y:Wy) (O:Nat->Bool) (e:Ending) (w':World):Prop:=
 ∃va n vc,e=.returned (.slice va n vc)/\n<=2097152/\decide (n=0)=(freeB y.S y.ns O&&freeB y.O y.no O)/\Below w.heap.size w w'
set_option maxRecDepth 100000 in
set_option maxHeartbeats 8000000 in
theorem crowd106 (y:Wy) (b1 b2 b3 b4 b5:Nat) (oa:Option Addr) (no oc:Nat) (O:Nat->Bool) (pa:Option Addr) (np pc:Nat) (P:Nat->Nat->Int) (w:World) (h:VwIn w y b1 b2 b3 b4 b5 oa no O pa np P):
  Calls Tryz.prog 99 #[.agg #[.slice (some (ad b1 0)) y.ns y.ns,.slice (some (ad b2 0)) y.nl y.nl,.slice (some (ad b3 0)) y.nf y.nf,.slice (some (ad b4 0)) y.no y.no,.slice (some (ad b5 0)) y.nm y.nm,.slice oa no oc,.slice pa np pc]] w fun e w'=>CrR w y O e w':=by
 have H:Hid (VwIn w y b1 b2 b3 b4 b5 oa no O pa np P):=h
 obtain⟨i0,hi0,hz0,hs0,hb0⟩:=info_parts infoInt
 have hns:y.ns<=1048576:=by have :=h.sm.1;omega
 have hno:y.no<=1048576:=by have :=h.sm.2.2.2.1;omega
 clear h
 have S0:Hid (Below w.heap.size w ((w.alloc (.cells (vVw y b1 b2 b3 b4 b5 oa no oc pa np pc) 114)).alloc (.cells #[.slice (some (ad b1 0)) y.ns y.ns,.slice (some (ad b4 0)) y.no y.no] 22))/\Box ((w.alloc (.cells (vVw y b1 b2 b3 b4 b5 oa no oc pa np pc) 114)).alloc (.cells #[.slice (some (ad b1 0)) y.ns y.ns,.slice (some (ad b4 0)) y.no y.no] 22)) w.heap.size 114 (vVw y b1 b2 b3 b4 b5 oa no oc pa np pc)/\Box ((w.alloc (.cells (vVw y b1 b2 b3 b4 b5 oa no oc pa np pc) 114)).alloc (.cells #[.slice (some (ad b1 0)) y.ns y.ns,.slice (some (ad b4 0)) y.no y.no] 22)) (w.heap.size+1) 22 #[.slice (some (ad b1 0)) y.ns y.ns,.slice (some (ad b4 0)) y.no y.no]):=⟨bel2 _ _ _,(Box.new _ _ _).alloc _,by have :=Box.new (w.alloc (.cells (vVw y b1 b2 b3 b4 b5 oa no oc pa np pc) 114)) 22 #[.slice (some (ad b1 0)) y.ns y.ns,.slice (some (ad b4 0)) y.no y.no];simpa using this⟩
 go_enter Tryz.func99,Tryz.ntmps99
 go_wp2_with fail
 generalize (w.alloc (.cells (vVw y b1 b2 b3 b4 b5 oa no oc pa np pc) 114)).alloc (.cells #[.slice (some (ad b1 0)) y.ns y.ns,.slice (some (ad b4 0)) y.no y.no] 22)=W at S0⊢
 refine(concat128 (w.heap.size+1) b1 0 y.ns y.ns b4 0 y.no y.no (fun i _=>y.S i) (fun i _=>y.O i) W hns hno S0.out.2.2 (H.out.wy.s.mono nr S0.out.1 nr) (H.out.wy.o.mono nr S0.out.1 nr)).mono ?_
 rintro e w1 ⟨v,rfl,hv,hb1⟩
 obtain⟨ca,cc,rfl⟩:=hv.val
 have hv2:VOwn W.heap.size 3 1 w1 (.slice ca (y.ns+y.no) cc) (y.ns+y.no) (oneF (secC y)):=hv.congr fun i _ j hj=>by
  obtain rfl:j=0:=by omega
  rfl
 have S1:Hid (Below w.heap.size w w1/\Box w1 w.heap.size 114 (vVw y b1 b2 b3 b4 b5 oa no oc pa np pc)/\VsAt 1 0 w1 ca (y.ns+y.no) (oneF (secC y))):=⟨S0.out.1.trans (hb1.mono S0.out.1.size),S0.out.2.1.mono hb1 nr,hv2.vs.le (Nat.zero_le _)⟩
 clear S0 hv hv2 hb1
 go_wp2_with fail
 go_loopw [3,15] (fun u i wr=>∃(q m:Nat) (va:Option Addr) (vc:Nat) (D:Nat->Int),q<=y.ns+y.no/\m<=q/\i=.int .i64 (q:Int)/\u=.slice va m vc/\Hid (decide (m=0)=allB (fun j=>!O (secC y j).toNat) q)/\Hid (Below w1.heap.size w1 wr/\VOwn w1.heap.size 3 1 wr (.slice va m vc) m (oneF D))) (fun _ i _=>(y.ns+y.no)-(intOf i).toNat)
 case atStart=>exact⟨0,0,none,0,fun _=>0,Nat.zero_le _,Nat.le_refl _,rfl,rfl,rfl,Below.refl _ _,VOwn.nil _ _ _ _ _⟩
 case round=>
  obtain⟨q,m,va,vc,D,hq,hm,rfl,rfl,HD,M⟩:=hrel
  by_cases hlt:q<y.ns+y.no
  ·
   obtain⟨o,ho,hon⟩:∃o:Nat,secC y q=(o:Int)/\o<no:=by
    by_cases c:q<y.ns
    ·
     obtain⟨o,h1,h2⟩:=H.out.inn.s q c
     exact⟨o,by simp[secC,cat,c,h1],h2⟩
    ·
     obtain⟨o,h1,h2⟩:=H.out.inn.o (q-y.ns) (by omega)
     exact⟨o,by simp[secC,cat,c,h1],h2⟩
   have hno2:=H.out.lno
   obtain⟨cb,co,rfl,_,hcb,hcc⟩:=S1.out.2.2.mono nr M.out.1 nr (by omega)
   have hQ:=(H.out.oc.mono nr S1.out.1 nr).mono nr M.out.1 nr
   obtain⟨ob,oo,rfl,_,hob,hoc⟩:=hQ (by omega)
   have c0:wr.cell? (ad cb (co+q))=some (.int .i64 (o:Int)):=by have :=hcc q hlt 0 (by omega);rw[Nat.mul_one,Nat.add_zero,oneF,ho] at this;exact this
   have c1:wr.cell? (ad ob (oo+o))=some (.bool (O o)):=by have :=hoc o hon 0 (by omega);simpa using this
   have x5:=(S1.out.2.1.mono M.out.1 nr).cel 5
   clear hcc hoc hQ
   have hq0:(0:Int)<=(q:Int):=by omega
   have hql:(q:Int)<((y.ns+y.no:Nat):Int):=by omega
   have ho0:(0:Int)<=(o:Int):=by omega
   have hon':(o:Int)<(no:Int):=by omega
   have hszr:w1.heap.size<=wr.heap.size:=M.out.1.size
   have HS:Hid (allB (fun j=>!O (secC y j).toNat) (q+1)=(allB (fun j=>!O (secC y j).toNat) q&&!O o)):=by
    have :(secC y q).toNat=o:=by omega
    show(allB (fun j=>!O (secC y j).toNat) q&&!O (secC y q).toNat)=_
    rw[this]
   cases hO:O o with
   |false=>
    rw[hO] at c1
    have HD2:Hid (decide (m=0)=allB (fun j=>!O (secC y j).toNat) (q+1)):=by rw[Hid,HS.out,hO,HD.out];simp
    go_wp2_with fail
    go_roundw
    case rel=>exact⟨q+1,m,va,vc,D,by omega,by omega,by go_num,rfl,HD2,M⟩
    case measure=>simp[intOf];omega
   |true=>
    rw[hO] at c1
    have HD2:Hid (decide (m+1=0)=allB (fun j=>!O (secC y j).toNat) (q+1)):=by rw[Hid,HS.out,hO];simp
    have HW:Hid (VOwn w1.heap.size 3 1 wr (.slice va m vc) m (oneF (updI D m (o:Int)))):=M.out.2.congr fun i hi j _=>by simp[updI,hi]
    have hbx:Box (wr.alloc (.cells #[.int .i64 (o:Int)] 3)) wr.heap.size 3 #[.int .i64 (o:Int)]:=Box.new _ _ _
    go_wp2_with(at_builtin;go_must (refine wpList_vapp _ rfl _ _ 22 rfl w1.heap.size 3 i0 _ 1 8 Tryz.underlying22 hi0 hz0 hs0 hb0 rfl (by decide) (.slice va m vc) m (oneF (updI D m (o:Int))) rfl (HW.out.alloc _) (fun _ _=>rfl) wr.heap.size 1 #[.int .i64 (o:Int)] rfl hbx (by simp[updI]) (by simp only[maxLen];omega) (by omega) (by simp;omega) (Halt.mk ?_)))
    intro v2 w2 o2 g2
    obtain⟨va2,vc2,rfl⟩:=o2.val
    have M2:Hid (Below w1.heap.size w1 w2/\VOwn w1.heap.size 3 1 w2 (.slice va2 (m+1) vc2) (m+1) (oneF (updI D m (o:Int)))):=⟨(M.out.1.alloc hszr _).grown g2 (by simp;omega) (fun j hj=>(HW.out.lt hj).1),o2⟩
    clear o2 g2 HW hbx
    go_wp2_with fail
    go_roundw
    case rel=>exact⟨q+1,m+1,va2,vc2,_,by omega,by omega,by go_num,rfl,HD2,M2⟩
    case measure=>simp[intOf];omega
  ·
   obtain rfl:q=y.ns+y.no:=by omega
   have HF:Hid (CrR w y O (.returned (.slice va m vc)) wr):=⟨va,m,vc,rfl,by omega,by rw[HD.out,secC_free],S1.out.1.trans (M.out.1.mono S1.out.1.size)⟩
   go_wp2_with fail
   go_ret
   exact HF.out
end Go.Proofs.YtkeilejbelblcaaGreatDoor
