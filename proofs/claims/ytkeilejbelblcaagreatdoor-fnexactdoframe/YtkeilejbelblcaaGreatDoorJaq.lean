import Derived.Test.YtkeilejbelblcaaGreatDoorJap
namespace Go.Proofs.YtkeilejbelblcaaGreatDoor
open Go.RowKit
structure WyOwn (C:Nat) (w:World) (y:Wy) (b1 b2 b3 b4 b5:Nat):Prop where
 c1:C<=b1
 c2:b1<b2
 c3:b2<b3
 c4:b3<b4
 c5:b4<b5
 s:VOwn b1 3 1 w (.slice (some (ad b1 0)) y.ns y.ns) y.ns (oneF y.S)
 l:VOwn b2 146 2 w (.slice (some (ad b2 0)) y.nl y.nl) y.nl (intF y.L)
 f:VOwn b3 146 2 w (.slice (some (ad b3 0)) y.nf y.nf) y.nf (intF y.F)
 o:VOwn b4 3 1 w (.slice (some (ad b4 0)) y.no y.no) y.no (oneF y.O)
 m:VOwn b5 3 1 w (.slice (some (ad b5 0)) y.nm y.nm) y.nm (oneF y.M)
theorem WyOwn.keep {C C':Nat}{w w':World}{y:Wy}{b1 b2 b3 b4 b5:Nat}(h:WyOwn C w y b1 b2 b3 b4 b5) (hC:C'<=C) (hk:∀g,C<=g->g<=b5->w'.heap[g]?=w.heap[g]?):WyOwn C' w' y b1 b2 b3 b4 b5:=by
 obtain⟨h1,h2,h3,h4,h5,a,b,c,d,e⟩:=h
 refine⟨by omega,h2,h3,h4,h5,a.keep nr ?_,b.keep nr ?_,c.keep nr ?_,d.keep nr ?_,e.keep nr ?_⟩<;>
 ·
  intro g hg
  simp only[Value.ownBlock,Option.some.injEq] at hg
  exact hk g (by omega) (by omega)
theorem WyOwn.lt {C:Nat}{w:World}{y:Wy}{b1 b2 b3 b4 b5:Nat}(h:WyOwn C w y b1 b2 b3 b4 b5):b5<w.heap.size:=(h.m.lt rfl).2
theorem WyOwn.mono {C C':Nat}{w w':World}{y:Wy}{b1 b2 b3 b4 b5 N:Nat}(h:WyOwn C w y b1 b2 b3 b4 b5) (hC:C'<=C) (hb:Below N w w') (hN:w.heap.size<=N):WyOwn C' w' y b1 b2 b3 b4 b5:=h.keep hC fun g _ hg=>hb.block g (by have :=h.lt;omega)
theorem WyOwn.in {C C':Nat}{w:World}{y:Wy}{b1 b2 b3 b4 b5:Nat}(h:WyOwn C w y b1 b2 b3 b4 b5) (hC:C'<=C):WyIn C' w y (some (ad b1 0)) (some (ad b2 0)) (some (ad b3 0)) (some (ad b4 0)) (some (ad b5 0)):=by
 have h1:=h.c1
 have h2:=h.c2
 have h3:=h.c3
 have h4:=h.c4
 have h5:=h.c5
 exact⟨h.s.vs.le (by omega),h.l.vs.le (by omega),h.f.vs.le (by omega),h.o.vs.le (by omega),h.m.vs.le (by omega)⟩
set_option maxRecDepth 100000 in
set_option maxHeartbeats 4000000 in
theorem toWay (y:Wy) (sa la fa oa ma:Option Addr) (sc lc fc oc mc:Nat) (w:World) (hs:y.small 1048576) (h:WyIn 0 w y sa la fa oa ma):
  Calls Tryz.prog 74 #[.agg #[.slice sa y.ns sc,.slice la y.nl lc,.slice fa y.nf fc,.slice oa y.no oc,.slice ma y.nm mc]] w fun e w'=>∃b1 b2 b3 b4 b5,e=.returned (.agg #[.slice (some (ad b1 0)) y.ns y.ns,.slice (some (ad b2 0)) y.nl y.nl,.slice (some (ad b3 0)) y.nf y.nf,.slice (some (ad b4 0)) y.no y.no,.slice (some (ad b5 0)) y.nm y.nm])/\WyOwn w.heap.size w' y b1 b2 b3 b4 b5/\Below w.heap.size w w':=by
 obtain⟨s1,s2,s3,s4,s5⟩:=hs
 have H:Hid (WyIn 0 w y sa la fa oa ma):=h
 clear h
 go_enter Tryz.func74,Tryz.ntmps74
 go_wp2_with fail
 have A0:Box (w.alloc (.cells (vWy y sa sc la lc fa fc oa oc ma mc) 120)) w.heap.size 120 (vWy y sa sc la lc fa fc oa oc ma mc):=Box.new w 120 _
 have R0:Box ((w.alloc (.cells (vWy y sa sc la lc fa fc oa oc ma mc) 120)).alloc (.cells #[.slice none 0 0,.slice none 0 0,.slice none 0 0,.slice none 0 0,.slice none 0 0] 112)) (w.heap.size+1) 112 #[.slice none 0 0,.slice none 0 0,.slice none 0 0,.slice none 0 0,.slice none 0 0]:=by have :=Box.new (w.alloc (.cells (vWy y sa sc la lc fa fc oa oc ma mc) 120)) 112 #[.slice none 0 0,.slice none 0 0,.slice none 0 0,.slice none 0 0,.slice none 0 0];simpa using this
 have O1:Box (((w.alloc (.cells (vWy y sa sc la lc fa fc oa oc ma mc) 120)).alloc (.cells #[.slice none 0 0,.slice none 0 0,.slice none 0 0,.slice none 0 0,.slice none 0 0] 112)).alloc (.cells #[.slice none 0 0,.slice none 0 0,.slice none 0 0,.slice none 0 0,.slice none 0 0] 112)) (w.heap.size+1+1) 112 #[.slice none 0 0,.slice none 0 0,.slice none 0 0,.slice none 0 0,.slice none 0 0]:=by have :=Box.new ((w.alloc (.cells (vWy y sa sc la lc fa fc oa oc ma mc) 120)).alloc (.cells #[.slice none 0 0,.slice none 0 0,.slice none 0 0,.slice none 0 0,.slice none 0 0] 112)) 112 #[.slice none 0 0,.slice none 0 0,.slice none 0 0,.slice none 0 0,.slice none 0 0];simpa using this
 have A1:=(A0.alloc (.cells #[.slice none 0 0,.slice none 0 0,.slice none 0 0,.slice none 0 0,.slice none 0 0] 112)).alloc (.cells #[.slice none 0 0,.slice none 0 0,.slice none 0 0,.slice none 0 0,.slice none 0 0] 112)
 have R1:=R0.alloc (.cells #[.slice none 0 0,.slice none 0 0,.slice none 0 0,.slice none 0 0,.slice none 0 0] 112)
 have B1:Below w.heap.size w (((w.alloc (.cells (vWy y sa sc la lc fa fc oa oc ma mc) 120)).alloc (.cells #[.slice none 0 0,.slice none 0 0,.slice none 0 0,.slice none 0 0,.slice none 0 0] 112)).alloc (.cells #[.slice none 0 0,.slice none 0 0,.slice none 0 0,.slice none 0 0,.slice none 0 0] 112)):=bel3 w _ _ _
 clear A0 R0
 refine(toIntS sa y.ns sc y.S _ (by omega) (H.out.s.mono nr B1 nr)).mono ?_
 rintro e w1 ⟨b1,hb1,rfl,o1,hl1⟩
 have A11:=A1.mono hl1 nr
 have R11:=R1.mono hl1 nr
 have O11:=O1.mono hl1 nr
 have B11:=B1.trans (hl1.mono B1.size)
 have hk1:w.heap.size+1+1<b1:=by rw[hb1];simp
 have hz1:b1<w1.heap.size:=(o1.lt rfl).2
 clear hl1 hb1 A1 R1 O1 B1
 have xa1:w1.cell? (ad w.heap.size 1)=some _:=A11.cell 1
 have xo1:=O11.cel 0
 have xf1:=O11.free 0
 have HH1:Hid (Box w1 w.heap.size 120 _/\Box w1 (w.heap.size+1) 112 _/\Box w1 (w.heap.size+1+1) 112 _/\Below w.heap.size w w1):=⟨A11,R11,O11,B11⟩
 have P1_1:Hid (VOwn b1 3 1 w1 (.slice (some (ad b1 0)) y.ns y.ns) y.ns (oneF y.S)):=o1
 clear A11 R11 O11 B11 o1
 go_wp2_with fail
 obtain⟨A11,R11,O11,B11⟩:=HH1.out
 have A2:=A11.other (p:=(ad (w.heap.size+1+1) 0)) (by show w.heap.size≠w.heap.size+1+1;omega) (.slice (some (ad b1 0)) y.ns y.ns)
 have R2:=R11.other (p:=(ad (w.heap.size+1+1) 0)) (by show w.heap.size+1≠w.heap.size+1+1;omega) (.slice (some (ad b1 0)) y.ns y.ns)
 have O2:=O11.set 0 (.slice (some (ad b1 0)) y.ns y.ns)
 have B2:=B11.setCell (p:=(ad (w.heap.size+1+1) 0)) (by show w.heap.size<=w.heap.size+1+1;omega) (.slice (some (ad b1 0)) y.ns y.ns)
 have o1:=P1_1.out.keep nr (fun g hg=>Below.heap_setCell w1 (ad (w.heap.size+1+1) 0) (.slice (some (ad b1 0)) y.ns y.ns) g (by simp only[Value.ownBlock,Option.some.injEq] at hg;show g≠w.heap.size+1+1;omega))
 clear HH1 A11 R11 O11 B11 xa1 xo1 xf1 P1_1
 refine(toTurnS la y.nl lc y.L _ (by omega) (H.out.l.mono nr B2 nr)).mono ?_
 rintro e w2 ⟨b2,hb2,rfl,o2,hl2⟩
 have A12:=A2.mono hl2 nr
 have R12:=R2.mono hl2 nr
 have O12:=O2.mono hl2 nr
 have B12:=B2.trans (hl2.mono B2.size)
 have o1:=o1.mono nr hl2 nr
 have hk2:b1<b2:=by rw[hb2,size_setc];exact hz1
 have hz2:b2<w2.heap.size:=(o2.lt rfl).2
 clear hl2 hb2 A2 R2 O2 B2 hz1
 have xa2:w2.cell? (ad w.heap.size 2)=some _:=A12.cell 2
 have xo2:=O12.cel 1
 have xf2:=O12.free 1
 have HH2:Hid (Box w2 w.heap.size 120 _/\Box w2 (w.heap.size+1) 112 _/\Box w2 (w.heap.size+1+1) 112 _/\Below w.heap.size w w2):=⟨A12,R12,O12,B12⟩
 have P2_1:Hid (VOwn b1 3 1 w2 (.slice (some (ad b1 0)) y.ns y.ns) y.ns (oneF y.S)):=o1
 have P2_2:Hid (VOwn b2 146 2 w2 (.slice (some (ad b2 0)) y.nl y.nl) y.nl (intF y.L)):=o2
 clear A12 R12 O12 B12 o1 o2
 go_wp2_with fail
 obtain⟨A12,R12,O12,B12⟩:=HH2.out
 have A3:=A12.other (p:=(ad (w.heap.size+1+1) 1)) (by show w.heap.size≠w.heap.size+1+1;omega) (.slice (some (ad b2 0)) y.nl y.nl)
 have R3:=R12.other (p:=(ad (w.heap.size+1+1) 1)) (by show w.heap.size+1≠w.heap.size+1+1;omega) (.slice (some (ad b2 0)) y.nl y.nl)
 have O3:=O12.set 1 (.slice (some (ad b2 0)) y.nl y.nl)
 have B3:=B12.setCell (p:=(ad (w.heap.size+1+1) 1)) (by show w.heap.size<=w.heap.size+1+1;omega) (.slice (some (ad b2 0)) y.nl y.nl)
 have o1:=P2_1.out.keep nr (fun g hg=>Below.heap_setCell w2 (ad (w.heap.size+1+1) 1) (.slice (some (ad b2 0)) y.nl y.nl) g (by simp only[Value.ownBlock,Option.some.injEq] at hg;show g≠w.heap.size+1+1;omega))
 have o2:=P2_2.out.keep nr (fun g hg=>Below.heap_setCell w2 (ad (w.heap.size+1+1) 1) (.slice (some (ad b2 0)) y.nl y.nl) g (by simp only[Value.ownBlock,Option.some.injEq] at hg;show g≠w.heap.size+1+1;omega))
 clear HH2 A12 R12 O12 B12 xa2 xo2 xf2 P2_1 P2_2
 refine(toTurnS fa y.nf fc y.F _ (by omega) (H.out.f.mono nr B3 nr)).mono ?_
 rintro e w3 ⟨b3,hb3,rfl,o3,hl3⟩
 have A13:=A3.mono hl3 nr
 have R13:=R3.mono hl3 nr
 have O13:=O3.mono hl3 nr
 have B13:=B3.trans (hl3.mono B3.size)
 have o1:=o1.mono nr hl3 nr
 have o2:=o2.mono nr hl3 nr
 have hk3:b2<b3:=by rw[hb3,size_setc];exact hz2
 have hz3:b3<w3.heap.size:=(o3.lt rfl).2
 clear hl3 hb3 A3 R3 O3 B3 hz2
 have xa3:w3.cell? (ad w.heap.size 3)=some _:=A13.cell 3
 have xo3:=O13.cel 2
 have xf3:=O13.free 2
 have HH3:Hid (Box w3 w.heap.size 120 _/\Box w3 (w.heap.size+1) 112 _/\Box w3 (w.heap.size+1+1) 112 _/\Below w.heap.size w w3):=⟨A13,R13,O13,B13⟩
 have P3_1:Hid (VOwn b1 3 1 w3 (.slice (some (ad b1 0)) y.ns y.ns) y.ns (oneF y.S)):=o1
 have P3_2:Hid (VOwn b2 146 2 w3 (.slice (some (ad b2 0)) y.nl y.nl) y.nl (intF y.L)):=o2
 have P3_3:Hid (VOwn b3 146 2 w3 (.slice (some (ad b3 0)) y.nf y.nf) y.nf (intF y.F)):=o3
 clear A13 R13 O13 B13 o1 o2 o3
 go_wp2_with fail
 obtain⟨A13,R13,O13,B13⟩:=HH3.out
 have A4:=A13.other (p:=(ad (w.heap.size+1+1) 2)) (by show w.heap.size≠w.heap.size+1+1;omega) (.slice (some (ad b3 0)) y.nf y.nf)
 have R4:=R13.other (p:=(ad (w.heap.size+1+1) 2)) (by show w.heap.size+1≠w.heap.size+1+1;omega) (.slice (some (ad b3 0)) y.nf y.nf)
 have O4:=O13.set 2 (.slice (some (ad b3 0)) y.nf y.nf)
 have B4:=B13.setCell (p:=(ad (w.heap.size+1+1) 2)) (by show w.heap.size<=w.heap.size+1+1;omega) (.slice (some (ad b3 0)) y.nf y.nf)
 have o1:=P3_1.out.keep nr (fun g hg=>Below.heap_setCell w3 (ad (w.heap.size+1+1) 2) (.slice (some (ad b3 0)) y.nf y.nf) g (by simp only[Value.ownBlock,Option.some.injEq] at hg;show g≠w.heap.size+1+1;omega))
 have o2:=P3_2.out.keep nr (fun g hg=>Below.heap_setCell w3 (ad (w.heap.size+1+1) 2) (.slice (some (ad b3 0)) y.nf y.nf) g (by simp only[Value.ownBlock,Option.some.injEq] at hg;show g≠w.heap.size+1+1;omega))
 have o3:=P3_3.out.keep nr (fun g hg=>Below.heap_setCell w3 (ad (w.heap.size+1+1) 2) (.slice (some (ad b3 0)) y.nf y.nf) g (by simp only[Value.ownBlock,Option.some.injEq] at hg;show g≠w.heap.size+1+1;omega))
 clear HH3 A13 R13 O13 B13 xa3 xo3 xf3 P3_1 P3_2 P3_3
 refine(toIntS oa y.no oc y.O _ (by omega) (H.out.o.mono nr B4 nr)).mono ?_
 rintro e w4 ⟨b4,hb4,rfl,o4,hl4⟩
 have A14:=A4.mono hl4 nr
 have R14:=R4.mono hl4 nr
 have O14:=O4.mono hl4 nr
 have B14:=B4.trans (hl4.mono B4.size)
 have o1:=o1.mono nr hl4 nr
 have o2:=o2.mono nr hl4 nr
 have o3:=o3.mono nr hl4 nr
 have hk4:b3<b4:=by rw[hb4,size_setc];exact hz3
 have hz4:b4<w4.heap.size:=(o4.lt rfl).2
 clear hl4 hb4 A4 R4 O4 B4 hz3
 have xa4:w4.cell? (ad w.heap.size 4)=some _:=A14.cell 4
 have xo4:=O14.cel 3
 have xf4:=O14.free 3
 have HH4:Hid (Box w4 w.heap.size 120 _/\Box w4 (w.heap.size+1) 112 _/\Box w4 (w.heap.size+1+1) 112 _/\Below w.heap.size w w4):=⟨A14,R14,O14,B14⟩
 have P4_1:Hid (VOwn b1 3 1 w4 (.slice (some (ad b1 0)) y.ns y.ns) y.ns (oneF y.S)):=o1
 have P4_2:Hid (VOwn b2 146 2 w4 (.slice (some (ad b2 0)) y.nl y.nl) y.nl (intF y.L)):=o2
 have P4_3:Hid (VOwn b3 146 2 w4 (.slice (some (ad b3 0)) y.nf y.nf) y.nf (intF y.F)):=o3
 have P4_4:Hid (VOwn b4 3 1 w4 (.slice (some (ad b4 0)) y.no y.no) y.no (oneF y.O)):=o4
 clear A14 R14 O14 B14 o1 o2 o3 o4
 go_wp2_with fail
 obtain⟨A14,R14,O14,B14⟩:=HH4.out
 have A5:=A14.other (p:=(ad (w.heap.size+1+1) 3)) (by show w.heap.size≠w.heap.size+1+1;omega) (.slice (some (ad b4 0)) y.no y.no)
 have R5:=R14.other (p:=(ad (w.heap.size+1+1) 3)) (by show w.heap.size+1≠w.heap.size+1+1;omega) (.slice (some (ad b4 0)) y.no y.no)
 have O5:=O14.set 3 (.slice (some (ad b4 0)) y.no y.no)
 have B5:=B14.setCell (p:=(ad (w.heap.size+1+1) 3)) (by show w.heap.size<=w.heap.size+1+1;omega) (.slice (some (ad b4 0)) y.no y.no)
 have o1:=P4_1.out.keep nr (fun g hg=>Below.heap_setCell w4 (ad (w.heap.size+1+1) 3) (.slice (some (ad b4 0)) y.no y.no) g (by simp only[Value.ownBlock,Option.some.injEq] at hg;show g≠w.heap.size+1+1;omega))
 have o2:=P4_2.out.keep nr (fun g hg=>Below.heap_setCell w4 (ad (w.heap.size+1+1) 3) (.slice (some (ad b4 0)) y.no y.no) g (by simp only[Value.ownBlock,Option.some.injEq] at hg;show g≠w.heap.size+1+1;omega))
 have o3:=P4_3.out.keep nr (fun g hg=>Below.heap_setCell w4 (ad (w.heap.size+1+1) 3) (.slice (some (ad b4 0)) y.no y.no) g (by simp only[Value.ownBlock,Option.some.injEq] at hg;show g≠w.heap.size+1+1;omega))
 have o4:=P4_4.out.keep nr (fun g hg=>Below.heap_setCell w4 (ad (w.heap.size+1+1) 3) (.slice (some (ad b4 0)) y.no y.no) g (by simp only[Value.ownBlock,Option.some.injEq] at hg;show g≠w.heap.size+1+1;omega))
 clear HH4 A14 R14 O14 B14 xa4 xo4 xf4 P4_1 P4_2 P4_3 P4_4
 refine(toIntS ma y.nm mc y.M _ (by omega) (H.out.m.mono nr B5 nr)).mono ?_
 rintro e w5 ⟨b5,hb5,rfl,o5,hl5⟩
 have A15:=A5.mono hl5 nr
 have R15:=R5.mono hl5 nr
 have O15:=O5.mono hl5 nr
 have B15:=B5.trans (hl5.mono B5.size)
 have o1:=o1.mono nr hl5 nr
 have o2:=o2.mono nr hl5 nr
 have o3:=o3.mono nr hl5 nr
 have o4:=o4.mono nr hl5 nr
 have hk5:b4<b5:=by rw[hb5,size_setc];exact hz4
 have hz5:b5<w5.heap.size:=(o5.lt rfl).2
 clear hl5 hb5 A5 R5 O5 B5 hz4
 have xo5:=O15.cel 4
 have xf5:=O15.free 4
 have HH5:Hid (Box w5 w.heap.size 120 _/\Box w5 (w.heap.size+1) 112 _/\Box w5 (w.heap.size+1+1) 112 _/\Below w.heap.size w w5):=⟨A15,R15,O15,B15⟩
 have P5_1:Hid (VOwn b1 3 1 w5 (.slice (some (ad b1 0)) y.ns y.ns) y.ns (oneF y.S)):=o1
 have P5_2:Hid (VOwn b2 146 2 w5 (.slice (some (ad b2 0)) y.nl y.nl) y.nl (intF y.L)):=o2
 have P5_3:Hid (VOwn b3 146 2 w5 (.slice (some (ad b3 0)) y.nf y.nf) y.nf (intF y.F)):=o3
 have P5_4:Hid (VOwn b4 3 1 w5 (.slice (some (ad b4 0)) y.no y.no) y.no (oneF y.O)):=o4
 have P5_5:Hid (VOwn b5 3 1 w5 (.slice (some (ad b5 0)) y.nm y.nm) y.nm (oneF y.M)):=o5
 have xo5a:=O15.cel 0
 have xo5b:=O15.cel 1
 have xo5c:=O15.cel 2
 have xo5d:=O15.cel 3
 have xr0:=R15.cel 0
 have xr1:=R15.cel 1
 have xr2:=R15.cel 2
 have xr3:=R15.cel 3
 have xr4:=R15.cel 4
 have xg0:=R15.free 0
 have xg1:=R15.free 1
 have xg2:=R15.free 2
 have xg3:=R15.free 3
 have xg4:=R15.free 4
 clear A15 R15 O15 B15 o1 o2 o3 o4 o5
 go_wp2_with fail
 refine bodyPost_ret (v:=.agg #[.slice (some (ad b1 0)) y.ns y.ns,.slice (some (ad b2 0)) y.nl y.nl,.slice (some (ad b3 0)) y.nf y.nf,.slice (some (ad b4 0)) y.no y.no,.slice (some (ad b5 0)) y.nm y.nm]) (by simp[results,Tryz.results74,go_sem,xr0,xr1,xr2,xr3,xr4]) rfl ⟨b1,b2,b3,b4,b5,rfl,?_,?_⟩
 ·
  refine⟨by omega,hk2,hk3,hk4,hk5,P5_1.out.keep nr (fun g hg=>?_),P5_2.out.keep nr (fun g hg=>?_),P5_3.out.keep nr (fun g hg=>?_),P5_4.out.keep nr (fun g hg=>?_),P5_5.out.keep nr (fun g hg=>?_)⟩
  all_goals
   simp only[Value.ownBlock,Option.some.injEq] at hg
   have h1:g≠w.heap.size+1:=by omega
   have h2:g≠w.heap.size+1+1:=by omega
   rw[Below.heap_setCell _ _ _ _ h1,Below.heap_setCell _ _ _ _ h1,Below.heap_setCell _ _ _ _ h1,Below.heap_setCell _ _ _ _ h1,Below.heap_setCell _ _ _ _ h1,Below.heap_setCell _ _ _ _ h2]
 ·
  obtain⟨_,_,_,B15⟩:=HH5.out
  have h1:w.heap.size<=w.heap.size+1:=by omega
  have h2:w.heap.size<=w.heap.size+1+1:=by omega
  exact(((((B15.setCell h2 _).setCell h1 _).setCell h1 _).setCell h1 _).setCell h1 _).setCell h1 _
def s5 (vs:Array Value) (p:Nat) (a0 a1 a2 a3 a4:Value):Array Value:=((((vs.setIfInBounds p a0).setIfInBounds (p+1) a1).setIfInBounds (p+2) a2).setIfInBounds (p+3) a3).setIfInBounds (p+4) a4
theorem s5_lo (vs:Array Value) (p:Nat) (a0 a1 a2 a3 a4:Value) {q:Nat}(h:q<p):(s5 vs p a0 a1 a2 a3 a4)[q]?=vs[q]?:=by
 simp only[s5,Array.getElem?_setIfInBounds,show¬p=q by omega,show¬p+1=q by omega,show¬p+2=q by omega,show¬p+3=q by omega,show¬p+4=q by omega,if_false]
theorem s5_at (vs:Array Value) (p:Nat) (a0 a1 a2 a3 a4:Value) (h:p+5<=vs.size):let x:=s5 vs p a0 a1 a2 a3 a4
  x[p]?=some a0/\x[p+1]?=some a1/\x[p+2]?=some a2/\x[p+3]?=some a3/\x[p+4]?=some a4:=by
 simp only[s5,Array.getElem?_setIfInBounds,Array.size_setIfInBounds]
 refine⟨?_,?_,?_,?_,?_⟩<;>simp <;>omega
structure WyRow (w:World) (vs:Array Value) (i:Nat) (y:Wy) (l u:Nat) (b1 b2 b3 b4 b5:Nat):Prop where
 c0:vs[i*5]?=some (.slice (some (ad b1 0)) y.ns y.ns)
 c1:vs[i*5+1]?=some (.slice (some (ad b2 0)) y.nl y.nl)
 c2:vs[i*5+2]?=some (.slice (some (ad b3 0)) y.nf y.nf)
 c3:vs[i*5+3]?=some (.slice (some (ad b4 0)) y.no y.no)
 c4:vs[i*5+4]?=some (.slice (some (ad b5 0)) y.nm y.nm)
 own:WyOwn l w y b1 b2 b3 b4 b5
 lt:b5<u
def WsOwn (w:World) (b n k:Nat) (Y:Nat->Wy) (lo:Nat->Nat):Prop:=
 ∃vs:Array Value,Box w b 112 vs/\vs.size=n*5/\b<lo 0/\lo k<=w.heap.size/\(∀i j,i<=j->j<=k->lo i<=lo j)/\∀i,i<k->∃b1 b2 b3 b4 b5,WyRow w vs i (Y i) (lo i) (lo (i+1)) b1 b2 b3 b4 b5
theorem WyRow.keep {w w':World}{vs:Array Value}{i:Nat}{y:Wy}{l u b1 b2 b3 b4 b5:Nat}(h:WyRow w vs i y l u b1 b2 b3 b4 b5) (hk:∀g,l<=g->g<u->w'.heap[g]?=w.heap[g]?):WyRow w' vs i y l u b1 b2 b3 b4 b5:=
 ⟨h.c0,h.c1,h.c2,h.c3,h.c4,h.own.keep nr fun g h1 h2=>hk g h1 (by have :=h.lt;omega),h.lt⟩
theorem WsOwn.mono {w w':World}{b n k N:Nat}{Y:Nat->Wy}{lo:Nat->Nat}(h:WsOwn w b n k Y lo) (hb:Below N w w') (hN:w.heap.size<=N):WsOwn w' b n k Y lo:=by
 obtain⟨vs,h1,h2,h3,h4,h5,h6⟩:=h
 refine⟨vs,h1.mono hb hN,h2,h3,Nat.le_trans h4 hb.size,h5,fun i hi=>?_⟩
 obtain⟨b1,b2,b3,b4,b5,hr⟩:=h6 i hi
 exact⟨b1,b2,b3,b4,b5,hr.keep fun g _ hg=>hb.block g (by have :=h5 (i+1) k (by omega) nr;omega)⟩
theorem WsOwn.at {w:World}{b n C:Nat}{Y:Nat->Wy}{lo:Nat->Nat}(h:WsOwn w b n n Y lo) (hC:C<=b):WsAt C w (some (ad b 0)) n Y:=by
 obtain⟨vs,h1,h2,h3,h4,h5,h6⟩:=h
 intro _
 refine⟨b,0,rfl,hC,h1.lt,fun i hi=>?_⟩
 obtain⟨b1,b2,b3,b4,b5,hr⟩:=h6 i hi
 have hl:b<lo i:=Nat.lt_of_lt_of_le h3 (h5 0 i (Nat.zero_le _) (by omega))
 have e:=fun o=>h1.cell o
 refine⟨some (ad b1 0),(Y i).ns,some (ad b2 0),(Y i).nl,some (ad b3 0),(Y i).nf,some (ad b4 0),(Y i).no,some (ad b5 0),(Y i).nm,?_,?_,?_,?_,?_,hr.own.in (by omega)⟩
 ·
  rw[Nat.zero_add,e,hr.c0]
 ·
  rw[Nat.zero_add,e,hr.c1]
 ·
  rw[Nat.zero_add,e,hr.c2]
 ·
  rw[Nat.zero_add,e,hr.c3]
 ·
  rw[Nat.zero_add,e,hr.c4]
theorem WsOwn.step {w w1:World}{b n k:Nat}{Y:Nat->Wy}{lo:Nat->Nat}{b1 b2 b3 b4 b5:Nat}(h:WsOwn w b n k Y lo) (hk:k<n) (hb:Below w.heap.size w w1) (ho:WyOwn w.heap.size w1 (Y k) b1 b2 b3 b4 b5):
  ∃lo',WsOwn (((((w1.setCell (ad b (k*5)) (.slice (some (ad b1 0)) (Y k).ns (Y k).ns)).setCell (ad b (k*5+1)) (.slice (some (ad b2 0)) (Y k).nl (Y k).nl)).setCell (ad b (k*5+2)) (.slice (some (ad b3 0)) (Y k).nf (Y k).nf)).setCell (ad b (k*5+3)) (.slice (some (ad b4 0)) (Y k).no (Y k).no)).setCell (ad b (k*5+4)) (.slice (some (ad b5 0)) (Y k).nm (Y k).nm)) b n (k+1) Y lo':=by
 have hl6:=ho.lt
 have hsz:=hb.size
 obtain⟨vs,h1,h2,h3,h4,h5,h6⟩:=h.mono hb nr
 obtain⟨_,_,_,_,h4w,_,_⟩:=h
 have hlo0:lo 0<=lo k:=h5 0 k (Nat.zero_le _) nr
 have hbl:b<w.heap.size:=by omega
 have hBox:=(((((h1.set (k*5) (.slice (some (ad b1 0)) (Y k).ns (Y k).ns)).set (k*5+1) (.slice (some (ad b2 0)) (Y k).nl (Y k).nl)).set (k*5+2) (.slice (some (ad b3 0)) (Y k).nf (Y k).nf)).set (k*5+3) (.slice (some (ad b4 0)) (Y k).no (Y k).no)).set (k*5+4) (.slice (some (ad b5 0)) (Y k).nm (Y k).nm))
 have hkeep:∀g,g≠b->(((((w1.setCell (ad b (k*5)) (.slice (some (ad b1 0)) (Y k).ns (Y k).ns)).setCell (ad b (k*5+1)) (.slice (some (ad b2 0)) (Y k).nl (Y k).nl)).setCell (ad b (k*5+2)) (.slice (some (ad b3 0)) (Y k).nf (Y k).nf)).setCell (ad b (k*5+3)) (.slice (some (ad b4 0)) (Y k).no (Y k).no)).setCell (ad b (k*5+4)) (.slice (some (ad b5 0)) (Y k).nm (Y k).nm)).heap[g]?=w1.heap[g]?:=fun g hg=>by
  rw[Below.heap_setCell _ _ _ _ hg,Below.heap_setCell _ _ _ _ hg,Below.heap_setCell _ _ _ _ hg,Below.heap_setCell _ _ _ _ hg,Below.heap_setCell _ _ _ _ hg]
 obtain⟨q0,q1,q2,q3,q4⟩:=s5_at vs (k*5) (.slice (some (ad b1 0)) (Y k).ns (Y k).ns) (.slice (some (ad b2 0)) (Y k).nl (Y k).nl) (.slice (some (ad b3 0)) (Y k).nf (Y k).nf) (.slice (some (ad b4 0)) (Y k).no (Y k).no) (.slice (some (ad b5 0)) (Y k).nm (Y k).nm) (by omega)
 refine⟨fun i=>if i<=k then lo i else w1.heap.size,_,hBox,by simp only[Array.size_setIfInBounds];exact h2,by dsimp only;rw[if_pos (Nat.zero_le _)];exact h3,by rw[size_setc,size_setc,size_setc,size_setc,size_setc];dsimp only;rw[if_neg (by omega)];exact Nat.le_refl _,fun i j hij hj=>?_,fun i hi=>?_⟩
 ·
  dsimp only
  by_cases e1:j<=k
  ·
   rw[if_pos e1,if_pos (by omega)]
   exact h5 i j hij e1
  ·
   rw[if_neg e1]
   split
   ·
    have :=h5 i k (by omega) nr
    omega
   ·
    exact Nat.le_refl _
 ·
  by_cases e:i=k
  ·
   subst e
   dsimp only
   rw[if_pos nr,if_neg (by omega)]
   exact⟨b1,b2,b3,b4,b5,q0,q1,q2,q3,q4,(ho.mono (C':=lo i) (by omega) (Below.refl w1.heap.size w1) nr).keep nr fun g h7 h8=>hkeep g (by have :=h5 0 i (Nat.zero_le _) nr;omega),hl6⟩
  ·
   obtain⟨c1,c2,c3,c4,c5,hr⟩:=h6 i (by omega)
   have hu:lo i<=lo k:=h5 i k (by omega) nr
   have hl:lo 0<=lo i:=h5 0 i (Nat.zero_le _) (by omega)
   have e0:∀j,j<5->(s5 vs (k*5) (.slice (some (ad b1 0)) (Y k).ns (Y k).ns) (.slice (some (ad b2 0)) (Y k).nl (Y k).nl) (.slice (some (ad b3 0)) (Y k).nf (Y k).nf) (.slice (some (ad b4 0)) (Y k).no (Y k).no) (.slice (some (ad b5 0)) (Y k).nm (Y k).nm))[i*5+j]?=vs[i*5+j]?:=fun j hj=>s5_lo _ _ _ _ _ _ _ (by omega)
   refine⟨c1,c2,c3,c4,c5,⟨(e0 0 (by omega)).trans hr.c0,(e0 1 (by omega)).trans hr.c1,(e0 2 (by omega)).trans hr.c2,(e0 3 (by omega)).trans hr.c3,(e0 4 (by omega)).trans hr.c4,?_,?_⟩⟩
   ·
    dsimp only
    rw[if_pos (by omega)]
    exact hr.own.keep nr fun g h7 _=>hkeep g (by omega)
   ·
    dsimp only
    rw[if_pos (by omega)]
    exact hr.lt
set_option maxRecDepth 100000 in
set_option maxHeartbeats 4000000 in
theorem toWayS (a:Option Addr) (n cap:Nat) (Y:Nat->Wy) (w:World) (hn:n<=1048576) (hR:WsAt 0 w a n Y) (hs:∀i,i<n->(Y i).small 1048576):
  Calls Tryz.prog 37 #[.slice a n cap] w fun e w'=>∃b lo,b=w.heap.size/\e=.returned (.slice (some (ad b 0)) n n)/\WsOwn w' b n n Y lo/\Below w.heap.size w w':=by
 have HS:Hid (∀i,i<n->(Y i).small 1048576):=hs
 have hmk:=make_rows (P:=Tryz.prog) 35 112 _ 120 5 Tryz.underlying35 infoWay n (by omega) (by omega)
 have hf0:WsOwn (w.alloc (.cells (mk0 (.agg #[.slice none 0 0,.slice none 0 0,.slice none 0 0,.slice none 0 0,.slice none 0 0]) (n*5)) 112)) w.heap.size n 0 Y (fun _=>w.heap.size+1):=
  ⟨_,Box.new w 112 _,size_madeCells _ _,by simp,by simp,fun _ _ _ _=>Nat.le_refl _,fun i hi=>absurd hi (Nat.not_lt_zero _)⟩
 clear hs
 go_enter Tryz.func37,Tryz.ntmps37
 go_wp2_with fail
 go_loopw [4] (fun i wr=>∃(k:Nat) (lo:Nat->Nat),k<=n/\i=.int .i64 k/\Hid (WsOwn wr w.heap.size n k Y lo)/\Below w.heap.size w wr) (fun i _=>n-(intOf i).toNat)
 case atStart=>exact⟨0,_,Nat.zero_le _,rfl,hf0,bel1 _ _⟩
 case round=>
  obtain⟨k,lo,hk,rfl,HT,hbel⟩:=hrel
  clear hf0 hmk
  by_cases hlt:k<n
  ·
   obtain⟨b,off,rfl,_,hb,hc⟩:=(hR.mono nr hbel nr) (by omega)
   obtain⟨sa,sc,la,lc,fa,fc,oa,oc,ma,mc,c0,c1,c2,c3,c4,hin⟩:=hc k hlt
   have HIN:Hid (WyIn 0 wr (Y k) sa la fa oa ma):=hin
   clear hc hin
   go_wp2_with fail
   clear c0 c1 c2 c3 c4
   refine(toWay (Y k) sa la fa oa ma sc lc fc oc mc _ (HS.out k hlt) HIN.out).mono ?_
   rintro e w1 ⟨b1,b2,b3,b4,b5,rfl,ho,hb1⟩
   obtain⟨lo',hst⟩:=HT.out.step hlt hb1 ho
   obtain⟨vs,h1,h2,_⟩:=HT.out.mono hb1 nr
   have d:∀j,j<5->∃v,w1.cell? (ad w.heap.size (k*5+j))=some v:=fun j hj=>⟨vs[k*5+j]'(by omega),by rw[h1.cell];exact Array.getElem?_eq_getElem _⟩
   obtain⟨v0,d0⟩:=d 0 (by omega)
   obtain⟨v1,d1⟩:=d 1 (by omega)
   obtain⟨v2,d2⟩:=d 2 (by omega)
   obtain⟨v3,d3⟩:=d 3 (by omega)
   obtain⟨v4,d4⟩:=d 4 (by omega)
   rw[Nat.add_zero] at d0
   have f0:=h1.free (k*5)
   have f1:=h1.free (k*5+1)
   have f2:=h1.free (k*5+2)
   have f3:=h1.free (k*5+3)
   have f4:=h1.free (k*5+4)
   have HST:Hid (WsOwn _ w.heap.size n (k+1) Y lo'):=hst
   have hbel1:=hbel.trans (hb1.mono hbel.size)
   clear d hst h1 h2 HIN HT ho hb1
   go_wp2_with fail
   go_roundw
   case rel=>exact⟨k+1,lo',by omega,by go_num,HST,((((hbel1.setCell nr _).setCell nr _).setCell nr _).setCell nr _).setCell nr _⟩
   case measure=>simp[intOf];omega
  ·
   obtain rfl:k=n:=by omega
   go_wp2
   go_ret
   exact⟨_,lo,rfl,rfl,HT.out,hbel⟩
def BsOwn (w:World) (b n k:Nat) (K:Nat->Nat) (T:Nat->Nat->Bool) (r:Nat->Nat):Prop:=
 ∃vs:Array Value,Box w b 27 vs/\vs.size=n/\∀i,i<k->vs[i]?=some (.slice (some (ad (r i) 0)) (K i) (K i))/\VOwn (r i) 4 1 w (.slice (some (ad (r i) 0)) (K i) (K i)) (K i) (boolF (T i))/\b<r i/\∀j,j<i->r j<r i
theorem BsOwn.mono {w w':World}{b n k N:Nat}{K:Nat->Nat}{T:Nat->Nat->Bool}{r:Nat->Nat}(h:BsOwn w b n k K T r) (hb:Below N w w') (hN:w.heap.size<=N):BsOwn w' b n k K T r:=by
 obtain⟨vs,h1,h2,h3⟩:=h
 refine⟨vs,h1.mono hb hN,h2,fun i hi=>?_⟩
 obtain⟨e1,e2,e3⟩:=h3 i hi
 exact⟨e1,e2.mono nr hb hN,e3⟩
theorem BsOwn.at {w:World}{b n C:Nat}{K:Nat->Nat}{T:Nat->Nat->Bool}{r:Nat->Nat}(h:BsOwn w b n n K T r) (hC:C<=b):BsAt C w (some (ad b 0)) n K T:=by
 obtain⟨vs,h1,h2,h3⟩:=h
 intro _
 refine⟨b,0,rfl,hC,h1.lt,fun i hi=>?_⟩
 obtain⟨e1,e2,e3,e4⟩:=h3 i hi
 exact⟨_,_,by rw[Nat.zero_add,h1.cell,e1],e2.vs.le (by omega)⟩
theorem BsOwn.step {w w1:World}{b n k:Nat}{K:Nat->Nat}{T:Nat->Nat->Bool}{r:Nat->Nat}{b1:Nat}(h:BsOwn w b n k K T r) (hk:k<n) (hb:Below w.heap.size w w1) (h1b:b1=w.heap.size) (ho:VOwn b1 4 1 w1 (.slice (some (ad b1 0)) (K k) (K k)) (K k) (boolF (T k))) (hr:∀i,i<k->r i<w.heap.size):
  BsOwn (w1.setCell (ad b k) (.slice (some (ad b1 0)) (K k) (K k))) b n (k+1) K T (fun i=>if i<k then r i else b1):=by
 have hbw:b<w.heap.size:=by obtain⟨_,h1,_⟩:=h;exact h1.lt
 obtain⟨vs,h1,h2,h3⟩:=h.mono hb nr
 have hkeep:∀g,g≠b->(w1.setCell (ad b k) (.slice (some (ad b1 0)) (K k) (K k))).heap[g]?=w1.heap[g]?:=fun g hg=>Below.heap_setCell _ _ _ _ hg
 refine⟨_,h1.set k _,by simp only[Array.size_setIfInBounds];exact h2,fun i hi=>?_⟩
 by_cases e:i=k
 ·
  subst e
  simp only[Nat.lt_irrefl,if_false]
  refine⟨by simp[Array.getElem?_setIfInBounds];omega,ho.keep nr fun g hg=>hkeep g ?_,by omega,fun j hj=>?_⟩
  ·
   simp only[Value.ownBlock,Option.some.injEq] at hg
   omega
  ·
   rw[if_pos hj,h1b]
   exact hr j hj
 ·
  have hik:i<k:=by omega
  simp only[hik,if_true]
  obtain⟨e1,e2,e3,e4⟩:=h3 i hik
  refine⟨?_,e2.keep nr fun g hg=>hkeep g ?_,e3,fun j hj=>?_⟩
  ·
   simp only[Array.getElem?_setIfInBounds,show¬k=i by omega,if_false]
   exact e1
  ·
   simp only[Value.ownBlock,Option.some.injEq] at hg
   omega
  ·
   rw[if_pos (by omega)]
   exact e4 j hj
set_option maxRecDepth 100000 in
set_option maxHeartbeats 4000000 in
theorem toBoolSS (a:Option Addr) (n cap:Nat) (K:Nat->Nat) (T:Nat->Nat->Bool) (w:World) (hn:n<=1048576) (hR:BsAt 0 w a n K T) (hs:∀i,i<n->K i<=1048576):
  Calls Tryz.prog 38 #[.slice a n cap] w fun e w'=>∃b r,b=w.heap.size/\e=.returned (.slice (some (ad b 0)) n n)/\BsOwn w' b n n K T r/\Below w.heap.size w w':=by
 have HS:Hid (∀i,i<n->K i<=1048576):=hs
 have hmk:=make_rows (P:=Tryz.prog) 24 27 _ 24 1 Tryz.underlying24 infoRow n (by omega) (by omega)
 have hf0:BsOwn (w.alloc (.cells (mk0 (.slice none 0 0) (n*1)) 27)) w.heap.size n 0 K T (fun _=>0):=
  ⟨_,Box.new w 27 _,(size_madeCells _ _).trans (Nat.mul_one n),fun i hi=>absurd hi (Nat.not_lt_zero _)⟩
 have hf1:BsOwn (w.alloc (.cells (mk0 (.slice none 0 0) n) 27)) w.heap.size n 0 K T (fun _=>0):=by simpa only[Nat.mul_one] using hf0
 clear hs hf0
 go_enter Tryz.func38,Tryz.ntmps38
 go_wp2_with fail
 go_loopw [4] (fun i wr=>∃(k:Nat) (r:Nat->Nat),k<=n/\i=.int .i64 k/\Hid (BsOwn wr w.heap.size n k K T r)/\Hid (∀i,i<k->r i<wr.heap.size)/\Below w.heap.size w wr) (fun i _=>n-(intOf i).toNat)
 case atStart=>exact⟨0,fun _=>0,Nat.zero_le _,rfl,hf1,fun i hi=>absurd hi (Nat.not_lt_zero _),bel1 _ _⟩
 case round=>
  obtain⟨k,r,hk,rfl,HT,HR,hbel⟩:=hrel
  clear hf1 hmk
  by_cases hlt:k<n
  ·
   obtain⟨b,off,rfl,_,hb,hc⟩:=(hR.mono nr hbel nr) (by omega)
   obtain⟨ra,rc,c0,hin⟩:=hc k hlt
   have HIN:Hid (VsAt 1 0 wr ra (K k) (boolF (T k))):=hin
   clear hc hin
   go_wp2_with fail
   clear c0
   refine(toBoolS ra (K k) rc (T k) _ (HS.out k hlt) HIN.out).mono ?_
   rintro e w1 ⟨b1,h1b,rfl,ho,hb1⟩
   have hst:=HT.out.step hlt hb1 h1b ho HR.out
   obtain⟨vs,h1,h2,_⟩:=HT.out.mono hb1 nr
   obtain⟨v0,d0⟩:∃v,w1.cell? (ad w.heap.size k)=some v:=⟨vs[k]'(by omega),by rw[h1.cell];exact Array.getElem?_eq_getElem _⟩
   have f0:=h1.free k
   have HST:Hid (BsOwn _ w.heap.size n (k+1) K T (fun i=>if i<k then r i else b1)):=hst
   have hz1:b1<w1.heap.size:=(ho.lt rfl).2
   have HR2:Hid (∀i,i<k+1->(if i<k then r i else b1)<w1.heap.size):=fun i hi=>by
    by_cases e:i<k
    ·
     rw[if_pos e]
     exact Nat.lt_of_lt_of_le (HR.out i e) hb1.size
    ·
     rw[if_neg e]
     exact hz1
   have hbel1:=hbel.trans (hb1.mono hbel.size)
   clear hst h1 h2 HIN HT ho hb1 h1b HR hz1
   go_wp2_with fail
   go_roundw
   case rel=>exact⟨k+1,_,by omega,by go_num,HST,fun i hi=>by rw[size_setc];exact HR2.out i hi,hbel1.setCell nr _⟩
   case measure=>simp[intOf];omega
  ·
   obtain rfl:k=n:=by omega
   go_wp2
   go_ret
   exact⟨_,r,rfl,rfl,HT.out,hbel⟩
end Go.Proofs.YtkeilejbelblcaaGreatDoor
