import Derived.Test.YtkeilejbelblcaaGreatDoorDg
namespace Go.Proofs.YtkeilejbelblcaaGreatDoor
open Go.RowKit Go.Lib
set_option maxRecDepth 100000 in
set_option maxHeartbeats 16000000 in
theorem do93_3 (p:Pl) (wb yb bb no np:Nat) (O:Nat->Bool) (P:Nat->Nat->Int) (S:Nat->WS) (lo rr:Nat->Nat) (x:Nat) (A:Nat->Addr) (ob oc pb pc:Nat) (ia:Option Addr) (ic:Nat) (w:World) (hx:x<no) (hG:DoH w p wb yb bb no np lo rr A) (hD:DeskQ w p no np O P S ob oc pb pc ia ic):
  Calls Tryz.prog 93 #[.agg #[.int .i64 p.sec,.slice (some (ad wb 0)) p.nw p.nw,.slice (some (ad yb 0)) p.ny p.ny,.slice (some (ad bb 0)) p.nb p.nb,.int .i64 p.hold,.slice (some (ad ob 0)) no oc,.slice (some (ad pb 0)) np pc,.slice ia p.ny ic],.agg #[.int .i64 3,.int .i64 (x:Int),.int .i64 0]] w fun e w'=>DR2 p wb yb bb no np (updN O x true) (P) (S) A (none) w e w':=by
 have H:Hid (DeskQ w p no np O P S ob oc pb pc ia ic):=hD
 have HG:Hid (DoH w p wb yb bb no np lo rr A):=hG
 obtain⟨V0,hV,S0⟩:=st3 w 84 (vDk p wb yb bb (some (ad ob 0)) no oc (some (ad pb 0)) np pc ia ic) 52 (vEv 3 (x:Int) 0) 84 z8v
 clear hG hD
 go_enter Tryz.func93,Tryz.ntmps93
 go_upto_region 1 with fail
 clear hV
 have m5:=(gB S0.out.2.2.1).cel 5
 have n0:=(gB S0.out.2.1).cel 0
 have n1:=(gB S0.out.2.1).cel 1
 go_wp2_with fail
 clear m5 n0 n1
 obtain⟨M1o,ho0⟩:=(H.out.mono (gL S0.out.2.2.2.1) nr).1
 refine(with116 ob 0 no oc O x true V0 hx HG.out.nol (ho0.vs.le (Nat.zero_le _))).mono ?_
 clear ho0
 rintro e w1 ⟨g,c,rfl,ho,hb⟩
 have M1:=stx (k:=kOw w.heap.size 4 1 (.slice (some (ad g 0)) no c) no (boolF (updN O x true))) (stm S0 hb) (ho.keep (gL S0.out.2.2.2.1).size (fun _ _=>rfl))
 clear hb ho S0
 have n5:=(gB M1.out.2.2.2.1).cel 5
 have nf0:=(gB M1.out.2.2.2.1).free 0
 have nf1:=(gB M1.out.2.2.2.1).free 1
 have nf2:=(gB M1.out.2.2.2.1).free 2
 have nf3:=(gB M1.out.2.2.2.1).free 3
 have nf4:=(gB M1.out.2.2.2.1).free 4
 have nf5:=(gB M1.out.2.2.2.1).free 5
 have nf6:=(gB M1.out.2.2.2.1).free 6
 have nf7:=(gB M1.out.2.2.2.1).free 7
 have hF52:=(Fr.refl (fun x=>x=w.heap.size) w1).put 5 (.slice (some (ad g 0)) no c)
 have MA51:Hid (Sts [kOw w.heap.size 4 1 (.slice (some (ad g 0)) no c) no (boolF (updN O x true)),kBx (w.heap.size+1+1) 84 z8v,kBx (w.heap.size+1) 52 (vEv 3 (x:Int) 0),kBx (w.heap.size) 84 (vDk p wb yb bb (some (ad g 0)) no c (some (ad pb 0)) np pc ia ic),kBn w.heap.size w] _):=⟨owf (gO M1.out.1) (gB M1.out.2.2.2.1) hF52,(gB M1.out.2.1).fr hF52 (by omega),bxf (gB M1.out.2.2.1) (gB M1.out.2.2.2.1) hF52,by have h9:=((gB M1.out.2.2.2.1).set 5 (.slice (some (ad g 0)) no c));exact h9,⟨blf M1.out.2.2.2.2.1 nr hF52,rfl⟩,trivial⟩
 clear hF52
 clear M1
 go_upto_region 18 with fail
 clear n5 nf0 nf1 nf2 nf3 nf4 nf5 nf6 nf7
 generalize (w1.setCell (ad w.heap.size 5) (.slice (some (ad g 0)) no c))=W8 at MA51⊢
 have m0:=(gB MA51.out.2.2.2.1).cel 0
 have m1:=(gB MA51.out.2.2.2.1).cel 1
 have m2:=(gB MA51.out.2.2.2.1).cel 2
 have m3:=(gB MA51.out.2.2.2.1).cel 3
 have m4:=(gB MA51.out.2.2.2.1).cel 4
 have m5:=(gB MA51.out.2.2.2.1).cel 5
 have m6:=(gB MA51.out.2.2.2.1).cel 6
 have m7:=(gB MA51.out.2.2.2.1).cel 7
 go_wp2_with(refine wpList_rowH rfl 84 _ _ rfl (w.heap.size+1+1) #[.int .i64 p.sec,.slice (some (ad wb 0)) p.nw p.nw,.slice (some (ad yb 0)) p.ny p.ny,.slice (some (ad bb 0)) p.nb p.nb,.int .i64 p.hold,.slice (some (ad g 0)) no c,.slice (some (ad pb 0)) np pc,.slice ia p.ny ic] rfl rfl 84 _ (gB MA51.out.2.1) (by kernel_rfl) rfl (by kernel_rfl) (Halt.mk ?_))
 intro W9 hB9 hF9
 have MR53:Hid (Sts [kOw w.heap.size 4 1 (.slice (some (ad g 0)) no c) no (boolF (updN O x true)),kBn w.heap.size w] W9):=⟨owf (gO MA51.out.1) (gB MA51.out.2.1) hF9,⟨blf MA51.out.2.2.2.2.1 (Nat.le_add_right _ 2) hF9,rfl⟩,trivial⟩
 have z0:=hB9.cel 0
 have z1:=hB9.cel 1
 have z2:=hB9.cel 2
 have z3:=hB9.cel 3
 have z4:=hB9.cel 4
 have z5:=hB9.cel 5
 have z6:=hB9.cel 6
 have z7:=hB9.cel 7
 clear hF9 hB9 MA51
 go_wp2_with fail
 exact bodyPost_ret (v:=.tuple #[.agg #[.int .i64 p.sec,.slice (some (ad wb 0)) p.nw p.nw,.slice (some (ad yb 0)) p.ny p.ny,.slice (some (ad bb 0)) p.nb p.nb,.int .i64 p.hold,.slice (some (ad g 0)) no c,.slice (some (ad pb 0)) np pc,.slice ia p.ny ic],.nilIface]) (by simp[results,Tryz.results93,go_sem,z0,z1,z2,z3,z4,z5,z6,z7]) rfl (⟨g,c,pb,pc,ia,ic,rfl,⟨⟨_,(gO MR53.out.1)⟩,(H.out.mono (gL MR53.out.2.1) nr).2⟩,(gL MR53.out.2.1)⟩)
set_option maxRecDepth 100000 in
set_option maxHeartbeats 16000000 in
theorem do93_4 (p:Pl) (wb yb bb no np:Nat) (O:Nat->Bool) (P:Nat->Nat->Int) (S:Nat->WS) (lo rr:Nat->Nat) (x:Nat) (A:Nat->Addr) (ob oc pb pc:Nat) (ia:Option Addr) (ic:Nat) (w:World) (hx:x<no) (hG:DoH w p wb yb bb no np lo rr A) (hD:DeskQ w p no np O P S ob oc pb pc ia ic):
  Calls Tryz.prog 93 #[.agg #[.int .i64 p.sec,.slice (some (ad wb 0)) p.nw p.nw,.slice (some (ad yb 0)) p.ny p.ny,.slice (some (ad bb 0)) p.nb p.nb,.int .i64 p.hold,.slice (some (ad ob 0)) no oc,.slice (some (ad pb 0)) np pc,.slice ia p.ny ic],.agg #[.int .i64 4,.int .i64 (x:Int),.int .i64 0]] w fun e w'=>DR2 p wb yb bb no np (updN O x false) (P) (S) A (none) w e w':=by
 have H:Hid (DeskQ w p no np O P S ob oc pb pc ia ic):=hD
 have HG:Hid (DoH w p wb yb bb no np lo rr A):=hG
 obtain⟨V0,hV,S0⟩:=st3 w 84 (vDk p wb yb bb (some (ad ob 0)) no oc (some (ad pb 0)) np pc ia ic) 52 (vEv 4 (x:Int) 0) 84 z8v
 clear hG hD
 go_enter Tryz.func93,Tryz.ntmps93
 go_upto_region 1 with fail
 clear hV
 have m5:=(gB S0.out.2.2.1).cel 5
 have n0:=(gB S0.out.2.1).cel 0
 have n1:=(gB S0.out.2.1).cel 1
 go_wp2_with fail
 clear m5 n0 n1
 obtain⟨M1o,ho0⟩:=(H.out.mono (gL S0.out.2.2.2.1) nr).1
 refine(with116 ob 0 no oc O x false V0 hx HG.out.nol (ho0.vs.le (Nat.zero_le _))).mono ?_
 clear ho0
 rintro e w1 ⟨g,c,rfl,ho,hb⟩
 have M1:=stx (k:=kOw w.heap.size 4 1 (.slice (some (ad g 0)) no c) no (boolF (updN O x false))) (stm S0 hb) (ho.keep (gL S0.out.2.2.2.1).size (fun _ _=>rfl))
 clear hb ho S0
 have n5:=(gB M1.out.2.2.2.1).cel 5
 have nf0:=(gB M1.out.2.2.2.1).free 0
 have nf1:=(gB M1.out.2.2.2.1).free 1
 have nf2:=(gB M1.out.2.2.2.1).free 2
 have nf3:=(gB M1.out.2.2.2.1).free 3
 have nf4:=(gB M1.out.2.2.2.1).free 4
 have nf5:=(gB M1.out.2.2.2.1).free 5
 have nf6:=(gB M1.out.2.2.2.1).free 6
 have nf7:=(gB M1.out.2.2.2.1).free 7
 have hF55:=(Fr.refl (fun x=>x=w.heap.size) w1).put 5 (.slice (some (ad g 0)) no c)
 have MA54:Hid (Sts [kOw w.heap.size 4 1 (.slice (some (ad g 0)) no c) no (boolF (updN O x false)),kBx (w.heap.size+1+1) 84 z8v,kBx (w.heap.size+1) 52 (vEv 4 (x:Int) 0),kBx (w.heap.size) 84 (vDk p wb yb bb (some (ad g 0)) no c (some (ad pb 0)) np pc ia ic),kBn w.heap.size w] _):=⟨owf (gO M1.out.1) (gB M1.out.2.2.2.1) hF55,(gB M1.out.2.1).fr hF55 (by omega),bxf (gB M1.out.2.2.1) (gB M1.out.2.2.2.1) hF55,by have h9:=((gB M1.out.2.2.2.1).set 5 (.slice (some (ad g 0)) no c));exact h9,⟨blf M1.out.2.2.2.2.1 nr hF55,rfl⟩,trivial⟩
 clear hF55
 clear M1
 go_upto_region 18 with fail
 clear n5 nf0 nf1 nf2 nf3 nf4 nf5 nf6 nf7
 generalize (w1.setCell (ad w.heap.size 5) (.slice (some (ad g 0)) no c))=W8 at MA54⊢
 have m0:=(gB MA54.out.2.2.2.1).cel 0
 have m1:=(gB MA54.out.2.2.2.1).cel 1
 have m2:=(gB MA54.out.2.2.2.1).cel 2
 have m3:=(gB MA54.out.2.2.2.1).cel 3
 have m4:=(gB MA54.out.2.2.2.1).cel 4
 have m5:=(gB MA54.out.2.2.2.1).cel 5
 have m6:=(gB MA54.out.2.2.2.1).cel 6
 have m7:=(gB MA54.out.2.2.2.1).cel 7
 go_wp2_with(refine wpList_rowH rfl 84 _ _ rfl (w.heap.size+1+1) #[.int .i64 p.sec,.slice (some (ad wb 0)) p.nw p.nw,.slice (some (ad yb 0)) p.ny p.ny,.slice (some (ad bb 0)) p.nb p.nb,.int .i64 p.hold,.slice (some (ad g 0)) no c,.slice (some (ad pb 0)) np pc,.slice ia p.ny ic] rfl rfl 84 _ (gB MA54.out.2.1) (by kernel_rfl) rfl (by kernel_rfl) (Halt.mk ?_))
 intro W9 hB9 hF9
 have MR56:Hid (Sts [kOw w.heap.size 4 1 (.slice (some (ad g 0)) no c) no (boolF (updN O x false)),kBn w.heap.size w] W9):=⟨owf (gO MA54.out.1) (gB MA54.out.2.1) hF9,⟨blf MA54.out.2.2.2.2.1 (Nat.le_add_right _ 2) hF9,rfl⟩,trivial⟩
 have z0:=hB9.cel 0
 have z1:=hB9.cel 1
 have z2:=hB9.cel 2
 have z3:=hB9.cel 3
 have z4:=hB9.cel 4
 have z5:=hB9.cel 5
 have z6:=hB9.cel 6
 have z7:=hB9.cel 7
 clear hF9 hB9 MA54
 go_wp2_with fail
 exact bodyPost_ret (v:=.tuple #[.agg #[.int .i64 p.sec,.slice (some (ad wb 0)) p.nw p.nw,.slice (some (ad yb 0)) p.ny p.ny,.slice (some (ad bb 0)) p.nb p.nb,.int .i64 p.hold,.slice (some (ad g 0)) no c,.slice (some (ad pb 0)) np pc,.slice ia p.ny ic],.nilIface]) (by simp[results,Tryz.results93,go_sem,z0,z1,z2,z3,z4,z5,z6,z7]) rfl (⟨g,c,pb,pc,ia,ic,rfl,⟨⟨_,(gO MR56.out.1)⟩,(H.out.mono (gL MR56.out.2.1) nr).2⟩,(gL MR56.out.2.1)⟩)
set_option maxRecDepth 100000 in
set_option maxHeartbeats 16000000 in
theorem do93_5 (p:Pl) (wb yb bb no np:Nat) (O:Nat->Bool) (P:Nat->Nat->Int) (S:Nat->WS) (lo rr:Nat->Nat) (x:Nat) (lie:Int) (A:Nat->Addr) (ob oc pb pc:Nat) (ia:Option Addr) (ic:Nat) (w:World) (hx:x<np) (hG:DoH w p wb yb bb no np lo rr A) (hD:DeskQ w p no np O P S ob oc pb pc ia ic):
  Calls Tryz.prog 93 #[.agg #[.int .i64 p.sec,.slice (some (ad wb 0)) p.nw p.nw,.slice (some (ad yb 0)) p.ny p.ny,.slice (some (ad bb 0)) p.nb p.nb,.int .i64 p.hold,.slice (some (ad ob 0)) no oc,.slice (some (ad pb 0)) np pc,.slice ia p.ny ic],.agg #[.int .i64 5,.int .i64 (x:Int),.int .i64 lie]] w fun e w'=>DR2 p wb yb bb no np (O) (ptU P x (P x 0) lie) (S) A (none) w e w':=by
 have H:Hid (DeskQ w p no np O P S ob oc pb pc ia ic):=hD
 have HG:Hid (DoH w p wb yb bb no np lo rr A):=hG
 have HO:Hid (VsAt 2 0 w (some (ad pb 0)) np (intF P)):=by obtain⟨_,h9⟩:=hD.2.1;exact h9.vs.le (Nat.zero_le _)
 have HC:Hid (pb<w.heap.size/\w.cell? (ad pb (x*2))=some (.int .i64 (P x 0))):=by
  obtain⟨b',o',e,_,h1,h2⟩:=HO.out (by omega)
  simp only[Option.some.injEq,Addr.mk.injEq,and_true] at e
  obtain⟨rfl,rfl⟩:=e
  have h3:=h2 x hx 0 (by omega)
  rw[Nat.zero_add] at h3
  exact⟨h1,h3⟩
 have hx0:(0:Int)<=(x:Int):=by omega
 have hxn:(x:Int)<(np:Int):=by omega
 have hnp:=hG.npl
 obtain⟨V0,hV,S0⟩:=st3 w 84 (vDk p wb yb bb (some (ad ob 0)) no oc (some (ad pb 0)) np pc ia ic) 52 (vEv 5 (x:Int) lie) 84 z8v
 clear hG hD
 go_enter Tryz.func93,Tryz.ntmps93
 go_upto_region 1 with fail
 clear hV
 have n0:=(gB S0.out.2.1).cel 0
 go_upto_block 0 with fail
 clear n0
 go_cut [] from 6 (fun wx=>∃g c:Nat,Hid (Sts [kOw w.heap.size 69 2 (.slice (some (ad g 0)) np c) np (intF (ptU P x (P x 0) lie)),kBx (w.heap.size+1+1) 84 z8v,kBx (w.heap.size+1) 52 (vEv 5 (x:Int) lie),kBx (w.heap.size) 84 (vDk p wb yb bb (some (ad ob 0)) no oc (some (ad g 0)) np c ia ic),kBn w.heap.size w] wx))
 case first =>
  go_upto_region 10 with fail
  have x0:=(gB S0.out.2.1).cel 0
  have x1:=(gB S0.out.2.1).cel 1
  have x2:=(gB S0.out.2.1).cel 2
  go_wp2_with fail
  refine wp_region_held_drew (S:=(fun wx:World=>wx.cell? (ad (w.heap.size+1) 0)=some (.int .i64 5)/\wx.cell? (ad (w.heap.size+1) 1)=some (.int .i64 (x:Int))/\wx.cell? (ad (w.heap.size+1) 2)=some (.int .i64 lie))) (by kernel_rfl) ?_ (fun hHeld=>?_)
  ·
   exact⟨x0,x1,x2⟩
  have MD57:=std S0
  clear x0 x1 x2 S0
  generalize V0.drew=VD at MD57 hHeld⊢
  refine tk 0 ?_
  refine tk 2 ?_
  refine tk 3 ?_
  refine tk 4 ?_
  refine tk 6 ?_
  refine tk 7 ?_
  refine tk 11 ?_
  refine tk 12 ?_
  refine rl2 (i:=1) (j:=5) (by kernel_rfl) rfl rfl (fun K hK=>?_) (fun K hK=>?_)
  ·
   have o6:VD.cell? (ad w.heap.size 6)=some (.slice (some (ad pb 0)) np pc):=(gB MD57.out.2.2.1).cell 6
   go_simp
   refine hK.out _ _ ?_ (fun hHeld=>?_)
   ·
    exact d3 (gB MD57.out.2.1)
   clear hK K
   clear o6
   refine rl 5 fun K hK=>?_
   have o6:=(gB MD57.out.2.2.1).cel 6
   go_simp
   refine hK.out _ _ ?_ (fun hHeld=>?_)
   ·
    exact d3 (gB MD57.out.2.1)
   clear hK K
   clear o6
   refine tk 8 ?_
   refine tk 9 ?_
   refine rl 10 fun K hK=>?_
   have o7:VD.cell? (ad pb (x*2))=some (.int .i64 (P x 0)):=cell_keep (gL MD57.out.2.2.2.1) HC.out.1 HC.out.2
   go_simp
   refine hK.out _ _ ?_ (fun hHeld=>?_)
   ·
    exact d3 (gB MD57.out.2.1)
   clear hK K
   clear o7
   refine tk 13 ?_
   refine rl 14 fun K hK=>?_
   go_simp
   refine(with117 pb 0 np pc P x (P x 0) lie _ hx hnp (HO.out.mono nr (gL MD57.out.2.2.2.1) nr)).mono ?_
   rintro e wh58 ⟨g,c,rfl,ho,hb⟩
   have MA59:=stx (k:=kOw w.heap.size 69 2 (.slice (some (ad g 0)) np c) np (intF (ptU P x (P x 0) lie))) (stm MD57 hb) (ho.keep (gL MD57.out.2.2.2.1).size (fun _ _=>rfl))
   clear hb ho MD57
   go_wp2_with fail
   refine hK.out _ _ ?_ (fun hHeld=>?_)
   ·
    exact d3 (gB MA59.out.2.2.1)
   clear hK K
   refine tk 15 ?_
   have m6:=(gB MA59.out.2.2.2.1).cel 6
   have mf0:=(gB MA59.out.2.2.2.1).free 0
   have mf1:=(gB MA59.out.2.2.2.1).free 1
   have mf2:=(gB MA59.out.2.2.2.1).free 2
   have mf3:=(gB MA59.out.2.2.2.1).free 3
   have mf4:=(gB MA59.out.2.2.2.1).free 4
   have mf5:=(gB MA59.out.2.2.2.1).free 5
   have mf6:=(gB MA59.out.2.2.2.1).free 6
   have mf7:=(gB MA59.out.2.2.2.1).free 7
   have hF61:=(Fr.refl (fun x=>x=w.heap.size) wh58).put 6 (.slice (some (ad g 0)) np c)
   have MA60:Hid (Sts [kOw w.heap.size 69 2 (.slice (some (ad g 0)) np c) np (intF (ptU P x (P x 0) lie)),kBx (w.heap.size+1+1) 84 z8v,kBx (w.heap.size+1) 52 (vEv 5 (x:Int) lie),kBx (w.heap.size) 84 (vDk p wb yb bb (some (ad ob 0)) no oc (some (ad g 0)) np c ia ic),kBn w.heap.size w] _):=⟨owf (gO MA59.out.1) (gB MA59.out.2.2.2.1) hF61,(gB MA59.out.2.1).fr hF61 (by omega),bxf (gB MA59.out.2.2.1) (gB MA59.out.2.2.2.1) hF61,by have h9:=((gB MA59.out.2.2.2.1).set 6 (.slice (some (ad g 0)) np c));exact h9,⟨blf MA59.out.2.2.2.2.1 nr hF61,rfl⟩,trivial⟩
   clear hF61
   clear MA59
   refine rl 16 fun K hK=>?_
   go_simp
   refine hK.out _ _ ?_ (fun hHeld=>?_)
   ·
    exact d3 (gB MA60.out.2.2.1)
   clear hK K
   refine wpAnyH_done (by kernel_rfl) ?_ _
   clear m6 mf0 mf1 mf2 mf3 mf4 mf5 mf6 mf7 hHeld
   generalize (wh58.setCell (ad w.heap.size 6) (.slice (some (ad g 0)) np c))=W5 at MA60⊢
   go_wp2_with fail
   go_meet
   case rel=>exact⟨g,c,⟨(gO MA60.out.1),(gB MA60.out.2.1),(gB MA60.out.2.2.1),(gB MA60.out.2.2.2.1),⟨(gL MA60.out.2.2.2.2.1),rfl⟩,trivial⟩⟩
  ·
   have o6:VD.cell? (ad w.heap.size 6)=some (.slice (some (ad pb 0)) np pc):=(gB MD57.out.2.2.1).cell 6
   go_simp
   refine hK.out _ _ ?_ (fun hHeld=>?_)
   ·
    exact d3 (gB MD57.out.2.1)
   clear hK K
   clear o6
   refine tk 8 ?_
   refine tk 9 ?_
   refine rl2 (i:=1) (j:=10) (by kernel_rfl) rfl rfl (fun K hK=>?_) (fun K hK=>?_)
   ·
    have o6:VD.cell? (ad w.heap.size 6)=some (.slice (some (ad pb 0)) np pc):=(gB MD57.out.2.2.1).cell 6
    go_simp
    refine hK.out _ _ ?_ (fun hHeld=>?_)
    ·
     exact d3 (gB MD57.out.2.1)
    clear hK K
    clear o6
    refine rl 10 fun K hK=>?_
    have o7:VD.cell? (ad pb (x*2))=some (.int .i64 (P x 0)):=cell_keep (gL MD57.out.2.2.2.1) HC.out.1 HC.out.2
    go_simp
    refine hK.out _ _ ?_ (fun hHeld=>?_)
    ·
     exact d3 (gB MD57.out.2.1)
    clear hK K
    clear o7
    refine tk 13 ?_
    refine rl 14 fun K hK=>?_
    go_simp
    refine(with117 pb 0 np pc P x (P x 0) lie _ hx hnp (HO.out.mono nr (gL MD57.out.2.2.2.1) nr)).mono ?_
    rintro e wh62 ⟨g,c,rfl,ho,hb⟩
    have MA63:=stx (k:=kOw w.heap.size 69 2 (.slice (some (ad g 0)) np c) np (intF (ptU P x (P x 0) lie))) (stm MD57 hb) (ho.keep (gL MD57.out.2.2.2.1).size (fun _ _=>rfl))
    clear hb ho MD57
    go_wp2_with fail
    refine hK.out _ _ ?_ (fun hHeld=>?_)
    ·
     exact d3 (gB MA63.out.2.2.1)
    clear hK K
    refine tk 15 ?_
    have m6:=(gB MA63.out.2.2.2.1).cel 6
    have mf0:=(gB MA63.out.2.2.2.1).free 0
    have mf1:=(gB MA63.out.2.2.2.1).free 1
    have mf2:=(gB MA63.out.2.2.2.1).free 2
    have mf3:=(gB MA63.out.2.2.2.1).free 3
    have mf4:=(gB MA63.out.2.2.2.1).free 4
    have mf5:=(gB MA63.out.2.2.2.1).free 5
    have mf6:=(gB MA63.out.2.2.2.1).free 6
    have mf7:=(gB MA63.out.2.2.2.1).free 7
    have hF65:=(Fr.refl (fun x=>x=w.heap.size) wh62).put 6 (.slice (some (ad g 0)) np c)
    have MA64:Hid (Sts [kOw w.heap.size 69 2 (.slice (some (ad g 0)) np c) np (intF (ptU P x (P x 0) lie)),kBx (w.heap.size+1+1) 84 z8v,kBx (w.heap.size+1) 52 (vEv 5 (x:Int) lie),kBx (w.heap.size) 84 (vDk p wb yb bb (some (ad ob 0)) no oc (some (ad g 0)) np c ia ic),kBn w.heap.size w] _):=⟨owf (gO MA63.out.1) (gB MA63.out.2.2.2.1) hF65,(gB MA63.out.2.1).fr hF65 (by omega),bxf (gB MA63.out.2.2.1) (gB MA63.out.2.2.2.1) hF65,by have h9:=((gB MA63.out.2.2.2.1).set 6 (.slice (some (ad g 0)) np c));exact h9,⟨blf MA63.out.2.2.2.2.1 nr hF65,rfl⟩,trivial⟩
    clear hF65
    clear MA63
    refine rl 16 fun K hK=>?_
    go_simp
    refine hK.out _ _ ?_ (fun hHeld=>?_)
    ·
     exact d3 (gB MA64.out.2.2.1)
    clear hK K
    refine wpAnyH_done (by kernel_rfl) ?_ _
    clear m6 mf0 mf1 mf2 mf3 mf4 mf5 mf6 mf7 hHeld
    generalize (wh62.setCell (ad w.heap.size 6) (.slice (some (ad g 0)) np c))=W5 at MA64⊢
    go_wp2_with fail
    go_meet
    case rel=>exact⟨g,c,⟨(gO MA64.out.1),(gB MA64.out.2.1),(gB MA64.out.2.2.1),(gB MA64.out.2.2.2.1),⟨(gL MA64.out.2.2.2.2.1),rfl⟩,trivial⟩⟩
   ·
    have o7:VD.cell? (ad pb (x*2))=some (.int .i64 (P x 0)):=cell_keep (gL MD57.out.2.2.2.1) HC.out.1 HC.out.2
    go_simp
    refine hK.out _ _ ?_ (fun hHeld=>?_)
    ·
     exact d3 (gB MD57.out.2.1)
    clear hK K
    clear o7
    refine tk 13 ?_
    refine rl 1 fun K hK=>?_
    have o6:=(gB MD57.out.2.2.1).cel 6
    go_simp
    refine hK.out _ _ ?_ (fun hHeld=>?_)
    ·
     exact d3 (gB MD57.out.2.1)
    clear hK K
    clear o6
    refine rl 14 fun K hK=>?_
    go_simp
    refine(with117 pb 0 np pc P x (P x 0) lie _ hx hnp (HO.out.mono nr (gL MD57.out.2.2.2.1) nr)).mono ?_
    rintro e wh66 ⟨g,c,rfl,ho,hb⟩
    have MA67:=stx (k:=kOw w.heap.size 69 2 (.slice (some (ad g 0)) np c) np (intF (ptU P x (P x 0) lie))) (stm MD57 hb) (ho.keep (gL MD57.out.2.2.2.1).size (fun _ _=>rfl))
    clear hb ho MD57
    go_wp2_with fail
    refine hK.out _ _ ?_ (fun hHeld=>?_)
    ·
     exact d3 (gB MA67.out.2.2.1)
    clear hK K
    refine tk 15 ?_
    have m6:=(gB MA67.out.2.2.2.1).cel 6
    have mf0:=(gB MA67.out.2.2.2.1).free 0
    have mf1:=(gB MA67.out.2.2.2.1).free 1
    have mf2:=(gB MA67.out.2.2.2.1).free 2
    have mf3:=(gB MA67.out.2.2.2.1).free 3
    have mf4:=(gB MA67.out.2.2.2.1).free 4
    have mf5:=(gB MA67.out.2.2.2.1).free 5
    have mf6:=(gB MA67.out.2.2.2.1).free 6
    have mf7:=(gB MA67.out.2.2.2.1).free 7
    have hF69:=(Fr.refl (fun x=>x=w.heap.size) wh66).put 6 (.slice (some (ad g 0)) np c)
    have MA68:Hid (Sts [kOw w.heap.size 69 2 (.slice (some (ad g 0)) np c) np (intF (ptU P x (P x 0) lie)),kBx (w.heap.size+1+1) 84 z8v,kBx (w.heap.size+1) 52 (vEv 5 (x:Int) lie),kBx (w.heap.size) 84 (vDk p wb yb bb (some (ad ob 0)) no oc (some (ad g 0)) np c ia ic),kBn w.heap.size w] _):=⟨owf (gO MA67.out.1) (gB MA67.out.2.2.2.1) hF69,(gB MA67.out.2.1).fr hF69 (by omega),bxf (gB MA67.out.2.2.1) (gB MA67.out.2.2.2.1) hF69,by have h9:=((gB MA67.out.2.2.2.1).set 6 (.slice (some (ad g 0)) np c));exact h9,⟨blf MA67.out.2.2.2.2.1 nr hF69,rfl⟩,trivial⟩
    clear hF69
    clear MA67
    refine rl 16 fun K hK=>?_
    go_simp
    refine hK.out _ _ ?_ (fun hHeld=>?_)
    ·
     exact d3 (gB MA68.out.2.2.1)
    clear hK K
    refine wpAnyH_done (by kernel_rfl) ?_ _
    clear m6 mf0 mf1 mf2 mf3 mf4 mf5 mf6 mf7 hHeld
    generalize (wh66.setCell (ad w.heap.size 6) (.slice (some (ad g 0)) np c))=W5 at MA68⊢
    go_wp2_with fail
    go_meet
    case rel=>exact⟨g,c,⟨(gO MA68.out.1),(gB MA68.out.2.1),(gB MA68.out.2.2.1),(gB MA68.out.2.2.2.1),⟨(gL MA68.out.2.2.2.2.1),rfl⟩,trivial⟩⟩
 case rest=>
  obtain⟨g,c,M6⟩:=hcut
  clear S0
  generalize wc=W6 at M6⊢
  have m0:=(gB M6.out.2.2.2.1).cel 0
  have m1:=(gB M6.out.2.2.2.1).cel 1
  have m2:=(gB M6.out.2.2.2.1).cel 2
  have m3:=(gB M6.out.2.2.2.1).cel 3
  have m4:=(gB M6.out.2.2.2.1).cel 4
  have m5:=(gB M6.out.2.2.2.1).cel 5
  have m6:=(gB M6.out.2.2.2.1).cel 6
  have m7:=(gB M6.out.2.2.2.1).cel 7
  go_wp2_with(refine wpList_rowH rfl 84 _ _ rfl (w.heap.size+1+1) #[.int .i64 p.sec,.slice (some (ad wb 0)) p.nw p.nw,.slice (some (ad yb 0)) p.ny p.ny,.slice (some (ad bb 0)) p.nb p.nb,.int .i64 p.hold,.slice (some (ad ob 0)) no oc,.slice (some (ad g 0)) np c,.slice ia p.ny ic] rfl rfl 84 _ (gB M6.out.2.1) (by kernel_rfl) rfl (by kernel_rfl) (Halt.mk ?_))
  intro W9 hB9 hF9
  have MR70:Hid (Sts [kOw w.heap.size 69 2 (.slice (some (ad g 0)) np c) np (intF (ptU P x (P x 0) lie)),kBn w.heap.size w] W9):=⟨owf (gO M6.out.1) (gB M6.out.2.1) hF9,⟨blf M6.out.2.2.2.2.1 (Nat.le_add_right _ 2) hF9,rfl⟩,trivial⟩
  have z0:=hB9.cel 0
  have z1:=hB9.cel 1
  have z2:=hB9.cel 2
  have z3:=hB9.cel 3
  have z4:=hB9.cel 4
  have z5:=hB9.cel 5
  have z6:=hB9.cel 6
  have z7:=hB9.cel 7
  clear hF9 hB9 M6
  go_wp2_with fail
  exact bodyPost_ret (v:=.tuple #[.agg #[.int .i64 p.sec,.slice (some (ad wb 0)) p.nw p.nw,.slice (some (ad yb 0)) p.ny p.ny,.slice (some (ad bb 0)) p.nb p.nb,.int .i64 p.hold,.slice (some (ad ob 0)) no oc,.slice (some (ad g 0)) np c,.slice ia p.ny ic],.nilIface]) (by simp[results,Tryz.results93,go_sem,z0,z1,z2,z3,z4,z5,z6,z7]) rfl (⟨ob,oc,g,c,ia,ic,rfl,⟨(H.out.mono (gL MR70.out.2.1) nr).1,⟨_,(gO MR70.out.1)⟩,(H.out.mono (gL MR70.out.2.1) nr).2.2⟩,(gL MR70.out.2.1)⟩)
set_option maxRecDepth 100000 in
set_option maxHeartbeats 16000000 in
theorem do93_6 (p:Pl) (wb yb bb no np:Nat) (O:Nat->Bool) (P:Nat->Nat->Int) (S:Nat->WS) (lo rr:Nat->Nat) (x:Nat) (lie:Int) (A:Nat->Addr) (ob oc pb pc:Nat) (ia:Option Addr) (ic:Nat) (w:World) (hx:x<np) (hG:DoH w p wb yb bb no np lo rr A) (hD:DeskQ w p no np O P S ob oc pb pc ia ic):
  Calls Tryz.prog 93 #[.agg #[.int .i64 p.sec,.slice (some (ad wb 0)) p.nw p.nw,.slice (some (ad yb 0)) p.ny p.ny,.slice (some (ad bb 0)) p.nb p.nb,.int .i64 p.hold,.slice (some (ad ob 0)) no oc,.slice (some (ad pb 0)) np pc,.slice ia p.ny ic],.agg #[.int .i64 6,.int .i64 (x:Int),.int .i64 lie]] w fun e w'=>DR2 p wb yb bb no np (mvD O P S x lie (fxE p O S x)).O (mvD O P S x lie (fxE p O S x)).P (mvD O P S x lie (fxE p O S x)).S A (mvD O P S x lie (fxE p O S x)).e w e w':=by
 have H:Hid (DeskQ w p no np O P S ob oc pb pc ia ic):=hD
 have HG:Hid (DoH w p wb yb bb no np lo rr A):=hG
 obtain⟨o,HW,ho⟩:∃o:Nat,Hid (p.W x=(o:Int))/\o<no:=hG.sw x (by have :=hG.npw;omega)
 have hxw:x<p.nw:=by have :=hG.npw;omega
 obtain⟨oe,HE⟩:∃oe,Hid (fxE p O S x=oe):=⟨_,rfl⟩
 rw[HE.out]
 have HV:Hid (fxV (fun i=>wantsS p S i x) p.ny (O o) (erV A (some 4)) (erV A (some 5))=erV A oe):=by
  rw[←HE.out,fxE,HW.out,Int.toNat_natCast]
  by_cases c:0<selN (fun i=>wantsS p S i x) p.ny
  ·
   rw[fxV_a _ (by simpa using c),if_pos c];rfl
  ·
   rw[if_neg c]
   cases O o with
   |true=>rw[fxV_b (by simpa using c),if_pos rfl];rfl
   |false=>rw[fxV_c (by simpa using c),if_neg Bool.false_ne_true];rfl
 obtain⟨V0,hV,S0⟩:=st3 w 84 (vDk p wb yb bb (some (ad ob 0)) no oc (some (ad pb 0)) np pc ia ic) 52 (vEv 6 (x:Int) lie) 84 z8v
 clear hG hD
 go_enter Tryz.func93,Tryz.ntmps93
 go_upto_region 1 with fail
 clear hV
 have m0:=(gB S0.out.2.2.1).cel 0
 have m1:=(gB S0.out.2.2.1).cel 1
 have m2:=(gB S0.out.2.2.1).cel 2
 have m3:=(gB S0.out.2.2.1).cel 3
 have m4:=(gB S0.out.2.2.1).cel 4
 have m5:=(gB S0.out.2.2.1).cel 5
 have m6:=(gB S0.out.2.2.1).cel 6
 have m7:=(gB S0.out.2.2.1).cel 7
 have n0:=(gB S0.out.2.1).cel 0
 have n1:=(gB S0.out.2.1).cel 1
 go_wp2_with fail
 clear m0 m1 m2 m3 m4 m5 m6 m7 n0 n1
 obtain⟨⟨M1o,ho1⟩,_,M3o,v3,hw1⟩:=(H.out.mono (gL S0.out.2.2.2.1) nr)
 have hsn:=(HG.out.mono (gL S0.out.2.2.2.1) nr).sn
 refine(fixed100 p wb yb bb lo rr ob 0 no oc (some (ad pb 0)) np pc ia ic O S (fun i=>(p.Y i).ns) x o 251 251 (.pointer (some (A 4))) (.pointer (some (A 5))) V0 hxw HW.out ho HG.out.nol HG.out.sm (HG.out.mono (gL S0.out.2.2.2.1) nr).pl (ho1.vs.le (Nat.zero_le _)) hw1.at (hsn.1 4 (by omega)) (hsn.1 5 (by omega)) (by have :=hsn.2.2.2;omega) (by have :=hsn.2.2.2;omega)).mono ?_
 clear ho1 hw1 hsn
 rintro e w1 ⟨he,hb⟩
 rw[show fxV (fun i=>wantsS p S i x) p.ny (O o) (.iface 251 (.pointer (some (A 4)))) (.iface 251 (.pointer (some (A 5))))=erV A oe from HV.out] at he
 subst he
 have M1:=stm S0 hb
 clear hb S0
 cases oe with
 |some g=>
  dsimp only[erV]
  go_upto_region 14 with fail
  have m0:=(gB M1.out.2.2.1).cel 0
  have m1:=(gB M1.out.2.2.1).cel 1
  have m2:=(gB M1.out.2.2.1).cel 2
  have m3:=(gB M1.out.2.2.1).cel 3
  have m4:=(gB M1.out.2.2.1).cel 4
  have m5:=(gB M1.out.2.2.1).cel 5
  have m6:=(gB M1.out.2.2.1).cel 6
  have m7:=(gB M1.out.2.2.1).cel 7
  go_wp2_with(refine wpList_rowH rfl 84 _ _ rfl (w.heap.size+1+1) #[.int .i64 p.sec,.slice (some (ad wb 0)) p.nw p.nw,.slice (some (ad yb 0)) p.ny p.ny,.slice (some (ad bb 0)) p.nb p.nb,.int .i64 p.hold,.slice (some (ad ob 0)) no oc,.slice (some (ad pb 0)) np pc,.slice ia p.ny ic] rfl rfl 84 _ (gB M1.out.1) (by kernel_rfl) rfl (by kernel_rfl) (Halt.mk ?_))
  intro W9 hB9 hF9
  have MR71:Hid (Sts [kBn w.heap.size w] W9):=⟨⟨blf M1.out.2.2.2.1 (Nat.le_add_right _ 2) hF9,rfl⟩,trivial⟩
  have z0:=hB9.cel 0
  have z1:=hB9.cel 1
  have z2:=hB9.cel 2
  have z3:=hB9.cel 3
  have z4:=hB9.cel 4
  have z5:=hB9.cel 5
  have z6:=hB9.cel 6
  have z7:=hB9.cel 7
  clear hF9 hB9 M1
  go_wp2_with fail
  exact bodyPost_ret (v:=.tuple #[.agg #[.int .i64 p.sec,.slice (some (ad wb 0)) p.nw p.nw,.slice (some (ad yb 0)) p.ny p.ny,.slice (some (ad bb 0)) p.nb p.nb,.int .i64 p.hold,.slice (some (ad ob 0)) no oc,.slice (some (ad pb 0)) np pc,.slice ia p.ny ic],.iface 251 (.pointer (some (A g)))]) (by simp[results,Tryz.results93,go_sem,z0,z1,z2,z3,z4,z5,z6,z7]) rfl (⟨ob,oc,pb,pc,ia,ic,rfl,(H.out.mono (gL MR71.out.1) nr),(gL MR71.out.1)⟩)
 |none=>
  dsimp only[erV]
  have m0:=(gB M1.out.2.2.1).cel 0
  have m1:=(gB M1.out.2.2.1).cel 1
  have m2:=(gB M1.out.2.2.1).cel 2
  have m3:=(gB M1.out.2.2.1).cel 3
  have m4:=(gB M1.out.2.2.1).cel 4
  have m5:=(gB M1.out.2.2.1).cel 5
  have m6:=(gB M1.out.2.2.1).cel 6
  have m7:=(gB M1.out.2.2.1).cel 7
  have n1:=(gB M1.out.2.1).cel 1
  have n2:=(gB M1.out.2.1).cel 2
  go_wp2_with fail
  clear m0 m1 m2 m3 m4 m5 m6 m7 n1 n2
  obtain⟨M4o,hp4⟩:=(H.out.mono (gL M1.out.2.2.2.1) nr).2.1
  refine(turn119 p wb yb bb ob 0 no oc pb 0 np pc ia ic P x lie _ hx HG.out.npl (hp4.vs.le (Nat.zero_le _))).mono ?_
  clear hp4
  rintro e w2 ⟨g,c,rfl,ho2,hb⟩
  have M2:=stx (k:=kOw w.heap.size 69 2 (.slice (some (ad g 0)) np c) np (intF (ptU P x lie (P x 1)))) (stm M1 hb) (ho2.keep (gL M1.out.2.2.2.1).size (fun _ _=>rfl))
  clear hb ho2 M1
  go_wp2_with(refine wpList_rowH rfl 84 _ _ rfl (w.heap.size+1+1) #[.int .i64 p.sec,.slice (some (ad wb 0)) p.nw p.nw,.slice (some (ad yb 0)) p.ny p.ny,.slice (some (ad bb 0)) p.nb p.nb,.int .i64 p.hold,.slice (some (ad ob 0)) no oc,.slice (some (ad g 0)) np c,.slice ia p.ny ic] rfl rfl 84 _ (gB M2.out.2.1) (by kernel_rfl) rfl (by kernel_rfl) (Halt.mk ?_))
  intro W9 hB9 hF9
  have MR72:Hid (Sts [kOw w.heap.size 69 2 (.slice (some (ad g 0)) np c) np (intF (ptU P x lie (P x 1))),kBn w.heap.size w] W9):=⟨owf (gO M2.out.1) (gB M2.out.2.1) hF9,⟨blf M2.out.2.2.2.2.1 (Nat.le_add_right _ 2) hF9,rfl⟩,trivial⟩
  have z0:=hB9.cel 0
  have z1:=hB9.cel 1
  have z2:=hB9.cel 2
  have z3:=hB9.cel 3
  have z4:=hB9.cel 4
  have z5:=hB9.cel 5
  have z6:=hB9.cel 6
  have z7:=hB9.cel 7
  clear hF9 hB9 M2
  go_wp2_with fail
  exact bodyPost_ret (v:=.tuple #[.agg #[.int .i64 p.sec,.slice (some (ad wb 0)) p.nw p.nw,.slice (some (ad yb 0)) p.ny p.ny,.slice (some (ad bb 0)) p.nb p.nb,.int .i64 p.hold,.slice (some (ad ob 0)) no oc,.slice (some (ad g 0)) np c,.slice ia p.ny ic],.nilIface]) (by simp[results,Tryz.results93,go_sem,z0,z1,z2,z3,z4,z5,z6,z7]) rfl (⟨ob,oc,g,c,ia,ic,rfl,⟨(H.out.mono (gL MR72.out.2.1) nr).1,⟨_,(gO MR72.out.1)⟩,(H.out.mono (gL MR72.out.2.1) nr).2.2⟩,(gL MR72.out.2.1)⟩)
end Go.Proofs.YtkeilejbelblcaaGreatDoor
