import Derived.Test.YtkeilejbelblcaaGreatDoorJbn
import Derived.Test.YtkeilejbelblcaaGreatDoorJbf
namespace Go.Proofs.YtkeilejbelblcaaGreatDoor
open Go.RowKit Go.Lib
def kDq (p:Pl) (no np:Nat) (O:Nat->Bool) (P:Nat->Nat->Int) (S:Nat->WS) (ob oc pb pc:Nat) (ia:Option Addr) (ic:Nat):Kp:=⟨fun W=>DeskQ W p no np O P S ob oc pb pc ia ic,fun h hb=>h.mono hb nr⟩
theorem gD {p:Pl}{no np:Nat}{O:Nat->Bool}{P:Nat->Nat->Int}{S:Nat->WS}{ob oc pb pc:Nat}{ia:Option Addr}{ic:Nat}{W:World}(h:(kDq p no np O P S ob oc pb pc ia ic).p W):DeskQ W p no np O P S ob oc pb pc ia ic:=h
structure Dsk where
 O:Nat->Bool
 P:Nat->Nat->Int
 S:Nat->WS
 e:Option Nat
def fxE (p:Pl) (O:Nat->Bool) (S:Nat->WS) (x:Nat):Option Nat:=if 0<selN (fun i=>wantsS p S i x) p.ny then some 4 else if O (p.W x).toNat then some 5 else none
def mvD (O:Nat->Bool) (P:Nat->Nat->Int) (S:Nat->WS) (x:Nat) (lie:Int):Option Nat->Dsk
 |some g=>⟨O,P,S,some g⟩
 |none=>⟨O,ptU P x lie (P x 1),S,none⟩
def doD (p:Pl) (O:Nat->Bool) (P:Nat->Nat->Int) (S:Nat->WS) (op:Int) (x:Nat) (lie:Int):Dsk:=
 if op=1 then⟨O,asP p P x (whyO p O P S x),asS S x (whyO p O P S x),whyO p O P S x⟩
 else if op=2 then⟨O,P,updN S x (bkT p.hold (bkN p O x) (S x)),bkO (S x)⟩
 else if op=3 then⟨updN O x true,P,S,none⟩
 else if op=4 then⟨updN O x false,P,S,none⟩
 else if op=5 then⟨O,ptU P x (P x 0) lie,S,none⟩
 else if op=6 then mvD O P S x lie (fxE p O S x)
 else⟨O,P,fun i=>tickS (S i),none⟩
structure DoH (w:World) (p:Pl) (wb yb bb no np:Nat) (lo rr:Nat->Nat) (A:Nat->Addr):Prop where
 sm:p.small
 ok:p.Ok
 pl:PlOwn 0 w p wb yb bb lo rr
 way:∀i,i<p.ny->(p.Y i).In no np
 near:∀x,x<p.ny->∀i,i<(p.Y x).nm->∃o:Nat,(p.Y x).M i=(o:Int)/\o<no
 nol:no<=1048576
 npl:np<=1048576
 npw:np=p.nw
 sec:(no:Int)=p.sec
 sw:∀k,k<p.nw->∃o:Nat,p.W k=(o:Int)/\o<no
 sn:Sn w 7 A
theorem DoH.mono {w w':World}{p:Pl}{wb yb bb no np N:Nat}{lo rr:Nat->Nat}{A:Nat->Addr}(h:DoH w p wb yb bb no np lo rr A) (hb:Below N w w') (hN:w.heap.size<=N):DoH w' p wb yb bb no np lo rr A:=⟨h.sm,h.ok,h.pl.mono nr hb hN,h.way,h.near,h.nol,h.npl,h.npw,h.sec,h.sw,h.sn.mono hb hN⟩
set_option maxRecDepth 100000 in
set_option maxHeartbeats 16000000 in
theorem do93_1 (p:Pl) (wb yb bb no np:Nat) (O:Nat->Bool) (P:Nat->Nat->Int) (S:Nat->WS) (lo rr:Nat->Nat) (x:Nat) (A:Nat->Addr) (ob oc pb pc:Nat) (ia:Option Addr) (ic:Nat) (w:World) (hx:x<p.ny) (hG:DoH w p wb yb bb no np lo rr A) (hD:DeskQ w p no np O P S ob oc pb pc ia ic):
  Calls Tryz.prog 93 #[.agg #[.int .i64 p.sec,.slice (some (ad wb 0)) p.nw p.nw,.slice (some (ad yb 0)) p.ny p.ny,.slice (some (ad bb 0)) p.nb p.nb,.int .i64 p.hold,.slice (some (ad ob 0)) no oc,.slice (some (ad pb 0)) np pc,.slice ia p.ny ic],.agg #[.int .i64 1,.int .i64 (x:Int),.int .i64 0]] w fun e w'=>DR2 p wb yb bb no np (O) (asP p P x (whyO p O P S x)) (asS S x (whyO p O P S x)) A (whyO p O P S x) w e w':=by
 have H:Hid (DeskQ w p no np O P S ob oc pb pc ia ic):=hD
 have HG:Hid (DoH w p wb yb bb no np lo rr A):=hG
 obtain⟨V0,hV,S0⟩:=st3 w 84 (vDk p wb yb bb (some (ad ob 0)) no oc (some (ad pb 0)) np pc ia ic) 52 (vEv 1 (x:Int) 0) 84 z8v
 clear hG hD
 go_enter Tryz.func93,Tryz.ntmps93
 go_upto_region 1 with fail
 clear hV
 obtain⟨m0,m1,m2,m3,m4,m5,m6,m7⟩:=(gB S0.out.2.2.1).c8
 obtain⟨n0,n1,n2⟩:=(gB S0.out.2.1).c3
 go_wp2_with fail
 clear m0 m1 m2 m3 m4 m5 m6 m7 n0 n1 n2
 refine(ask114 p wb yb bb no np O P S lo rr x A ob oc pb pc ia ic V0 hx HG.out.sm HG.out.ok (HG.out.mono (gL S0.out.2.2.2.1) nr).pl HG.out.way HG.out.nol HG.out.npl HG.out.npw HG.out.sec HG.out.sw ((HG.out.mono (gL S0.out.2.2.2.1) nr).sn.le (by omega)) (H.out.mono (gL S0.out.2.2.2.1) nr)).mono ?_
 rintro e w1 ⟨ob2,oc2,pb2,pc2,ia2,ic2,rfl,hD,hb⟩
 have M1:=stx (k:=kDq p no np (O) (asP p P x (whyO p O P S x)) (asS S x (whyO p O P S x)) ob2 oc2 pb2 pc2 ia2 ic2) (stm S0 hb) (hD)
 clear hb hD S0
 go_wp2_with(refine wpList_rowH rfl 84 _ _ rfl (w.heap.size+1+1) #[.int .i64 p.sec,.slice (some (ad wb 0)) p.nw p.nw,.slice (some (ad yb 0)) p.ny p.ny,.slice (some (ad bb 0)) p.nb p.nb,.int .i64 p.hold,.slice (some (ad ob2 0)) no oc2,.slice (some (ad pb2 0)) np pc2,.slice ia2 p.ny ic2] rfl rfl 84 _ (gB M1.out.2.1) (by kernel_rfl) rfl (by kernel_rfl) (Halt.mk ?_))
 intro W9 hB9 hF9
 have MR48:Hid (Sts [kDq p no np (O) (asP p P x (whyO p O P S x)) (asS S x (whyO p O P S x)) ob2 oc2 pb2 pc2 ia2 ic2,kBn w.heap.size w] W9):=⟨(gD M1.out.1).fr (gB M1.out.2.1) hF9,⟨blf M1.out.2.2.2.2.1 (Nat.le_add_right _ 2) hF9,rfl⟩,trivial⟩
 obtain⟨z0,z1,z2,z3,z4,z5,z6,z7⟩:=hB9.c8
 clear hF9 hB9 M1
 go_wp2_with fail
 exact bodyPost_ret (v:=.tuple #[.agg #[.int .i64 p.sec,.slice (some (ad wb 0)) p.nw p.nw,.slice (some (ad yb 0)) p.ny p.ny,.slice (some (ad bb 0)) p.nb p.nb,.int .i64 p.hold,.slice (some (ad ob2 0)) no oc2,.slice (some (ad pb2 0)) np pc2,.slice ia2 p.ny ic2],erV A (whyO p O P S x)]) (by simp[results,Tryz.results93,go_sem,z0,z1,z2,z3,z4,z5,z6,z7]) rfl (⟨ob2,oc2,pb2,pc2,ia2,ic2,rfl,(gD MR48.out.1),(gL MR48.out.2.1)⟩)
set_option maxRecDepth 100000 in
set_option maxHeartbeats 16000000 in
theorem do93_2 (p:Pl) (wb yb bb no np:Nat) (O:Nat->Bool) (P:Nat->Nat->Int) (S:Nat->WS) (lo rr:Nat->Nat) (x:Nat) (A:Nat->Addr) (ob oc pb pc:Nat) (ia:Option Addr) (ic:Nat) (w:World) (hx:x<p.ny) (hG:DoH w p wb yb bb no np lo rr A) (hD:DeskQ w p no np O P S ob oc pb pc ia ic):
  Calls Tryz.prog 93 #[.agg #[.int .i64 p.sec,.slice (some (ad wb 0)) p.nw p.nw,.slice (some (ad yb 0)) p.ny p.ny,.slice (some (ad bb 0)) p.nb p.nb,.int .i64 p.hold,.slice (some (ad ob 0)) no oc,.slice (some (ad pb 0)) np pc,.slice ia p.ny ic],.agg #[.int .i64 2,.int .i64 (x:Int),.int .i64 0]] w fun e w'=>DR2 p wb yb bb no np (O) (P) (updN S x (bkT p.hold (bkN p O x) (S x))) A (bkO (S x)) w e w':=by
 have H:Hid (DeskQ w p no np O P S ob oc pb pc ia ic):=hD
 have HG:Hid (DoH w p wb yb bb no np lo rr A):=hG
 obtain⟨V0,hV,S0⟩:=st3 w 84 (vDk p wb yb bb (some (ad ob 0)) no oc (some (ad pb 0)) np pc ia ic) 52 (vEv 2 (x:Int) 0) 84 z8v
 clear hG hD
 go_enter Tryz.func93,Tryz.ntmps93
 go_upto_region 1 with fail
 clear hV
 obtain⟨m0,m1,m2,m3,m4,m5,m6,m7⟩:=(gB S0.out.2.2.1).c8
 obtain⟨n0,n1,n2⟩:=(gB S0.out.2.1).c3
 go_wp2_with fail
 clear m0 m1 m2 m3 m4 m5 m6 m7 n0 n1 n2
 refine(back115 p wb yb bb no np O P S lo rr x A ob oc pb pc ia ic V0 hx HG.out.sm (HG.out.mono (gL S0.out.2.2.2.1) nr).pl (HG.out.near x hx) HG.out.nol (HG.out.mono (gL S0.out.2.2.2.1) nr).sn (H.out.mono (gL S0.out.2.2.2.1) nr)).mono ?_
 rintro e w1 ⟨ob2,oc2,pb2,pc2,ia2,ic2,rfl,hD,hb⟩
 have M1:=stx (k:=kDq p no np (O) (P) (updN S x (bkT p.hold (bkN p O x) (S x))) ob2 oc2 pb2 pc2 ia2 ic2) (stm S0 hb) (hD)
 clear hb hD S0
 go_wp2_with(refine wpList_rowH rfl 84 _ _ rfl (w.heap.size+1+1) #[.int .i64 p.sec,.slice (some (ad wb 0)) p.nw p.nw,.slice (some (ad yb 0)) p.ny p.ny,.slice (some (ad bb 0)) p.nb p.nb,.int .i64 p.hold,.slice (some (ad ob2 0)) no oc2,.slice (some (ad pb2 0)) np pc2,.slice ia2 p.ny ic2] rfl rfl 84 _ (gB M1.out.2.1) (by kernel_rfl) rfl (by kernel_rfl) (Halt.mk ?_))
 intro W9 hB9 hF9
 have MR49:Hid (Sts [kDq p no np (O) (P) (updN S x (bkT p.hold (bkN p O x) (S x))) ob2 oc2 pb2 pc2 ia2 ic2,kBn w.heap.size w] W9):=⟨(gD M1.out.1).fr (gB M1.out.2.1) hF9,⟨blf M1.out.2.2.2.2.1 (Nat.le_add_right _ 2) hF9,rfl⟩,trivial⟩
 obtain⟨z0,z1,z2,z3,z4,z5,z6,z7⟩:=hB9.c8
 clear hF9 hB9 M1
 go_wp2_with fail
 exact bodyPost_ret (v:=.tuple #[.agg #[.int .i64 p.sec,.slice (some (ad wb 0)) p.nw p.nw,.slice (some (ad yb 0)) p.ny p.ny,.slice (some (ad bb 0)) p.nb p.nb,.int .i64 p.hold,.slice (some (ad ob2 0)) no oc2,.slice (some (ad pb2 0)) np pc2,.slice ia2 p.ny ic2],erV A (bkO (S x))]) (by simp[results,Tryz.results93,go_sem,z0,z1,z2,z3,z4,z5,z6,z7]) rfl (⟨ob2,oc2,pb2,pc2,ia2,ic2,rfl,(gD MR49.out.1),(gL MR49.out.2.1)⟩)
set_option maxRecDepth 100000 in
set_option maxHeartbeats 16000000 in
theorem do93_7 (p:Pl) (wb yb bb no np:Nat) (O:Nat->Bool) (P:Nat->Nat->Int) (S:Nat->WS) (lo rr:Nat->Nat) (A:Nat->Addr) (ob oc pb pc:Nat) (ia:Option Addr) (ic:Nat) (w:World) (hS:∀i,i<p.ny->∀t,S i=.taking t->1<=t/\t<=1000) (hG:DoH w p wb yb bb no np lo rr A) (hD:DeskQ w p no np O P S ob oc pb pc ia ic):
  Calls Tryz.prog 93 #[.agg #[.int .i64 p.sec,.slice (some (ad wb 0)) p.nw p.nw,.slice (some (ad yb 0)) p.ny p.ny,.slice (some (ad bb 0)) p.nb p.nb,.int .i64 p.hold,.slice (some (ad ob 0)) no oc,.slice (some (ad pb 0)) np pc,.slice ia p.ny ic],.agg #[.int .i64 7,.int .i64 0,.int .i64 0]] w fun e w'=>DR2 p wb yb bb no np (O) (P) (fun i=>tickS (S i)) A (none) w e w':=by
 have H:Hid (DeskQ w p no np O P S ob oc pb pc ia ic):=hD
 have HG:Hid (DoH w p wb yb bb no np lo rr A):=hG
 obtain⟨V0,hV,S0⟩:=st3 w 84 (vDk p wb yb bb (some (ad ob 0)) no oc (some (ad pb 0)) np pc ia ic) 52 (vEv 7 0 0) 84 z8v
 clear hG hD
 go_enter Tryz.func93,Tryz.ntmps93
 go_upto_region 1 with fail
 clear hV
 obtain⟨m0,m1,m2,m3,m4,m5,m6,m7⟩:=(gB S0.out.2.2.1).c8
 have n0:=(gB S0.out.2.1).cel 0
 go_wp2_with fail
 clear m0 m1 m2 m3 m4 m5 m6 m7 n0
 refine(tick120 p wb yb bb no np O P S ob oc pb pc ia ic V0 HG.out.sm.2.1 hS (H.out.mono (gL S0.out.2.2.2.1) nr)).mono ?_
 rintro e w1 ⟨ob2,oc2,pb2,pc2,ia2,ic2,rfl,hD,hb⟩
 have M1:=stx (k:=kDq p no np (O) (P) (fun i=>tickS (S i)) ob2 oc2 pb2 pc2 ia2 ic2) (stm S0 hb) (hD)
 clear hb hD S0
 go_wp2_with(refine wpList_rowH rfl 84 _ _ rfl (w.heap.size+1+1) #[.int .i64 p.sec,.slice (some (ad wb 0)) p.nw p.nw,.slice (some (ad yb 0)) p.ny p.ny,.slice (some (ad bb 0)) p.nb p.nb,.int .i64 p.hold,.slice (some (ad ob2 0)) no oc2,.slice (some (ad pb2 0)) np pc2,.slice ia2 p.ny ic2] rfl rfl 84 _ (gB M1.out.2.1) (by kernel_rfl) rfl (by kernel_rfl) (Halt.mk ?_))
 intro W9 hB9 hF9
 have MR50:Hid (Sts [kDq p no np (O) (P) (fun i=>tickS (S i)) ob2 oc2 pb2 pc2 ia2 ic2,kBn w.heap.size w] W9):=⟨(gD M1.out.1).fr (gB M1.out.2.1) hF9,⟨blf M1.out.2.2.2.2.1 (Nat.le_add_right _ 2) hF9,rfl⟩,trivial⟩
 obtain⟨z0,z1,z2,z3,z4,z5,z6,z7⟩:=hB9.c8
 clear hF9 hB9 M1
 go_wp2_with fail
 exact bodyPost_ret (v:=.tuple #[.agg #[.int .i64 p.sec,.slice (some (ad wb 0)) p.nw p.nw,.slice (some (ad yb 0)) p.ny p.ny,.slice (some (ad bb 0)) p.nb p.nb,.int .i64 p.hold,.slice (some (ad ob2 0)) no oc2,.slice (some (ad pb2 0)) np pc2,.slice ia2 p.ny ic2],.nilIface]) (by simp[results,Tryz.results93,go_sem,z0,z1,z2,z3,z4,z5,z6,z7]) rfl (⟨ob2,oc2,pb2,pc2,ia2,ic2,rfl,(gD MR50.out.1),(gL MR50.out.2.1)⟩)
end Go.Proofs.YtkeilejbelblcaaGreatDoor
