import Derived.Test.YtkeilejbelblcaaGreatDoorJbr
import Derived.Deep.CutBlock
import Derived.Test.YtkeilejbelblcaaGreatDoorGSaH5
namespace Go.Proofs.YtkeilejbelblcaaGreatDoor
open Go.RowKit Go.Lib
def kSf (B fb:Nat) (f:Fm) (oa pa ha:Option Addr) (oc pc hc:Nat) (r rc:Nat->Nat):Kp:=⟨fun W=>SF B W fb f oa pa ha oc pc hc r rc,fun h hb=>h.mono hb nr⟩
theorem gSf {B fb:Nat}{W:World}{f:Fm}{oa pa ha:Option Addr}{oc pc hc:Nat}{r rc:Nat->Nat}(h:(kSf B fb f oa pa ha oc pc hc r rc).p W):SF B W fb f oa pa ha oc pc hc r rc:=h
theorem bxo {B g c n cap q:Nat}{e T:TypeId}{W W':World}{F:Nat->Nat->Value}{ys:Array Value}(h:Box W q T ys) (ho:VOwn B e c W (.slice (some (ad g 0)) n cap) n F) (hF:Fr (fun x=>x=g) W W') (hT:T≠e:=by decide):Box W' q T ys:=h.fr hF (fun e'=>ho.off h hT (g:=g) rfl e'.symm)
def stY (Y:Nat->Hl) (x:Nat) (s:Int):Nat->Hl:=fun i=>if i=x then⟨s,(Y i).gone,(Y i).nb,(Y i).B,(Y i).shown,(Y i).timer⟩ else Y i
theorem stY_cells (Y:Nat->Hl) (x:Nat) (s:Int) (r rc:Nat->Nat) (i k:Nat):hlG (stY Y x s) r rc i k=if i=x/\k=0 then .int .i64 s else hlG Y r rc i k:=by
 unfold hlG stY
 by_cases e:i=x
 ·
  by_cases k0:k=0
  ·
   simp[e,k0]
  ·
   simp[e,k0]
 ·
  simp[e]
theorem stY_rows (Y:Nat->Hl) (x:Nat) (s:Int) (i:Nat):(stY Y x s i).nb=(Y i).nb/\(stY Y x s i).B=(Y i).B:=by
 unfold stY
 split<;>exact⟨rfl,rfl⟩
theorem tnP_next (L P:Nat->Nat->Int) (k o:Nat) (ho:L k 0=(o:Int)) (i j:Nat) (hj:j<2):tnP L P (k+1) i j=if i=o/\j=0 then L k 1 else tnP L P k i j:=by
 show ptU _ _ _ _ i j=_
 rw[ho,Int.toNat_natCast]
 unfold ptU
 by_cases e:i=o
 ·
  subst e
  by_cases j0:j=0
  ·
   simp[j0]
  ·
   have :j=1:=by omega
   subst this
   simp
 ·
  simp[e]
def qk (y:Wy) (q:Nat):Nat:=if q=0 then 0 else if q=1 then y.nl else y.nl+y.nf
theorem ndl0 {y:Wy}{j:Nat}(h:j<y.nl) (k:Nat):ndL y (0+j) k=y.L j k:=by simp[ndL,cat,h]
theorem ndl1 {y:Wy}(j k:Nat):ndL y (y.nl+j) k=y.F j k:=by unfold ndL cat;rw[if_neg (by omega),Nat.add_sub_cancel_left]
set_option maxRecDepth 100000 in
set_option maxHeartbeats 16000000 in
theorem set51 (p:Pl) (f:Fm) (wa ya ba:Option Addr) (wc yc bc:Nat) (oa pa:Option Addr) (oc pc hc fb hb:Nat) (r rc:Nat->Nat) (x:Nat) (wz w:World) (hs:p.small) (hx:x<f.nh) (hxy:x<p.ny) (hI:(p.Y x).In f.no f.np) (hP:PlIn 0 wz p wa ya ba) (hB:Below wz.heap.size wz w) (hS:SF wz.heap.size w fb f oa pa (some (ad hb 0)) oc pc hc r rc):
  Calls Tryz.prog 51 #[.agg #[.int .i64 p.sec,.slice wa p.nw wc,.slice ya p.ny yc,.slice ba p.nb bc,.int .i64 p.hold],.pointer (some (ad fb 0)),.int .i64 (x:Int)] w fun e w'=>e=.returned (.tuple #[])/\SF wz.heap.size w' fb ⟨f.ok,f.no,f.O,f.np,tnP (ndL (p.Y x)) f.P (((p.Y x).nl+(p.Y x).nf)),f.nh,stY f.Y x 1⟩ oa pa (some (ad hb 0)) oc pc hc r rc/\Below wz.heap.size wz w':=by
 have HI:Hid ((p.Y x).In f.no f.np):=hI
 have HP:Hid (PlIn 0 wz p wa ya ba):=hP
 obtain⟨yb,y0,hya,_,hyl,hyc⟩:=hP.wy (by omega)
 obtain⟨sa,sc,la,lc,fa,fc,va,vc,ma,mc,q0,q1,q2,q3,q4,hwy⟩:=hyc x hxy
 have HY:Hid (WyIn 0 wz (p.Y x) sa la fa va ma):=hwy
 subst hya
 have hnl:(p.Y x).nl<=1048576:=by have :=(hs.2.2.1 x hxy).2.1;omega
 have hnf:(p.Y x).nf<=1048576:=by have :=(hs.2.2.1 x hxy).2.2.1;omega
 have hx0:(0:Int)<=(x:Int):=by omega
 have hxn:(x:Int)<(p.ny:Int):=by omega
 have hxh:(x:Int)<(f.nh:Int):=by omega
 obtain⟨V0,hV,S0⟩:∃V,w.alloc (.cells (vPl p wa wc (some (ad yb y0)) yc ba bc) 37)=V/\Hid (Sts [kSf wz.heap.size fb (f) oa pa (some (ad hb 0)) oc pc hc r rc,kBx (w.heap.size) 37 (vPl p wa wc (some (ad yb y0)) yc ba bc),kBn wz.heap.size wz] V):=⟨_,rfl,hS.mono (bel1 _ _) nr,Box.new _ _ _,⟨hB.alloc hB.size _,rfl⟩,trivial⟩
 have e0:V0.cell? (ad yb (y0+x*5))=some (.slice sa (p.Y x).ns sc):=cell_keep (gL S0.out.2.2.1) hyl q0
 have e1:V0.cell? (ad yb (y0+x*5+1))=some (.slice la (p.Y x).nl lc):=cell_keep (gL S0.out.2.2.1) hyl q1
 have e2:V0.cell? (ad yb (y0+x*5+2))=some (.slice fa (p.Y x).nf fc):=cell_keep (gL S0.out.2.2.1) hyl q2
 have e3:V0.cell? (ad yb (y0+x*5+3))=some (.slice va (p.Y x).no vc):=cell_keep (gL S0.out.2.2.1) hyl q3
 have e4:V0.cell? (ad yb (y0+x*5+4))=some (.slice ma (p.Y x).nm mc):=cell_keep (gL S0.out.2.2.1) hyl q4
 have e9:=(gB S0.out.2.1).cel 2
 clear hs hI hP hB hS hyc hwy q0 q1 q2 q3 q4 hyl
 go_enter Tryz.func51,Tryz.ntmps51
 go_upto_region 1 with fail
 clear hV
 have M1:=stx (k:=kBx (V0.heap.size) 112 (vWy (p.Y x) sa sc la lc fa fc va vc ma mc)) (sta S0 (.cells (vWy (p.Y x) sa sc la lc fa fc va vc ma mc) 112)) (Box.new _ _ _)
 have HL67:Hid (wz.heap.size<=V0.heap.size):=(gL S0.out.2.2.1).size
 go_upto_region 2 with fail
 clear e0 e1 e2 e3 e4 e9 S0
 generalize V0.alloc (.cells (vWy (p.Y x) sa sc la lc fa fc va vc ma mc) 112)=V1 at M1⊢
 generalize V0.heap.size=t6 at M1 HL67⊢
 have c3:=(gSf M1.out.2.1).bx.cel 3
 have h0:V1.cell? (ad hb (x*5))=some (.int .i64 (f.Y x).st):=((gSf M1.out.2.1).h.hat hx).c0
 have h1:V1.frozen? (ad hb (x*5))=false:=((gSf M1.out.2.1).h.hat hx).fr 0 (by omega)
 have hF9:=(Fr.refl (fun x=>x=hb) V1).put (x*5) (.int .i64 1)
 have M2:Hid (Sts [kBx (t6) 112 (vWy (p.Y x) sa sc la lc fa fc va vc ma mc),kSf wz.heap.size fb (⟨f.ok,f.no,f.O,f.np,f.P,f.nh,stY f.Y x 1⟩) oa pa (some (ad hb 0)) oc pc hc r rc,kBx (w.heap.size) 37 (vPl p wa wc (some (ad yb y0)) yc ba bc),kBn wz.heap.size wz] _):=⟨bxo (gB M1.out.1) (gSf M1.out.2.1).h.own hF9,by have h9:=(gSf M1.out.2.1).way hx (j:=0) (by omega) 1 (fun i _ k _=>stY_cells f.Y x 1 r rc i k) (fun i _=>stY_rows f.Y x 1 i);exact h9,bxo (gB M1.out.2.2.1) (gSf M1.out.2.1).h.own hF9,⟨blf M1.out.2.2.2.1 ((gSf M1.out.2.1).h.own.lt (g:=hb) rfl).1 hF9,rfl⟩,trivial⟩
 clear hF9 M1
 go_upto_region 3 with fail
 clear c3 h0 h1
 generalize V1.setCell (ad hb (x*5)) (.int .i64 1)=V2 at M2⊢
 have k1:=(gB M2.out.1).cel 1
 have k2:=(gB M2.out.1).cel 2
 have M3:=stx (k:=kBx (V2.heap.size) 110 #[.slice la (p.Y x).nl lc,.slice fa (p.Y x).nf fc]) (sta M2 (.cells #[.slice la (p.Y x).nl lc,.slice fa (p.Y x).nf fc] 110)) (Box.new _ _ _)
 have HL68:Hid (wz.heap.size<=V2.heap.size):=(gL M2.out.2.2.2.1).size
 go_upto_block 0 with fail
 clear k1 k2 M2
 generalize V2.alloc (.cells #[.slice la (p.Y x).nl lc,.slice fa (p.Y x).nf fc] 110)=V3 at M3⊢
 generalize V2.heap.size=sl at M3 HL68⊢
 go_wp2_with fail
 go_loopw [29] (fun i wr=>∃q:Nat,q<=2/\i=.int .i64 (q:Int)/\Hid (Sts [kSf wz.heap.size fb (⟨f.ok,f.no,f.O,f.np,tnP (ndL (p.Y x)) f.P (qk (p.Y x) q),f.nh,stY f.Y x 1⟩) oa pa (some (ad hb 0)) oc pc hc r rc,kBx (sl) 110 #[.slice la (p.Y x).nl lc,.slice fa (p.Y x).nf fc],kBx (t6) 112 (vWy (p.Y x) sa sc la lc fa fc va vc ma mc),kBn wz.heap.size wz] wr)) (fun i _=>2-(intOf i).toNat)
 case atStart=>exact⟨0,by omega,rfl,(gSf M3.out.2.2.1),(gB M3.out.1),(gB M3.out.2.1),⟨(gL M3.out.2.2.2.2.1),rfl⟩,trivial⟩
 case round=>
  clear M3
  obtain⟨q,hq,rfl,T⟩:=hrel
  rcases(show q=0\/q=1\/q=2 by omega) with rfl|rfl|rfl
  ·
   have s0:wr.cell? (ad sl 0)=some (.slice la (p.Y x).nl lc):=(gB T.out.2.1).cell 0
   go_wp2_with fail
   clear s0
   go_loopw [35] (fun i wr=>∃j:Nat,j<=(p.Y x).nl/\i=.int .i64 (j:Int)/\Hid (Sts [kSf wz.heap.size fb (⟨f.ok,f.no,f.O,f.np,tnP (ndL (p.Y x)) f.P (0+j),f.nh,stY f.Y x 1⟩) oa pa (some (ad hb 0)) oc pc hc r rc,kBx (sl) 110 #[.slice la (p.Y x).nl lc,.slice fa (p.Y x).nf fc],kBx (t6) 112 (vWy (p.Y x) sa sc la lc fa fc va vc ma mc),kBn wz.heap.size wz] wr)) (fun i _=>(p.Y x).nl-(intOf i).toNat)
   case atStart=>exact⟨0,Nat.zero_le _,rfl,T⟩
   case round=>
    clear T
    obtain⟨j,hj,rfl,T2⟩:=hrel
    by_cases hlt:j<(p.Y x).nl
    ·
     obtain⟨o,HO,hon⟩:∃o:Nat,Hid ((p.Y x).L j 0=(o:Int))/\o<f.np:=HI.out.l j hlt
     obtain⟨ly,HL⟩:∃ly,Hid ((p.Y x).L j 1=ly):=⟨_,rfl⟩
     have HQ:Hid (∀i k,k<2->tnP (ndL (p.Y x)) f.P (0+(j+1)) i k=if i=o/\k=0 then ly else tnP (ndL (p.Y x)) f.P (0+j) i k):=fun i k hk=>by
      have h9:=tnP_next (ndL (p.Y x)) f.P (0+j) o (by rw[ndl0 hlt];exact HO.out) i k hk
      rw[ndl0 hlt,HL.out] at h9
      exact h9
     obtain⟨pb,rfl,_,_⟩:=(gSf T2.out.1).p.addr (show 0<f.np by omega)
     obtain⟨lb,l0,rfl,_,_,hc⟩:=(HY.out.l.mono nr (gL T2.out.2.2.2.1) nr) (by omega)
     have c0:wr.cell? (ad lb (l0+j*2))=some (.int .i64 (o:Int)):=by have h9:=hc j hlt 0 (by omega);rw[←HO.out];exact h9
     have c1:wr.cell? (ad lb (l0+j*2+1))=some (.int .i64 ly):=by have h9:=hc j hlt 1 (by omega);rw[←HL.out];exact h9
     have hj0:(0:Int)<=(j:Int):=by omega
     have hjn:(j:Int)<((p.Y x).nl:Int):=by omega
     clear hc
     have M5:=stx (k:=kBx (wr.heap.size) 146 #[.int .i64 (o:Int),.int .i64 ly]) (sta T2 (.cells #[.int .i64 (o:Int),.int .i64 ly] 146)) (Box.new _ _ _)
     have HL69:Hid (wz.heap.size<=wr.heap.size):=(gL T2.out.2.2.2.1).size
     go_upto_region 9 with fail
     clear c0 c1 T2
     generalize wr.alloc (.cells #[.int .i64 (o:Int),.int .i64 ly] 146)=V5 at M5⊢
     generalize wr.heap.size=tq at M5 HL69⊢
     refine wp_region_held_drew (S:=(fun wx:World=>wx.cell? (ad tq 0)=some (.int .i64 (o:Int))/\wx.cell? (ad tq 1)=some (.int .i64 ly)/\wx.cell? (ad fb 2)=some (.slice (some (ad pb 0)) f.np pc))) (by kernel_rfl) ⟨(gB M5.out.1).cell 0,(gB M5.out.1).cell 1,(gSf M5.out.2.1).bx.cell 2⟩ (fun hHeld=>?_)
     have MD70:=std M5
     clear M5
     generalize V5.drew=VD9 at MD70 hHeld⊢
     refine tk 0 ?_
     refine tk 1 ?_
     refine tk 2 ?_
     refine tk 3 ?_
     refine tk 4 ?_
     refine tk 5 ?_
     refine tk 6 ?_
     refine tk 7 ?_
     refine tk 8 ?_
     refine tk 9 ?_
     have d0:VD9.cell? (ad pb (o*2))=some (.int .i64 (tnP (ndL (p.Y x)) f.P (0+j) o 0)):=(gSf MD70.out.2.1).p.cell hon (j:=0) (by omega)
     have d1:=(gSf MD70.out.2.1).p.free (o*2)
     have ho0:(0:Int)<=(o:Int):=by omega
     have hop:(o:Int)<(f.np:Int):=by omega
     have hF9:=(Fr.refl (fun x=>x=pb) VD9).put (o*2) (.int .i64 ly)
     have M9:Hid (Sts [kBx (tq) 146 #[.int .i64 (o:Int),.int .i64 ly],kSf wz.heap.size fb (⟨f.ok,f.no,f.O,f.np,tnP (ndL (p.Y x)) f.P (0+(j+1)),f.nh,stY f.Y x 1⟩) oa (some (ad pb 0)) (some (ad hb 0)) oc pc hc r rc,kBx (sl) 110 #[.slice (some (ad lb l0)) (p.Y x).nl lc,.slice fa (p.Y x).nf fc],kBx (t6) 112 (vWy (p.Y x) sa sc (some (ad lb l0)) lc fa fc va vc ma mc),kBn wz.heap.size wz] _):=⟨bxo (gB MD70.out.1) (gSf MD70.out.2.1).p hF9,by have h9:=(gSf MD70.out.2.1).pt hon (j:=0) (by omega) ly (fun i _ k hk=>HQ.out i k hk);exact h9,bxo (gB MD70.out.2.2.1) (gSf MD70.out.2.1).p hF9,bxo (gB MD70.out.2.2.2.1) (gSf MD70.out.2.1).p hF9,⟨blf MD70.out.2.2.2.2.1 ((gSf MD70.out.2.1).p.lt (g:=pb) rfl).1 hF9,rfl⟩,trivial⟩
     clear hF9 MD70
     refine rl 10 fun K hK=>?_
     go_simp
     refine hK.out _ _ ⟨(gB M9.out.1).cell 0,(gB M9.out.1).cell 1,(gSf M9.out.2.1).bx.cell 2⟩ (fun hHeld=>?_)
     clear hK K
     refine wpAnyH_done (by kernel_rfl) ?_ _
     clear d0 d1 hHeld
     generalize VD9.setCell (ad pb (o*2)) (.int .i64 ly)=W10 at M9⊢
     go_wp2_with fail
     go_roundw
     case rel=>(repeat apply Exists.intro);exact⟨⟨j+1,by omega,by go_num,⟨(gSf M9.out.2.1),(gB M9.out.2.2.1),(gB M9.out.2.2.2.1),⟨(gL M9.out.2.2.2.2.1),rfl⟩,trivial⟩⟩,rfl⟩
     case measure=>simp[intOf];omega
    ·
     have hge:¬((j:Int)<((p.Y x).nl:Int)):=by omega
     have hjn:j=(p.Y x).nl:=by omega
     subst hjn
     go_wp2_with fail
     go_roundw
     case rel=>exact⟨0+1,by omega,by go_num,by rw[Nat.zero_add] at T2;exact T2⟩
     case measure=>simp[intOf]
  ·
   have s1:wr.cell? (ad sl 1)=some (.slice fa (p.Y x).nf fc):=(gB T.out.2.1).cell 1
   go_wp2_with fail
   clear s1
   go_loopw [35] (fun i wr=>∃j:Nat,j<=(p.Y x).nf/\i=.int .i64 (j:Int)/\Hid (Sts [kSf wz.heap.size fb (⟨f.ok,f.no,f.O,f.np,tnP (ndL (p.Y x)) f.P ((p.Y x).nl+j),f.nh,stY f.Y x 1⟩) oa pa (some (ad hb 0)) oc pc hc r rc,kBx (sl) 110 #[.slice la (p.Y x).nl lc,.slice fa (p.Y x).nf fc],kBx (t6) 112 (vWy (p.Y x) sa sc la lc fa fc va vc ma mc),kBn wz.heap.size wz] wr)) (fun i _=>(p.Y x).nf-(intOf i).toNat)
   case atStart=>exact⟨0,Nat.zero_le _,rfl,T⟩
   case round=>
    clear T
    obtain⟨j,hj,rfl,T2⟩:=hrel
    by_cases hlt:j<(p.Y x).nf
    ·
     obtain⟨o,HO,hon⟩:∃o:Nat,Hid ((p.Y x).F j 0=(o:Int))/\o<f.np:=HI.out.f j hlt
     obtain⟨ly,HL⟩:∃ly,Hid ((p.Y x).F j 1=ly):=⟨_,rfl⟩
     have HQ:Hid (∀i k,k<2->tnP (ndL (p.Y x)) f.P ((p.Y x).nl+(j+1)) i k=if i=o/\k=0 then ly else tnP (ndL (p.Y x)) f.P ((p.Y x).nl+j) i k):=fun i k hk=>by
      have h9:=tnP_next (ndL (p.Y x)) f.P ((p.Y x).nl+j) o (by rw[ndl1];exact HO.out) i k hk
      rw[ndl1,HL.out] at h9
      exact h9
     obtain⟨pb,rfl,_,_⟩:=(gSf T2.out.1).p.addr (show 0<f.np by omega)
     obtain⟨lb,l0,rfl,_,_,hc⟩:=(HY.out.f.mono nr (gL T2.out.2.2.2.1) nr) (by omega)
     have c0:wr.cell? (ad lb (l0+j*2))=some (.int .i64 (o:Int)):=by have h9:=hc j hlt 0 (by omega);rw[←HO.out];exact h9
     have c1:wr.cell? (ad lb (l0+j*2+1))=some (.int .i64 ly):=by have h9:=hc j hlt 1 (by omega);rw[←HL.out];exact h9
     have hj0:(0:Int)<=(j:Int):=by omega
     have hjn:(j:Int)<((p.Y x).nf:Int):=by omega
     clear hc
     have M5:=stx (k:=kBx (wr.heap.size) 146 #[.int .i64 (o:Int),.int .i64 ly]) (sta T2 (.cells #[.int .i64 (o:Int),.int .i64 ly] 146)) (Box.new _ _ _)
     have HL71:Hid (wz.heap.size<=wr.heap.size):=(gL T2.out.2.2.2.1).size
     go_upto_region 9 with fail
     clear c0 c1 T2
     generalize wr.alloc (.cells #[.int .i64 (o:Int),.int .i64 ly] 146)=V5 at M5⊢
     generalize wr.heap.size=tq at M5 HL71⊢
     refine wp_region_held_drew (S:=(fun wx:World=>wx.cell? (ad tq 0)=some (.int .i64 (o:Int))/\wx.cell? (ad tq 1)=some (.int .i64 ly)/\wx.cell? (ad fb 2)=some (.slice (some (ad pb 0)) f.np pc))) (by kernel_rfl) ⟨(gB M5.out.1).cell 0,(gB M5.out.1).cell 1,(gSf M5.out.2.1).bx.cell 2⟩ (fun hHeld=>?_)
     have MD72:=std M5
     clear M5
     generalize V5.drew=VD9 at MD72 hHeld⊢
     refine tk 0 ?_
     refine tk 1 ?_
     refine tk 2 ?_
     refine tk 3 ?_
     refine tk 4 ?_
     refine tk 5 ?_
     refine tk 6 ?_
     refine tk 7 ?_
     refine tk 8 ?_
     refine tk 9 ?_
     have d0:VD9.cell? (ad pb (o*2))=some (.int .i64 (tnP (ndL (p.Y x)) f.P ((p.Y x).nl+j) o 0)):=(gSf MD72.out.2.1).p.cell hon (j:=0) (by omega)
     have d1:=(gSf MD72.out.2.1).p.free (o*2)
     have ho0:(0:Int)<=(o:Int):=by omega
     have hop:(o:Int)<(f.np:Int):=by omega
     have hF9:=(Fr.refl (fun x=>x=pb) VD9).put (o*2) (.int .i64 ly)
     have M9:Hid (Sts [kBx (tq) 146 #[.int .i64 (o:Int),.int .i64 ly],kSf wz.heap.size fb (⟨f.ok,f.no,f.O,f.np,tnP (ndL (p.Y x)) f.P ((p.Y x).nl+(j+1)),f.nh,stY f.Y x 1⟩) oa (some (ad pb 0)) (some (ad hb 0)) oc pc hc r rc,kBx (sl) 110 #[.slice la (p.Y x).nl lc,.slice (some (ad lb l0)) (p.Y x).nf fc],kBx (t6) 112 (vWy (p.Y x) sa sc la lc (some (ad lb l0)) fc va vc ma mc),kBn wz.heap.size wz] _):=⟨bxo (gB MD72.out.1) (gSf MD72.out.2.1).p hF9,by have h9:=(gSf MD72.out.2.1).pt hon (j:=0) (by omega) ly (fun i _ k hk=>HQ.out i k hk);exact h9,bxo (gB MD72.out.2.2.1) (gSf MD72.out.2.1).p hF9,bxo (gB MD72.out.2.2.2.1) (gSf MD72.out.2.1).p hF9,⟨blf MD72.out.2.2.2.2.1 ((gSf MD72.out.2.1).p.lt (g:=pb) rfl).1 hF9,rfl⟩,trivial⟩
     clear hF9 MD72
     refine rl 10 fun K hK=>?_
     go_simp
     refine hK.out _ _ ⟨(gB M9.out.1).cell 0,(gB M9.out.1).cell 1,(gSf M9.out.2.1).bx.cell 2⟩ (fun hHeld=>?_)
     clear hK K
     refine wpAnyH_done (by kernel_rfl) ?_ _
     clear d0 d1 hHeld
     generalize VD9.setCell (ad pb (o*2)) (.int .i64 ly)=W10 at M9⊢
     go_wp2_with fail
     go_roundw
     case rel=>(repeat apply Exists.intro);exact⟨⟨j+1,by omega,by go_num,⟨(gSf M9.out.2.1),(gB M9.out.2.2.1),(gB M9.out.2.2.2.1),⟨(gL M9.out.2.2.2.2.1),rfl⟩,trivial⟩⟩,rfl⟩
     case measure=>simp[intOf];omega
    ·
     have hge:¬((j:Int)<((p.Y x).nf:Int)):=by omega
     have hjn:j=(p.Y x).nf:=by omega
     subst hjn
     go_wp2_with fail
     go_roundw
     case rel=>exact⟨1+1,by omega,by go_num,T2⟩
     case measure=>simp[intOf]
  ·
   go_wp2_with fail
   exact bodyPost_end (v:=.tuple #[]) (by simp[results,Tryz.results51,go_sem]) rfl ⟨rfl,(gSf T.out.1),(gL T.out.2.2.2.1)⟩
theorem SF.fm {B fb hb:Nat}{W:World}{f:Fm}{oa pa:Option Addr}{oc pc hc:Nat}{r rc:Nat->Nat}(s:SF B W fb f oa pa (some (ad hb 0)) oc pc hc r rc):FMem B W fb hb f.ok oa f.no oc f.O pa f.np pc f.P f.nh hc f.Y r rc:=by
 refine⟨s.bx,s.o.vs.le (Nat.zero_le _),s.p.vs.le (Nat.zero_le _),fun i hi=>s.h.hat hi,s.h.inj,fun e=>s.h.own.off s.bx (by decide) (g:=hb) rfl e.symm,fun i hi e=>(s.h.row i hi).off s.bx (by decide) (g:=r i) rfl e.symm,fun i hi _ b off e=>?_,fun i hi _ b off e=>?_,s.lo,(s.h.own.lt rfl).1,fun i hi=>((s.h.row i hi).lt rfl).1⟩
 ·
  subst e
  have hbk:off=0:=by
   rcases s.o with⟨e1,_⟩|⟨g,cp,cur,e1,_⟩
   ·
    cases e1
   ·
    simp only[Value.slice.injEq,Option.some.injEq,Addr.mk.injEq,and_true,true_and] at e1
    exact e1.1.2
  subst hbk
  refine⟨fun e2=>?_,fun e2=>s.ne b rfl i hi e2.symm⟩
  subst e2
  exact s.o.apart s.h.own (by decide) rfl rfl
 ·
  subst e
  have hbk:off=0:=by
   rcases s.p with⟨e1,_⟩|⟨g,cp,cur,e1,_⟩
   ·
    cases e1
   ·
    simp only[Value.slice.injEq,Option.some.injEq,Addr.mk.injEq,and_true,true_and] at e1
    exact e1.1.2
  subst hbk
  refine⟨fun e2=>?_,fun e2=>?_⟩
  ·
   subst e2
   exact s.p.apart s.h.own (by decide) rfl rfl
  ·
   subst e2
   exact s.p.apart (s.h.row i hi) (by decide) rfl rfl
def tmY (Y:Nat->Hl) (x:Nat) (t:Int):Nat->Hl:=fun i=>if i=x then⟨(Y i).st,(Y i).gone,(Y i).nb,(Y i).B,(Y i).shown,t⟩ else Y i
theorem tmY_cells (Y:Nat->Hl) (x:Nat) (t:Int) (r rc:Nat->Nat) (i k:Nat) (hk:k<5):hlG (tmY Y x t) r rc i k=if i=x/\k=4 then .int .i64 t else hlG Y r rc i k:=by
 unfold hlG tmY
 by_cases e:i=x
 ·
  by_cases k4:k=4
  ·
   simp[e,k4]
  ·
   have :k=0\/k=1\/k=2\/k=3:=by omega
   rcases this with rfl|rfl|rfl|rfl<;>simp[e]
 ·
  simp[e]
theorem tmY_rows (Y:Nat->Hl) (x:Nat) (t:Int) (i:Nat):(tmY Y x t i).nb=(Y i).nb/\(tmY Y x t i).B=(Y i).B:=by
 unfold tmY
 split<;>exact⟨rfl,rfl⟩
def idH (n:Nat):Hl:=⟨0,0,n,fun _=>false,false,0⟩
def bkY (p:Pl) (f:Fm) (x:Nat):Nat->Hl:=if(f.Y x).st≠1/\(f.Y x).st≠2 then f.Y else if(bkN p f.O x&&(f.Y x).shown)=true then tmY (stY f.Y x 3) x p.hold else updN f.Y x (idH (f.Y x).nb)
def bkC (f:Fm) (x:Nat):Int:=if(f.Y x).st≠1/\(f.Y x).st≠2 then 2 else 0
def BkS (p:Pl) (f:Fm) (oa pa:Option Addr) (oc pc hc fb hb x:Nat) (wz:World) (e:Ending) (w':World):Prop:=
 ∃r rc:Nat->Nat,e=.returned (.int .i64 (bkC f x))/\FMem wz.heap.size w' fb hb f.ok oa f.no oc f.O pa f.np pc f.P f.nh hc (bkY p f x) r rc/\Below wz.heap.size wz w'
set_option maxRecDepth 100000 in
set_option maxHeartbeats 16000000 in
theorem back52 (p:Pl) (f:Fm) (wa ya ba:Option Addr) (wk yc bc:Nat) (oa pa:Option Addr) (oc pc hc fb hb:Nat) (r rc:Nat->Nat) (x:Nat) (wz w:World) (hs:p.small) (hx:x<f.nh) (hxy:x<p.ny) (hM:∀i,i<(p.Y x).nm->∃o:Nat,(p.Y x).M i=(o:Int)/\o<f.no) (hnb:(f.Y x).nb<=1048576) (hP:PlIn 0 wz p wa ya ba) (hB:Below wz.heap.size wz w) (hS:SF wz.heap.size w fb f oa pa (some (ad hb 0)) oc pc hc r rc):
  Calls Tryz.prog 52 #[.agg #[.int .i64 p.sec,.slice wa p.nw wk,.slice ya p.ny yc,.slice ba p.nb bc,.int .i64 p.hold],.pointer (some (ad fb 0)),.int .i64 (x:Int)] w fun e w'=>BkS p f oa pa oc pc hc fb hb x wz e w':=by
 have HM:Hid (∀i,i<(p.Y x).nm->∃o:Nat,(p.Y x).M i=(o:Int)/\o<f.no):=hM
 obtain⟨yb,y0,hya,_,hyl,hyc⟩:=hP.wy (by omega)
 obtain⟨sa,sc,la,lc,fa,fc,va,vc,ma,mc,q0,q1,q2,q3,q4,hwy⟩:=hyc x hxy
 have HY:Hid (WyIn 0 wz (p.Y x) sa la fa va ma):=hwy
 subst hya
 have hnm:(p.Y x).nm<=1048576:=by have :=(hs.2.2.1 x hxy).2.2.2.2;omega
 have hx0:(0:Int)<=(x:Int):=by omega
 have hxn:(x:Int)<(p.ny:Int):=by omega
 have hxh:(x:Int)<(f.nh:Int):=by omega
 obtain⟨st,HST⟩:∃st,Hid ((f.Y x).st=st):=⟨_,rfl⟩
 obtain⟨shn,HSH⟩:∃s,Hid ((f.Y x).shown=s):=⟨_,rfl⟩
 obtain⟨V0,hV,S0⟩:∃V,w.alloc (.cells (vPl p wa wk (some (ad yb y0)) yc ba bc) 37)=V/\Hid (Sts [kSf wz.heap.size fb (f) oa pa (some (ad hb 0)) oc pc hc r rc,kBx (w.heap.size) 37 (vPl p wa wk (some (ad yb y0)) yc ba bc),kBn wz.heap.size wz] V):=⟨_,rfl,hS.mono (bel1 _ _) nr,Box.new _ _ _,⟨hB.alloc hB.size _,rfl⟩,trivial⟩
 have e4:V0.cell? (ad yb (y0+x*5+4))=some (.slice ma (p.Y x).nm mc):=cell_keep (gL S0.out.2.2.1) hyl q4
 have e2:=(gB S0.out.2.1).cel 2
 have c3:=(gSf S0.out.1).bx.cel 3
 have c1:=(gSf S0.out.1).bx.cel 1
 have h0:V0.cell? (ad hb (x*5))=some (.int .i64 st):=by rw[←HST.out];exact((gSf S0.out.1).h.hat hx).c0
 have h3:V0.cell? (ad hb (x*5+3))=some (.bool shn):=by rw[←HSH.out];exact((gSf S0.out.1).h.hat hx).c3
 have HN:Hid ((f.Y x).nb<=1048576):=hnb
 clear hs hM hP hB hS hyc hwy q0 q1 q2 q3 q4 hyl hnb
 go_enter Tryz.func52,Tryz.ntmps52
 go_upto_region 1 with fail
 clear hV
 go_upto_region 2 with fail
 obtain⟨q,HQ⟩:∃q:Bool,Hid (decide (st≠1/\st≠2)=q):=⟨_,rfl⟩
 go_cut [27] from 8 (fun s27 wx=>s27=.bool q/\wx=V0)
 case first =>
  by_cases d1:st=1
  ·
   subst d1
   have hq:q=false:=by rw[←HQ.out];simp
   subst hq
   go_wp2_with fail
   go_meet
   case rel=>exact⟨rfl,rfl⟩
  ·
   have d1':(st !=1)=true:=by simpa using d1
   by_cases d2:st=2
   ·
    subst d2
    have hq:q=false:=by rw[←HQ.out];simp
    subst hq
    go_wp2_with fail
    go_meet
    case rel=>exact⟨rfl,rfl⟩
   ·
    have d2':(st !=2)=true:=by simpa using d2
    have hq:q=true:=by rw[←HQ.out];simp[d1,d2]
    subst hq
    go_wp2_with fail
    go_meet
    case rel=>exact⟨rfl,rfl⟩
 case rest=>
  obtain⟨rfl,rfl⟩:=hcut
  cases q with
  |true=>
   have HE:Hid (BkS p f oa pa oc pc hc fb hb x wz (.returned (.int .i64 2)) wc):=by
    have h9:=of_decide_eq_true HQ.out
    rw[←HST.out] at h9
    exact⟨r,rc,by rw[bkC,if_pos h9],by rw[bkY,if_pos h9];exact(gSf S0.out.1).fm,(gL S0.out.2.2.1)⟩
   go_wp2_with fail
   go_ret
   exact HE.out
  |false=>
   have H9:Hid (¬((f.Y x).st≠1/\(f.Y x).st≠2)):=by rw[HST.out];exact of_decide_eq_false HQ.out
   go_wp2_with fail
   go_loop [35] (fun i=>∃k:Nat,k<=(p.Y x).nm/\i=.int .i64 (k:Int)/\Hid (∀j,j<k->(f.O ((p.Y x).M j).toNat&&shn)=false)) (fun i=>(p.Y x).nm-(intOf i).toNat)
   case atStart=>exact⟨0,Nat.zero_le _,rfl,fun i hi=>absurd hi (Nat.not_lt_zero _)⟩
   case round=>
    obtain⟨k,hk,rfl,HK⟩:=hrel
    by_cases hlt:k<(p.Y x).nm
    ·
     obtain⟨o,HO,hon⟩:∃o:Nat,Hid ((p.Y x).M k=(o:Int))/\o<f.no:=HM.out k hlt
     obtain⟨ob,rfl,_,_⟩:=(gSf S0.out.1).o.addr (show 0<f.no by omega)
     obtain⟨mb,m0,rfl,_,_,hmc⟩:=(HY.out.m.mono nr (gL S0.out.2.2.1) nr) (by omega)
     have g0:wc.cell? (ad mb (m0+k))=some (.int .i64 (o:Int)):=by have h9:=hmc k hlt 0 (by omega);rw[Nat.mul_one] at h9;rw[←HO.out];exact h9
     obtain⟨u,HU⟩:∃u,Hid (f.O o=u):=⟨_,rfl⟩
     have g1:wc.cell? (ad ob o)=some (.bool u):=by have h9:=(gSf S0.out.1).o.cell hon (j:=0) (by omega);rw[Nat.mul_one] at h9;rw[←HU.out];exact h9
     have hk0:(0:Int)<=(k:Int):=by omega
     have hkn:(k:Int)<((p.Y x).nm:Int):=by omega
     have ho0:(0:Int)<=(o:Int):=by omega
     have hoo:(o:Int)<(f.no:Int):=by omega
     clear hmc
     have HNX:Hid ((u&&shn)=false->∀j,j<k+1->(f.O ((p.Y x).M j).toNat&&shn)=false):=fun h9 j hj=>by
      by_cases c:j=k
      ·
       subst c
       rw[HO.out,Int.toNat_natCast,HU.out]
       exact h9
      ·
       exact HK.out j (by omega)
     cases u with
     |false=>
      go_wp2_with fail
      go_round
      case rel=>exact⟨k+1,by omega,by go_num,HNX.out rfl⟩
      case measure=>simp[intOf];omega
     |true=>
      cases shn with
      |false=>
       go_wp2_with fail
       go_round
       case rel=>exact⟨k+1,by omega,by go_num,HNX.out rfl⟩
       case measure=>simp[intOf];omega
      |true=>
       have HYE:Hid ((bkN p f.O x&&(f.Y x).shown)=true):=by
        rw[HSH.out,Bool.and_true]
        exact anyB_yes hlt (by rw[HO.out,Int.toNat_natCast];exact HU.out)
       go_upto_region 8 with fail
       clear g0 g1 c1 c3 e2 e4 h3
       have z1:wc.frozen? (ad hb (x*5))=false:=((gSf S0.out.1).h.hat hx).fr 0 (by omega)
       have hF9:=(Fr.refl (fun x=>x=hb) wc).put (x*5) (.int .i64 3)
       have M1:Hid (Sts [kSf wz.heap.size fb (⟨f.ok,f.no,f.O,f.np,f.P,f.nh,stY f.Y x 3⟩) (some (ad ob 0)) pa (some (ad hb 0)) oc pc hc r rc,kBx (w.heap.size) 37 (vPl p wa wk (some (ad yb y0)) yc ba bc),kBn wz.heap.size wz] _):=⟨by have h9:=(gSf S0.out.1).way hx (j:=0) (by omega) 3 (fun i _ k _=>stY_cells f.Y x 3 r rc i k) (fun i _=>stY_rows f.Y x 3 i);exact h9,bxo (gB S0.out.2.1) (gSf S0.out.1).h.own hF9,⟨blf S0.out.2.2.1 ((gSf S0.out.1).h.own.lt (g:=hb) rfl).1 hF9,rfl⟩,trivial⟩
       clear hF9 S0
       go_upto_region 9 with fail
       clear h0 z1
       generalize wc.setCell (ad hb (x*5)) (.int .i64 3)=V1 at M1⊢
       have z4:V1.frozen? (ad hb (x*5+4))=false:=((gSf M1.out.1).h.hat hx).fr 4 (by omega)
       have y4:V1.cell? (ad hb (x*5+4))=some (.int .i64 (stY f.Y x 3 x).timer):=((gSf M1.out.1).h.hat hx).c4
       have y5:=(gB M1.out.2.1).cel 4
       have hF9:=(Fr.refl (fun x=>x=hb) V1).put (x*5+4) (.int .i64 p.hold)
       have M2:Hid (Sts [kSf wz.heap.size fb (⟨f.ok,f.no,f.O,f.np,f.P,f.nh,tmY (stY f.Y x 3) x p.hold⟩) (some (ad ob 0)) pa (some (ad hb 0)) oc pc hc r rc,kBx (w.heap.size) 37 (vPl p wa wk (some (ad yb y0)) yc ba bc),kBn wz.heap.size wz] _):=⟨by have h9:=(gSf M1.out.1).way hx (j:=4) (by omega) p.hold (fun i _ k hk=>tmY_cells (stY f.Y x 3) x p.hold r rc i k hk) (fun i _=>tmY_rows (stY f.Y x 3) x p.hold i);exact h9,bxo (gB M1.out.2.1) (gSf M1.out.1).h.own hF9,⟨blf M1.out.2.2.1 ((gSf M1.out.1).h.own.lt (g:=hb) rfl).1 hF9,rfl⟩,trivial⟩
       clear hF9 M1
       go_upto_region 10 with fail
       clear z4 y4 y5
       generalize V1.setCell (ad hb (x*5+4)) (.int .i64 p.hold)=V2 at M2⊢
       have HE:Hid (BkS p f (some (ad ob 0)) pa oc pc hc fb hb x wz (.returned (.int .i64 0)) V2):=⟨r,rc,by rw[bkC,if_neg H9.out],by rw[bkY,if_neg H9.out,if_pos HYE.out];exact(gSf M2.out.1).fm,(gL M2.out.2.2.1)⟩
       go_wp2_with fail
       go_ret
       exact HE.out
    ·
     have hge:¬((k:Int)<((p.Y x).nm:Int)):=by omega
     have HNO:Hid ((bkN p f.O x&&(f.Y x).shown)=false):=by
      rw[HSH.out]
      cases shn with
      |false=>exact Bool.and_false _
      |true=>
       rw[Bool.and_true]
       exact anyB_no fun j hj=>by have h9:=HK.out j (by omega);rwa [Bool.and_true] at h9
     go_wp2_with fail
     refine(idle54 hb (x*5) (f.Y x) (r x) (rc x) wc HN.out ((gSf S0.out.1).h.hat hx)).mono ?_
     rintro e w2 ⟨rfl,hA,hC⟩
     have HE:Hid (BkS p f oa pa oc pc hc fb hb x wz (.returned (.int .i64 0)) w2):=⟨_,_,by rw[bkC,if_neg H9.out],by rw[bkY,if_neg H9.out,if_neg (by rw[HNO.out];exact Bool.false_ne_true)];exact(gSf S0.out.1).fm.step hx (gL S0.out.2.2.1).size hC hA (.inr nr),(gL S0.out.2.2.1).trans (hC.below (gL S0.out.2.2.1).size ((gSf S0.out.1).h.own.lt rfl).1 (((gSf S0.out.1).h.row x hx).lt rfl).1)⟩
     clear hA hC
     go_wp2_with fail
     go_ret
     exact HE.out
theorem like_st {h:Hl}{n:Nat}{hold:Int}{s:WS}(hb:heldB h n hold=true) (hs:stateF h n hold=some s):likeH (s.held n) h:=by
 obtain⟨hn,hc⟩:=stateF_cases hs
 simp only[heldB,Bool.and_eq_true,Bool.or_eq_true,decide_eq_true_eq,allB_iff] at hb
 obtain⟨_,hb2,_,hb4⟩:=hb
 rcases hc with⟨e,rfl⟩|⟨e,rfl⟩|⟨e,rfl⟩|⟨e,rfl,_⟩|⟨e,rfl,h0,_⟩
 ·
  rcases hb2 with k|⟨k1,k2⟩
  ·
   omega
  rw[if_neg (by omega)] at hb4
  simp only[Bool.and_eq_true,Bool.or_eq_true,decide_eq_true_eq] at hb4
  have k3:h.shown=false:=by rcases hb4.2.1 with k|k;exact absurd e k;simpa using k
  exact⟨e.symm,k2.symm,hn.symm,fun j hj=>by have :=k1 j (by rw[hn];exact hj);simpa [WS.held] using this,k3.symm,hb4.1.symm⟩
 ·
  rcases hb2 with k|⟨k1,k2⟩
  ·
   omega
  rw[if_neg (by omega)] at hb4
  simp only[Bool.and_eq_true,Bool.or_eq_true,decide_eq_true_eq] at hb4
  exact⟨e.symm,k2.symm,hn.symm,fun j hj=>by have :=k1 j (by rw[hn];exact hj);simpa [WS.held] using this,rfl,hb4.1.symm⟩
 ·
  rcases hb2 with k|⟨k1,k2⟩
  ·
   omega
  rw[if_neg (by omega)] at hb4
  simp only[Bool.and_eq_true,Bool.or_eq_true,decide_eq_true_eq] at hb4
  have k3:h.shown=true:=by rcases hb4.2.2 with k|k;exact absurd e k;exact k
  exact⟨e.symm,k2.symm,hn.symm,fun j hj=>by have :=k1 j (by rw[hn];exact hj);simpa [WS.held] using this,k3.symm,hb4.1.symm⟩
 ·
  rcases hb2 with k|⟨k1,k2⟩
  ·
   omega
  rw[if_pos e] at hb4
  simp only[Bool.and_eq_true] at hb4
  exact⟨e.symm,k2.symm,hn.symm,fun j hj=>by have :=k1 j (by rw[hn];exact hj);simpa [WS.held] using this,hb4.1.symm,rfl⟩
 ·
  rw[if_neg (by omega)] at hb4
  simp only[Bool.and_eq_true,Bool.or_eq_true,decide_eq_true_eq] at hb4
  exact⟨e.symm,Int.toNat_of_nonneg h0,hn.symm,fun _ _=>rfl,rfl,hb4.1.symm⟩
def tkH (h:Hl):Hl:=if h.st≠3 then h else if h.timer-1=0 then idH h.nb else⟨h.st,h.gone,h.nb,h.B,h.shown,h.timer-1⟩
def spF (p:Pl) (f:Fm) (op:Int) (x:Nat) (lie:Int):Fm:=
 if op=1 then(if whyF p f x=0 then⟨f.ok,f.no,f.O,f.np,tnP (ndL (p.Y x)) f.P ((p.Y x).nl+(p.Y x).nf),f.nh,stY f.Y x 1⟩ else f)
 else if op=2 then⟨f.ok,f.no,f.O,f.np,f.P,f.nh,bkY p f x⟩
 else if op=3 then⟨f.ok,f.no,updN f.O x true,f.np,f.P,f.nh,f.Y⟩
 else if op=4 then⟨f.ok,f.no,updN f.O x false,f.np,f.P,f.nh,f.Y⟩
 else if op=5 then⟨f.ok,f.no,f.O,f.np,ptU f.P x (f.P x 0) lie,f.nh,f.Y⟩
 else if op=6 then(if fxE p f.O (stS p f) x=none then⟨f.ok,f.no,f.O,f.np,ptU f.P x lie (f.P x 1),f.nh,f.Y⟩ else f)
 else⟨f.ok,f.no,f.O,f.np,f.P,f.nh,fun i=>tkH (f.Y i)⟩
theorem sp_same {p:Pl}{f:Fm}(h:frameB p f=true) {op lie:Int}{x:Nat}(hx:op=1->x<p.ny):(spF p f op x lie).O=(doD p f.O f.P (stS p f) op x lie).O/\(spF p f op x lie).P=(doD p f.O f.P (stS p f) op x lie).P:=by
 unfold spF doD
 by_cases h1:op=1
 ·
  rw[if_pos h1,if_pos h1]
  have hw:=why_same h (hx h1)
  cases ho:whyO p f.O f.P (stS p f) x with
  |none=>rw[ho] at hw;rw[if_pos (by rw[←hw];rfl)];exact⟨rfl,rfl⟩
  |some g=>rw[ho] at hw;rw[if_neg (by rw[←hw];simp only[codO];omega)];exact⟨rfl,rfl⟩
 rw[if_neg h1,if_neg h1]
 by_cases h2:op=2
 ·
  rw[if_pos h2,if_pos h2];exact⟨rfl,rfl⟩
 rw[if_neg h2,if_neg h2]
 by_cases h3:op=3
 ·
  rw[if_pos h3,if_pos h3];exact⟨rfl,rfl⟩
 rw[if_neg h3,if_neg h3]
 by_cases h4:op=4
 ·
  rw[if_pos h4,if_pos h4];exact⟨rfl,rfl⟩
 rw[if_neg h4,if_neg h4]
 by_cases h5:op=5
 ·
  rw[if_pos h5,if_pos h5];exact⟨rfl,rfl⟩
 rw[if_neg h5,if_neg h5]
 by_cases h6:op=6
 ·
  rw[if_pos h6,if_pos h6]
  cases fxE p f.O (stS p f) x with
  |none=>exact⟨rfl,rfl⟩
  |some g=>rw[if_neg (by simp)];exact⟨rfl,rfl⟩
 ·
  rw[if_neg h6,if_neg h6];exact⟨rfl,rfl⟩
def Lk (n:Nat) (hold:Int) (s:WS) (h:Hl):Prop:=stateF h n hold=some s/\likeH (s.held n) h
theorem Lk.idle {n:Nat}{hold:Int}:Lk n hold .idle (idH n):=⟨by simp[stateF,idH],likeH.refl _⟩
theorem Lk.tick {n:Nat}{hold:Int}{s:WS}{h:Hl}(k:Lk n hold s h):Lk n hold (tickS s) (tkH h):=by
 obtain⟨k1,k2⟩:=k
 obtain⟨hn,hc⟩:=stateF_cases k1
 rcases hc with⟨e,rfl⟩|⟨e,rfl⟩|⟨e,rfl⟩|⟨e,rfl,t1,t2⟩|⟨e,rfl,_⟩
 ·
  rw[tkH,if_pos (by omega)];exact⟨k1,k2⟩
 ·
  rw[tkH,if_pos (by omega)];exact⟨k1,k2⟩
 ·
  rw[tkH,if_pos (by omega)];exact⟨k1,k2⟩
 ·
  rw[tkH,if_neg (by omega)]
  show Lk n hold (tickW h.timer) _
  by_cases c:h.timer=1
  ·
   rw[tickW,if_pos c,if_pos (by omega),hn]
   exact Lk.idle
  ·
   rw[tickW,if_neg c,if_neg (by omega)]
   refine⟨by simp[stateF,hn,e,inB];omega,?_⟩
   obtain⟨a1,a2,a3,a4,a5,a6⟩:=k2
   exact⟨a1,a2,a3,a4,a5,rfl⟩
 ·
  rw[tkH,if_pos (by omega)];exact⟨k1,k2⟩
theorem Lk.back {p:Pl}{f:Fm}{x:Nat}{hold:Int}{s:WS}(hp:p.hold=hold) (h1:1<=hold) (hn:(f.Y x).nb=(p.Y x).ns) (k:Lk (p.Y x).ns hold s (f.Y x)):Lk (p.Y x).ns hold (bkT p.hold (bkN p f.O x) s) (bkY p f x x):=by
 obtain⟨k1,k2⟩:=k
 obtain⟨_,hc⟩:=stateF_cases k1
 obtain⟨a1,a2,a3,a4,a5,a6⟩:=k2
 have htk:∀sh:Bool,(f.Y x).shown=sh->(sh=true)->(WS.held (p.Y x).ns s).gone=0->(∀j,(WS.held (p.Y x).ns s).B j=false)->Lk (p.Y x).ns hold (.taking p.hold) (tmY (stY f.Y x 3) x p.hold x):=fun sh e1 e2 e3 e4=>by
  have e5:tmY (stY f.Y x 3) x p.hold x=⟨3,(f.Y x).gone,(f.Y x).nb,(f.Y x).B,(f.Y x).shown,p.hold⟩:=by simp[tmY,stY]
  rw[e5]
  refine⟨by simp[stateF,hn,inB];omega,rfl,by rw[←a2,e3];rfl,hn.symm,fun j hj=>?_,by rw[e1,e2];rfl,rfl⟩
  rw[←a4 j (by rw[a3,hn];exact hj),e4]
  rfl
 rcases hc with⟨e,rfl⟩|⟨e,rfl⟩|⟨e,rfl⟩|⟨e,rfl,_⟩|⟨e,rfl,_⟩
 ·
  rw[bkY,if_pos (by omega)];exact⟨k1,a1,a2,a3,a4,a5,a6⟩
 ·
  rw[bkY,if_neg (by omega)]
  simp only[bkT]
  cases hs:(f.Y x).shown with
  |false=>rw[Bool.false_and,Bool.and_false,if_neg Bool.false_ne_true,if_neg Bool.false_ne_true,updN_same,hn];exact Lk.idle
  |true=>
   rw[Bool.true_and,Bool.and_true]
   by_cases c:bkN p f.O x=true
   ·
    rw[if_pos c,if_pos c];exact htk true hs rfl rfl fun _=>rfl
   ·
    rw[if_neg c,if_neg c,updN_same,hn];exact Lk.idle
 ·
  have hs:(f.Y x).shown=true:=a5.symm
  rw[bkY,if_neg (by omega),hs,Bool.and_true]
  simp only[bkT]
  by_cases c:bkN p f.O x=true
  ·
   rw[if_pos c,if_pos c];exact htk true hs rfl rfl fun _=>rfl
  ·
   rw[if_neg c,if_neg c,updN_same,hn];exact Lk.idle
 ·
  rw[bkY,if_pos (by omega)];exact⟨k1,a1,a2,a3,a4,a5,a6⟩
 ·
  rw[bkY,if_pos (by omega)];exact⟨k1,a1,a2,a3,a4,a5,a6⟩
theorem bkY_ne (p:Pl) (f:Fm) {x i:Nat}(h:i≠x):bkY p f x i=f.Y i:=by
 unfold bkY
 split
 ·
  rfl
 ·
  split
  ·
   simp[tmY,stY,h]
  ·
   exact updN_ne h
end Go.Proofs.YtkeilejbelblcaaGreatDoor
