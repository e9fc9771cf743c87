import Derived.Test.YtkeilejbelblcaaGreatDoorJbv
import Derived.Test.YtkeilejbelblcaaGreatDoorJbw
import Derived.Test.YtkeilejbelblcaaGreatDoorJac
import Derived.Test.YtkeilejbelblcaaGreatDoorJbx
import Derived.Test.YtkeilejbelblcaaGreatDoorJab
import Derived.Test.YtkeilejbelblcaaGreatDoorJar
namespace Go.Proofs.YtkeilejbelblcaaGreatDoor
open Go.RowKit Go.Lib
def kFb (B:Nat) (f:Fm) (ov pv hv:Value) (r:Nat->Nat):Kp:=⟨fun W=>FmOwn B W f ov pv hv r,fun h hb=>h.mono nr hb nr⟩
def kPw (C E:Nat) (p:Pl) (wb yb bb:Nat) (rr:Nat->Nat):Kp:=⟨fun W=>PlW C E W p wb yb bb rr,fun h hb=>h.mk' (Mk.of_below hb)⟩
theorem gFb {B:Nat}{f:Fm}{ov pv hv:Value}{r:Nat->Nat}{W:World}(h:(kFb B f ov pv hv r).p W):FmOwn B W f ov pv hv r:=h
theorem gPw {C E:Nat}{p:Pl}{wb yb bb:Nat}{rr:Nat->Nat}{W:World}(h:(kPw C E p wb yb bb rr).p W):PlW C E W p wb yb bb rr:=h
theorem FmOwn.frl {B:Nat}{w w':World}{f:Fm}{ov pv hv:Value}{r:Nat->Nat}{X:Nat->Prop}(h:FmOwn B w f ov pv hv r) (hf:Fr X w w') (hX:∀b,B<=b->¬X b):FmOwn B w' f ov pv hv r:=
 ⟨h.o.fr hf fun g e=>hX g (h.o.lt e).1,h.p.fr hf fun g e=>hX g (h.p.lt e).1,⟨h.h.own.fr hf fun g e=>hX g (h.h.own.lt e).1,fun i hi=>⟨(h.h.row i hi).1.fr hf fun g e=>by have e:=own_block e;subst e;exact hX _ (h.h.row i hi).2,(h.h.row i hi).2⟩,h.h.inj⟩,h.ne⟩
set_option maxRecDepth 100000 in
set_option maxHeartbeats 64000000 in
theorem law4 (p:Pl) (f:Fm) (wa ya ba:Option Addr) (wk yc bc:Nat) (oa pa ha:Option Addr) (oc pc hc:Nat) (A:Nat->Addr) (op o lie:Int) (w:World) (hpf:p.fits) (hff:f.fits) (hP:PlIn 0 w p wa ya ba) (hF:FmIn 0 w f oa pa ha) (hS:Sn w 7 A):
  Calls Tryz.prog 4 #[.agg #[.int .i64 p.sec,.slice wa p.nw wk,.slice ya p.ny yc,.slice ba p.nb bc,.int .i64 p.hold],.agg #[.bool f.ok,.slice oa f.no oc,.slice pa f.np pc,.slice ha f.nh hc],.agg #[.int .i64 op,.int .i64 o,.int .i64 lie]] w fun e w'=>e=.returned (.bool true)/\Below w.heap.size w w':=by
 have H:Hid (PlIn 0 w p wa ya ba/\FmIn 0 w f oa pa ha/\Sn w 7 A):=⟨hP,hF,hS⟩
 obtain⟨V0,hV,S0⟩:=st3 w 26 (vPl p wa wk ya yc ba bc) 31 (vFr f oa oc pa pc ha hc) 48 (vEv op o lie)
 clear hP hF hS
 go_enter Tryz.func4,Tryz.ntmps4
 go_upto_region 2 with fail
 clear hV
 obtain⟨a0,a1,a2,a3,a4⟩:=(gB S0.out.2.2.1).c5
 go_wp2_with fail
 clear a0 a1 a2 a3 a4
 refine(szPlan p wa ya ba wk yc bc 1048576 V0 hpf (by omega) (by omega) (H.out.1.mono nr (gL S0.out.2.2.2.1) nr)).mono ?_
 rintro e w1 ⟨r,rfl,hr1,hr2,hb⟩
 have S1:=stm S0 hb
 clear hb S0
 by_cases hneg:r<0
 ·
  clear hr2
  go_wp2_with fail
  go_ret
  exact⟨rfl,(gL S1.out.2.2.2.1)⟩
 have HS:Hid p.small:=hr2 (by omega)
 clear hr2
 obtain⟨a0,a1,a2,a3⟩:=(gB S1.out.2.1).c4
 go_wp2_with fail
 clear a0 a1 a2 a3
 refine(szFrame f oa pa ha oc pc hc r w1 hff (by omega) (by omega) (H.out.2.1.mono nr (gL S1.out.2.2.2.1) nr)).mono ?_
 rintro e w2 ⟨r2,rfl,hr3,hr4,hb⟩
 have S2:=stm S1 hb
 clear hb S1
 by_cases hneg2:r2<0
 ·
  clear hr4
  go_wp2_with fail
  go_ret
  exact⟨rfl,(gL S2.out.2.2.2.1)⟩
 have HFS:Hid f.small:=hr4 (by omega)
 clear hr4
 have HTP:Hid (∀W,Below w.heap.size w W->Calls Tryz.prog 9 #[.agg #[.int .i64 p.sec,.slice wa p.nw wk,.slice ya p.ny yc,.slice ba p.nb bc,.int .i64 p.hold]] W fun e w'=>∃wb yb bb lo r,e=.returned (.agg #[.int .i64 p.sec,.slice (some (ad wb 0)) p.nw p.nw,.slice (some (ad yb 0)) p.ny p.ny,.slice (some (ad bb 0)) p.nb p.nb,.int .i64 p.hold])/\PlOwn W.heap.size w' p wb yb bb lo r/\Below W.heap.size W w'):=fun W hB=>toPlan p wa ya ba wk yc bc W HS.out (H.out.1.mono nr hB nr)
 have HTF:Hid (∀W,Below w.heap.size w W->Calls Tryz.prog 10 #[.agg #[.bool f.ok,.slice oa f.no oc,.slice pa f.np pc,.slice ha f.nh hc]] W fun e w'=>TfR W f e w'):=fun W hB=>toFrame10 f oa pa ha oc pc hc W HFS.out (H.out.2.1.mono nr hB nr)
 have HSN:Hid (∀W,Below w.heap.size w W->Sn W 7 A):=fun W hB=>H.out.2.2.mono hB nr
 obtain⟨X,c,HXS,HSP,HDO⟩:=both_do p f op o lie A HS.out HFS.out
 go_upto_region 8 with fail
 go_cut [8] from 16 (fun s8 wx=>∃(tb:Nat) (s1 s2 s3:Option Addr) (sc1 sc2 sc3:Nat),s8=.pointer (some (ad tb 0))/\Hid (Sts [kBx (tb) 50 (vAn c X s1 sc1 s2 sc2 s3 sc3),kBx (w.heap.size+1+1) 48 (vEv op o lie),kBx (w.heap.size+1) 31 (vFr f oa oc pa pc ha hc),kBx (w.heap.size) 26 (vPl p wa wk ya yc ba bc),kBn w.heap.size w] wx)/\Hid (FmIn 0 wx X s1 s2 s3))
 case first =>
  obtain⟨a0,a1,a2,a3,a4⟩:=(gB S2.out.2.2.1).c5
  obtain⟨b0,b1,b2,b3⟩:=(gB S2.out.2.1).c4
  obtain⟨c0,c1,c2⟩:=(gB S2.out.1).c3
  go_wp2_with fail
  refine wp_region_held_drew (S:=(fun wx:World=>wx.cell? (ad w.heap.size 0)=some (.int .i64 p.sec)/\wx.cell? (ad w.heap.size 1)=some (.slice wa p.nw wk)/\wx.cell? (ad w.heap.size 2)=some (.slice ya p.ny yc)/\wx.cell? (ad w.heap.size 3)=some (.slice ba p.nb bc)/\wx.cell? (ad w.heap.size 4)=some (.int .i64 p.hold)/\wx.cell? (ad (w.heap.size+1) 0)=some (.bool f.ok)/\wx.cell? (ad (w.heap.size+1) 1)=some (.slice oa f.no oc)/\wx.cell? (ad (w.heap.size+1) 2)=some (.slice pa f.np pc)/\wx.cell? (ad (w.heap.size+1) 3)=some (.slice ha f.nh hc)/\wx.cell? (ad (w.heap.size+1+1) 0)=some (.int .i64 op)/\wx.cell? (ad (w.heap.size+1+1) 1)=some (.int .i64 o)/\wx.cell? (ad (w.heap.size+1+1) 2)=some (.int .i64 lie))) (by kernel_rfl) ?_ (fun hHeld=>?_)
  ·
   exact⟨a0,a1,a2,a3,a4,b0,b1,b2,b3,c0,c1,c2⟩
  have MD1:=std S2
  clear a0 a1 a2 a3 a4 b0 b1 b2 b3 c0 c1 c2 S2
  generalize w2.drew=VD at MD1 hHeld⊢
  refine tk 0 ?_
  refine tk 2 ?_
  refine tk 4 ?_
  refine rl2 (i:=1) (j:=7) (by kernel_rfl) rfl rfl (fun K hK=>?_) (fun K hK=>?_)
  ·
   go_simp
   refine(HTP.out _ (gL MD1.out.2.2.2.1)).mono ?_
   rintro e wh2 ⟨wbx,ybx,bbx,lox,rrx,rfl,ho,hb⟩
   have MA3:=stx (k:=kPl p wbx ybx bbx lox rrx) (stm MD1 hb) (ho.mono (Nat.zero_le _) (Below.refl _ _) nr)
   clear hb ho MD1
   go_wp2_with fail
   refine hK.out _ _ ?_ (fun hHeld=>?_)
   ·
    exact d543 (gB MA3.out.2.2.2.1) (gB MA3.out.2.2.1) (gB MA3.out.2.1)
   clear hK K
   refine rl2 (i:=3) (j:=7) (by kernel_rfl) rfl rfl (fun K hK=>?_) (fun K hK=>?_)
   ·
    go_simp
    refine(HTF.out _ (gL MA3.out.2.2.2.2.1)).mono ?_
    rintro e wh4 ⟨obx,pbx,hbx,rx,rfl,ho,hb⟩
    have MA5:=stx (k:=kFo f (.slice (some (ad obx 0)) f.no f.no) (.slice (some (ad pbx 0)) f.np f.np) (.slice (some (ad hbx 0)) f.nh f.nh) rx) (stm MA3 hb) (ho.mono (Nat.zero_le _) (Below.refl _ _) nr)
    clear hb ho MA3
    go_wp2_with fail
    refine hK.out _ _ ?_ (fun hHeld=>?_)
    ·
     exact d543 (gB MA5.out.2.2.2.2.1) (gB MA5.out.2.2.2.1) (gB MA5.out.2.2.1)
    clear hK K
    refine rl2 (i:=5) (j:=7) (by kernel_rfl) rfl rfl (fun K hK=>?_) (fun K hK=>?_)
    ·
     go_simp
     refine(toEv19 op o lie _).mono ?_
     rintro e wh6 ⟨rfl,hb⟩
     have MA7:=stm MA5 hb
     clear hb MA5
     go_wp2_with fail
     refine hK.out _ _ ?_ (fun hHeld=>?_)
     ·
      exact d543 (gB MA7.out.2.2.2.2.1) (gB MA7.out.2.2.2.1) (gB MA7.out.2.2.1)
     clear hK K
     refine rl2 (i:=6) (j:=7) (by kernel_rfl) rfl rfl (fun K hK=>?_) (fun K hK=>?_)
     ·
      go_simp
      refine(HSP.out _ _ _ _ _ _ _ _ _ _ (gPl MA7.out.2.1) (gFo MA7.out.1)).mono ?_
      rintro e wh8 ⟨s1,s2,s3,sc1,sc2,sc3,rfl,hfi,hb⟩
      have HFI:Hid (FmIn wh6.heap.size wh8 X s1 s2 s3):=hfi
      have MA9:Hid (Sts [kWd wh6.heap.size wh8,kBx (w.heap.size+1+1) 48 (vEv op o lie),kBx (w.heap.size+1) 31 (vFr f oa oc pa pc ha hc),kBx (w.heap.size) 26 (vPl p wa wk ya yc ba bc),kBn w.heap.size w] wh8):=⟨⟨Nat.le_refl _,fun _ _ _=>rfl⟩,(gB MA7.out.2.2.1).mono hb nr,(gB MA7.out.2.2.2.1).mono hb nr,(gB MA7.out.2.2.2.2.1).mono hb nr,⟨(gL MA7.out.2.2.2.2.2.1).trans (hb.mono (gL MA7.out.2.2.2.2.2.1).size),rfl⟩,trivial⟩
      clear hfi hb MA7
      go_wp2_with fail
      refine hK.out _ _ ?_ (fun hHeld=>?_)
      ·
       exact d543 (gB MA9.out.2.2.2.1) (gB MA9.out.2.2.1) (gB MA9.out.2.1)
      clear hK K
      refine rl 7 fun K hK=>?_
      have MA11:=stx (k:=kBx (wh8.heap.size) 50 z5v) (sta MA9 (.cells z5v 50)) (Box.new _ _ _)
      have HL12:Hid (w.heap.size<=wh8.heap.size):=(gL MA9.out.2.2.2.2.1).size
      have HQ9:Hid (OffQ wh6.heap.size wh8 wh8.heap.size):=.inr (gWd MA9.out.1).1
      clear MA9
      go_simp
      refine hK.out _ _ ?_ (fun hHeld=>?_)
      ·
       exact d543 (gB MA11.out.2.2.2.2.1) (gB MA11.out.2.2.2.1) (gB MA11.out.2.2.1)
      clear hK K
      clear hHeld
      generalize wh8.alloc (.cells z5v 50)=V10 at MA11⊢
      generalize wh8.heap.size=tb at HQ9 MA11 HL12⊢
      refine rl 8 fun K hK=>?_
      refine step_row rfl 50 _ _ rfl tb #[.int .i64 c,.bool X.ok,.slice s1 X.no sc1,.slice s2 X.np sc2,.slice s3 X.nh sc3] rfl rfl 50 _ (gB MA11.out.1) (by kernel_rfl) rfl (by kernel_rfl) ?_
      intro W13 hB9 hF9
      have MA14:Hid (Sts [kBx (tb) 50 (vAn c X s1 sc1 s2 sc2 s3 sc3),kWd wh6.heap.size wh8,kBx (w.heap.size+1+1) 48 (vEv op o lie),kBx (w.heap.size+1) 31 (vFr f oa oc pa pc ha hc),kBx (w.heap.size) 26 (vPl p wa wk ya yc ba bc),kBn w.heap.size w] W13):=⟨hB9,kWd.put (gWd MA11.out.2.1) HQ9.out hF9,bxf (gB MA11.out.2.2.1) (gB MA11.out.1) hF9,bxf (gB MA11.out.2.2.2.1) (gB MA11.out.1) hF9,bxf (gB MA11.out.2.2.2.2.1) (gB MA11.out.1) hF9,⟨blf MA11.out.2.2.2.2.2.1 HL12.out hF9,rfl⟩,trivial⟩
      clear hB9 hF9 MA11
      simp only[Act.put]
      refine hK.out _ _ ?_ (fun hHeld=>?_)
      ·
       exact d543 (gB MA14.out.2.2.2.2.1) (gB MA14.out.2.2.2.1) (gB MA14.out.2.2.1)
      clear hK K
      refine wpAnyH_done (by kernel_rfl) ?_ _
      clear hHeld
      go_wp2_with fail
      go_meet
      case rel=>exact⟨tb,s1,s2,s3,sc1,sc2,sc3,rfl,⟨(gB MA14.out.1),(gB MA14.out.2.2.1),(gB MA14.out.2.2.2.1),(gB MA14.out.2.2.2.2.1),⟨(gL MA14.out.2.2.2.2.2.1),rfl⟩,trivial⟩,HFI.out.wd (gWd MA14.out.2.1)⟩
     ·
      have MA16:=stx (k:=kBx (wh6.heap.size) 50 z5v) (sta MA7 (.cells z5v 50)) (Box.new _ _ _)
      have HL17:Hid (w.heap.size<=wh6.heap.size):=(gL MA7.out.2.2.2.2.2.1).size
      clear MA7
      go_simp
      refine hK.out _ _ ?_ (fun hHeld=>?_)
      ·
       exact d543 (gB MA16.out.2.2.2.2.2.1) (gB MA16.out.2.2.2.2.1) (gB MA16.out.2.2.2.1)
      clear hK K
      clear hHeld
      generalize wh6.alloc (.cells z5v 50)=V15 at MA16⊢
      generalize wh6.heap.size=tb at MA16 HL17⊢
      refine rl 6 fun K hK=>?_
      go_simp
      refine(HSP.out _ _ _ _ _ _ _ _ _ _ (gPl MA16.out.2.2.1) (gFo MA16.out.2.1)).mono ?_
      rintro e wh18 ⟨s1,s2,s3,sc1,sc2,sc3,rfl,hfi,hb⟩
      have HFI:Hid (FmIn V15.heap.size wh18 X s1 s2 s3):=hfi
      have HQ9:Hid (OffQ V15.heap.size wh18 tb):=.inl (gB MA16.out.1).lt
      have MA19:Hid (Sts [kWd V15.heap.size wh18,kBx (tb) 50 z5v,kBx (w.heap.size+1+1) 48 (vEv op o lie),kBx (w.heap.size+1) 31 (vFr f oa oc pa pc ha hc),kBx (w.heap.size) 26 (vPl p wa wk ya yc ba bc),kBn w.heap.size w] wh18):=⟨⟨Nat.le_refl _,fun _ _ _=>rfl⟩,(gB MA16.out.1).mono hb nr,(gB MA16.out.2.2.2.1).mono hb nr,(gB MA16.out.2.2.2.2.1).mono hb nr,(gB MA16.out.2.2.2.2.2.1).mono hb nr,⟨(gL MA16.out.2.2.2.2.2.2.1).trans (hb.mono (gL MA16.out.2.2.2.2.2.2.1).size),rfl⟩,trivial⟩
      clear hfi hb MA16
      go_wp2_with fail
      refine hK.out _ _ ?_ (fun hHeld=>?_)
      ·
       exact d543 (gB MA19.out.2.2.2.2.1) (gB MA19.out.2.2.2.1) (gB MA19.out.2.2.1)
      clear hK K
      refine rl 8 fun K hK=>?_
      refine step_row rfl 50 _ _ rfl tb #[.int .i64 c,.bool X.ok,.slice s1 X.no sc1,.slice s2 X.np sc2,.slice s3 X.nh sc3] rfl rfl 50 _ (gB MA19.out.2.1) (by kernel_rfl) rfl (by kernel_rfl) ?_
      intro W20 hB9 hF9
      have MA21:Hid (Sts [kWd V15.heap.size wh18,kBx (tb) 50 (vAn c X s1 sc1 s2 sc2 s3 sc3),kBx (w.heap.size+1+1) 48 (vEv op o lie),kBx (w.heap.size+1) 31 (vFr f oa oc pa pc ha hc),kBx (w.heap.size) 26 (vPl p wa wk ya yc ba bc),kBn w.heap.size w] W20):=⟨kWd.put (gWd MA19.out.1) HQ9.out hF9,hB9,bxf (gB MA19.out.2.2.1) (gB MA19.out.2.1) hF9,bxf (gB MA19.out.2.2.2.1) (gB MA19.out.2.1) hF9,bxf (gB MA19.out.2.2.2.2.1) (gB MA19.out.2.1) hF9,⟨blf MA19.out.2.2.2.2.2.1 HL17.out hF9,rfl⟩,trivial⟩
      clear hB9 hF9 MA19
      simp only[Act.put]
      refine hK.out _ _ ?_ (fun hHeld=>?_)
      ·
       exact d543 (gB MA21.out.2.2.2.2.1) (gB MA21.out.2.2.2.1) (gB MA21.out.2.2.1)
      clear hK K
      refine wpAnyH_done (by kernel_rfl) ?_ _
      clear hHeld
      go_wp2_with fail
      go_meet
      case rel=>exact⟨tb,s1,s2,s3,sc1,sc2,sc3,rfl,⟨(gB MA21.out.2.1),(gB MA21.out.2.2.1),(gB MA21.out.2.2.2.1),(gB MA21.out.2.2.2.2.1),⟨(gL MA21.out.2.2.2.2.2.1),rfl⟩,trivial⟩,HFI.out.wd (gWd MA21.out.1)⟩
    ·
     have MA23:=stx (k:=kBx (wh4.heap.size) 50 z5v) (sta MA5 (.cells z5v 50)) (Box.new _ _ _)
     have HL24:Hid (w.heap.size<=wh4.heap.size):=(gL MA5.out.2.2.2.2.2.1).size
     clear MA5
     go_simp
     refine hK.out _ _ ?_ (fun hHeld=>?_)
     ·
      exact d543 (gB MA23.out.2.2.2.2.2.1) (gB MA23.out.2.2.2.2.1) (gB MA23.out.2.2.2.1)
     clear hK K
     clear hHeld
     generalize wh4.alloc (.cells z5v 50)=V22 at MA23⊢
     generalize wh4.heap.size=tb at MA23 HL24⊢
     refine rl 5 fun K hK=>?_
     go_simp
     refine(toEv19 op o lie _).mono ?_
     rintro e wh25 ⟨rfl,hb⟩
     have MA26:=stm MA23 hb
     clear hb MA23
     go_wp2_with fail
     refine hK.out _ _ ?_ (fun hHeld=>?_)
     ·
      exact d543 (gB MA26.out.2.2.2.2.2.1) (gB MA26.out.2.2.2.2.1) (gB MA26.out.2.2.2.1)
     clear hK K
     refine rl 6 fun K hK=>?_
     go_simp
     refine(HSP.out _ _ _ _ _ _ _ _ _ _ (gPl MA26.out.2.2.1) (gFo MA26.out.2.1)).mono ?_
     rintro e wh27 ⟨s1,s2,s3,sc1,sc2,sc3,rfl,hfi,hb⟩
     have HFI:Hid (FmIn wh25.heap.size wh27 X s1 s2 s3):=hfi
     have HQ9:Hid (OffQ wh25.heap.size wh27 tb):=.inl (gB MA26.out.1).lt
     have MA28:Hid (Sts [kWd wh25.heap.size wh27,kBx (tb) 50 z5v,kBx (w.heap.size+1+1) 48 (vEv op o lie),kBx (w.heap.size+1) 31 (vFr f oa oc pa pc ha hc),kBx (w.heap.size) 26 (vPl p wa wk ya yc ba bc),kBn w.heap.size w] wh27):=⟨⟨Nat.le_refl _,fun _ _ _=>rfl⟩,(gB MA26.out.1).mono hb nr,(gB MA26.out.2.2.2.1).mono hb nr,(gB MA26.out.2.2.2.2.1).mono hb nr,(gB MA26.out.2.2.2.2.2.1).mono hb nr,⟨(gL MA26.out.2.2.2.2.2.2.1).trans (hb.mono (gL MA26.out.2.2.2.2.2.2.1).size),rfl⟩,trivial⟩
     clear hfi hb MA26
     go_wp2_with fail
     refine hK.out _ _ ?_ (fun hHeld=>?_)
     ·
      exact d543 (gB MA28.out.2.2.2.2.1) (gB MA28.out.2.2.2.1) (gB MA28.out.2.2.1)
     clear hK K
     refine rl 8 fun K hK=>?_
     refine step_row rfl 50 _ _ rfl tb #[.int .i64 c,.bool X.ok,.slice s1 X.no sc1,.slice s2 X.np sc2,.slice s3 X.nh sc3] rfl rfl 50 _ (gB MA28.out.2.1) (by kernel_rfl) rfl (by kernel_rfl) ?_
     intro W29 hB9 hF9
     have MA30:Hid (Sts [kWd wh25.heap.size wh27,kBx (tb) 50 (vAn c X s1 sc1 s2 sc2 s3 sc3),kBx (w.heap.size+1+1) 48 (vEv op o lie),kBx (w.heap.size+1) 31 (vFr f oa oc pa pc ha hc),kBx (w.heap.size) 26 (vPl p wa wk ya yc ba bc),kBn w.heap.size w] W29):=⟨kWd.put (gWd MA28.out.1) HQ9.out hF9,hB9,bxf (gB MA28.out.2.2.1) (gB MA28.out.2.1) hF9,bxf (gB MA28.out.2.2.2.1) (gB MA28.out.2.1) hF9,bxf (gB MA28.out.2.2.2.2.1) (gB MA28.out.2.1) hF9,⟨blf MA28.out.2.2.2.2.2.1 HL24.out hF9,rfl⟩,trivial⟩
     clear hB9 hF9 MA28
     simp only[Act.put]
     refine hK.out _ _ ?_ (fun hHeld=>?_)
     ·
      exact d543 (gB MA30.out.2.2.2.2.1) (gB MA30.out.2.2.2.1) (gB MA30.out.2.2.1)
     clear hK K
     refine wpAnyH_done (by kernel_rfl) ?_ _
     clear hHeld
     go_wp2_with fail
     go_meet
     case rel=>exact⟨tb,s1,s2,s3,sc1,sc2,sc3,rfl,⟨(gB MA30.out.2.1),(gB MA30.out.2.2.1),(gB MA30.out.2.2.2.1),(gB MA30.out.2.2.2.2.1),⟨(gL MA30.out.2.2.2.2.2.1),rfl⟩,trivial⟩,HFI.out.wd (gWd MA30.out.1)⟩
   ·
    have MA32:=stx (k:=kBx (wh2.heap.size) 50 z5v) (sta MA3 (.cells z5v 50)) (Box.new _ _ _)
    have HL33:Hid (w.heap.size<=wh2.heap.size):=(gL MA3.out.2.2.2.2.1).size
    clear MA3
    go_simp
    refine hK.out _ _ ?_ (fun hHeld=>?_)
    ·
     exact d543 (gB MA32.out.2.2.2.2.1) (gB MA32.out.2.2.2.1) (gB MA32.out.2.2.1)
    clear hK K
    clear hHeld
    generalize wh2.alloc (.cells z5v 50)=V31 at MA32⊢
    generalize wh2.heap.size=tb at MA32 HL33⊢
    refine rl 3 fun K hK=>?_
    go_simp
    refine(HTF.out _ (gL MA32.out.2.2.2.2.2.1)).mono ?_
    rintro e wh34 ⟨obx,pbx,hbx,rx,rfl,ho,hb⟩
    have MA35:=stx (k:=kFo f (.slice (some (ad obx 0)) f.no f.no) (.slice (some (ad pbx 0)) f.np f.np) (.slice (some (ad hbx 0)) f.nh f.nh) rx) (stm MA32 hb) (ho.mono (Nat.zero_le _) (Below.refl _ _) nr)
    clear hb ho MA32
    go_wp2_with fail
    refine hK.out _ _ ?_ (fun hHeld=>?_)
    ·
     exact d543 (gB MA35.out.2.2.2.2.2.1) (gB MA35.out.2.2.2.2.1) (gB MA35.out.2.2.2.1)
    clear hK K
    refine rl 5 fun K hK=>?_
    go_simp
    refine(toEv19 op o lie _).mono ?_
    rintro e wh36 ⟨rfl,hb⟩
    have MA37:=stm MA35 hb
    clear hb MA35
    go_wp2_with fail
    refine hK.out _ _ ?_ (fun hHeld=>?_)
    ·
     exact d543 (gB MA37.out.2.2.2.2.2.1) (gB MA37.out.2.2.2.2.1) (gB MA37.out.2.2.2.1)
    clear hK K
    refine rl 6 fun K hK=>?_
    go_simp
    refine(HSP.out _ _ _ _ _ _ _ _ _ _ (gPl MA37.out.2.2.1) (gFo MA37.out.1)).mono ?_
    rintro e wh38 ⟨s1,s2,s3,sc1,sc2,sc3,rfl,hfi,hb⟩
    have HFI:Hid (FmIn wh36.heap.size wh38 X s1 s2 s3):=hfi
    have HQ9:Hid (OffQ wh36.heap.size wh38 tb):=.inl (gB MA37.out.2.1).lt
    have MA39:Hid (Sts [kWd wh36.heap.size wh38,kBx (tb) 50 z5v,kBx (w.heap.size+1+1) 48 (vEv op o lie),kBx (w.heap.size+1) 31 (vFr f oa oc pa pc ha hc),kBx (w.heap.size) 26 (vPl p wa wk ya yc ba bc),kBn w.heap.size w] wh38):=⟨⟨Nat.le_refl _,fun _ _ _=>rfl⟩,(gB MA37.out.2.1).mono hb nr,(gB MA37.out.2.2.2.1).mono hb nr,(gB MA37.out.2.2.2.2.1).mono hb nr,(gB MA37.out.2.2.2.2.2.1).mono hb nr,⟨(gL MA37.out.2.2.2.2.2.2.1).trans (hb.mono (gL MA37.out.2.2.2.2.2.2.1).size),rfl⟩,trivial⟩
    clear hfi hb MA37
    go_wp2_with fail
    refine hK.out _ _ ?_ (fun hHeld=>?_)
    ·
     exact d543 (gB MA39.out.2.2.2.2.1) (gB MA39.out.2.2.2.1) (gB MA39.out.2.2.1)
    clear hK K
    refine rl 8 fun K hK=>?_
    refine step_row rfl 50 _ _ rfl tb #[.int .i64 c,.bool X.ok,.slice s1 X.no sc1,.slice s2 X.np sc2,.slice s3 X.nh sc3] rfl rfl 50 _ (gB MA39.out.2.1) (by kernel_rfl) rfl (by kernel_rfl) ?_
    intro W40 hB9 hF9
    have MA41:Hid (Sts [kWd wh36.heap.size wh38,kBx (tb) 50 (vAn c X s1 sc1 s2 sc2 s3 sc3),kBx (w.heap.size+1+1) 48 (vEv op o lie),kBx (w.heap.size+1) 31 (vFr f oa oc pa pc ha hc),kBx (w.heap.size) 26 (vPl p wa wk ya yc ba bc),kBn w.heap.size w] W40):=⟨kWd.put (gWd MA39.out.1) HQ9.out hF9,hB9,bxf (gB MA39.out.2.2.1) (gB MA39.out.2.1) hF9,bxf (gB MA39.out.2.2.2.1) (gB MA39.out.2.1) hF9,bxf (gB MA39.out.2.2.2.2.1) (gB MA39.out.2.1) hF9,⟨blf MA39.out.2.2.2.2.2.1 HL33.out hF9,rfl⟩,trivial⟩
    clear hB9 hF9 MA39
    simp only[Act.put]
    refine hK.out _ _ ?_ (fun hHeld=>?_)
    ·
     exact d543 (gB MA41.out.2.2.2.2.1) (gB MA41.out.2.2.2.1) (gB MA41.out.2.2.1)
    clear hK K
    refine wpAnyH_done (by kernel_rfl) ?_ _
    clear hHeld
    go_wp2_with fail
    go_meet
    case rel=>exact⟨tb,s1,s2,s3,sc1,sc2,sc3,rfl,⟨(gB MA41.out.2.1),(gB MA41.out.2.2.1),(gB MA41.out.2.2.2.1),(gB MA41.out.2.2.2.2.1),⟨(gL MA41.out.2.2.2.2.2.1),rfl⟩,trivial⟩,HFI.out.wd (gWd MA41.out.1)⟩
  ·
   have MA43:=stx (k:=kBx (VD.heap.size) 50 z5v) (sta MD1 (.cells z5v 50)) (Box.new _ _ _)
   have HL44:Hid (w.heap.size<=VD.heap.size):=(gL MD1.out.2.2.2.1).size
   clear MD1
   go_simp
   refine hK.out _ _ ?_ (fun hHeld=>?_)
   ·
    exact d543 (gB MA43.out.2.2.2.1) (gB MA43.out.2.2.1) (gB MA43.out.2.1)
   clear hK K
   clear hHeld
   generalize VD.alloc (.cells z5v 50)=V42 at MA43⊢
   generalize VD.heap.size=tb at MA43 HL44⊢
   refine rl 1 fun K hK=>?_
   go_simp
   refine(HTP.out _ (gL MA43.out.2.2.2.2.1)).mono ?_
   rintro e wh45 ⟨wbx,ybx,bbx,lox,rrx,rfl,ho,hb⟩
   have MA46:=stx (k:=kPl p wbx ybx bbx lox rrx) (stm MA43 hb) (ho.mono (Nat.zero_le _) (Below.refl _ _) nr)
   clear hb ho MA43
   go_wp2_with fail
   refine hK.out _ _ ?_ (fun hHeld=>?_)
   ·
    exact d543 (gB MA46.out.2.2.2.2.1) (gB MA46.out.2.2.2.1) (gB MA46.out.2.2.1)
   clear hK K
   refine rl 3 fun K hK=>?_
   go_simp
   refine(HTF.out _ (gL MA46.out.2.2.2.2.2.1)).mono ?_
   rintro e wh47 ⟨obx,pbx,hbx,rx,rfl,ho,hb⟩
   have MA48:=stx (k:=kFo f (.slice (some (ad obx 0)) f.no f.no) (.slice (some (ad pbx 0)) f.np f.np) (.slice (some (ad hbx 0)) f.nh f.nh) rx) (stm MA46 hb) (ho.mono (Nat.zero_le _) (Below.refl _ _) nr)
   clear hb ho MA46
   go_wp2_with fail
   refine hK.out _ _ ?_ (fun hHeld=>?_)
   ·
    exact d543 (gB MA48.out.2.2.2.2.2.1) (gB MA48.out.2.2.2.2.1) (gB MA48.out.2.2.2.1)
   clear hK K
   refine rl 5 fun K hK=>?_
   go_simp
   refine(toEv19 op o lie _).mono ?_
   rintro e wh49 ⟨rfl,hb⟩
   have MA50:=stm MA48 hb
   clear hb MA48
   go_wp2_with fail
   refine hK.out _ _ ?_ (fun hHeld=>?_)
   ·
    exact d543 (gB MA50.out.2.2.2.2.2.1) (gB MA50.out.2.2.2.2.1) (gB MA50.out.2.2.2.1)
   clear hK K
   refine rl 6 fun K hK=>?_
   go_simp
   refine(HSP.out _ _ _ _ _ _ _ _ _ _ (gPl MA50.out.2.1) (gFo MA50.out.1)).mono ?_
   rintro e wh51 ⟨s1,s2,s3,sc1,sc2,sc3,rfl,hfi,hb⟩
   have HFI:Hid (FmIn wh49.heap.size wh51 X s1 s2 s3):=hfi
   have HQ9:Hid (OffQ wh49.heap.size wh51 tb):=.inl (gB MA50.out.2.2.1).lt
   have MA52:Hid (Sts [kWd wh49.heap.size wh51,kBx (tb) 50 z5v,kBx (w.heap.size+1+1) 48 (vEv op o lie),kBx (w.heap.size+1) 31 (vFr f oa oc pa pc ha hc),kBx (w.heap.size) 26 (vPl p wa wk ya yc ba bc),kBn w.heap.size w] wh51):=⟨⟨Nat.le_refl _,fun _ _ _=>rfl⟩,(gB MA50.out.2.2.1).mono hb nr,(gB MA50.out.2.2.2.1).mono hb nr,(gB MA50.out.2.2.2.2.1).mono hb nr,(gB MA50.out.2.2.2.2.2.1).mono hb nr,⟨(gL MA50.out.2.2.2.2.2.2.1).trans (hb.mono (gL MA50.out.2.2.2.2.2.2.1).size),rfl⟩,trivial⟩
   clear hfi hb MA50
   go_wp2_with fail
   refine hK.out _ _ ?_ (fun hHeld=>?_)
   ·
    exact d543 (gB MA52.out.2.2.2.2.1) (gB MA52.out.2.2.2.1) (gB MA52.out.2.2.1)
   clear hK K
   refine rl 8 fun K hK=>?_
   refine step_row rfl 50 _ _ rfl tb #[.int .i64 c,.bool X.ok,.slice s1 X.no sc1,.slice s2 X.np sc2,.slice s3 X.nh sc3] rfl rfl 50 _ (gB MA52.out.2.1) (by kernel_rfl) rfl (by kernel_rfl) ?_
   intro W53 hB9 hF9
   have MA54:Hid (Sts [kWd wh49.heap.size wh51,kBx (tb) 50 (vAn c X s1 sc1 s2 sc2 s3 sc3),kBx (w.heap.size+1+1) 48 (vEv op o lie),kBx (w.heap.size+1) 31 (vFr f oa oc pa pc ha hc),kBx (w.heap.size) 26 (vPl p wa wk ya yc ba bc),kBn w.heap.size w] W53):=⟨kWd.put (gWd MA52.out.1) HQ9.out hF9,hB9,bxf (gB MA52.out.2.2.1) (gB MA52.out.2.1) hF9,bxf (gB MA52.out.2.2.2.1) (gB MA52.out.2.1) hF9,bxf (gB MA52.out.2.2.2.2.1) (gB MA52.out.2.1) hF9,⟨blf MA52.out.2.2.2.2.2.1 HL44.out hF9,rfl⟩,trivial⟩
   clear hB9 hF9 MA52
   simp only[Act.put]
   refine hK.out _ _ ?_ (fun hHeld=>?_)
   ·
    exact d543 (gB MA54.out.2.2.2.2.1) (gB MA54.out.2.2.2.1) (gB MA54.out.2.2.1)
   clear hK K
   refine wpAnyH_done (by kernel_rfl) ?_ _
   clear hHeld
   go_wp2_with fail
   go_meet
   case rel=>exact⟨tb,s1,s2,s3,sc1,sc2,sc3,rfl,⟨(gB MA54.out.2.1),(gB MA54.out.2.2.1),(gB MA54.out.2.2.2.1),(gB MA54.out.2.2.2.2.1),⟨(gL MA54.out.2.2.2.2.2.1),rfl⟩,trivial⟩,HFI.out.wd (gWd MA54.out.1)⟩
 case rest=>
  obtain⟨tb,s1,s2,s3,sc1,sc2,sc3,rfl,M5,HF5⟩:=hcut
  clear S2 HSP
  generalize wc=w5 at M5 HF5⊢
  obtain⟨a0,a1,a2,a3,a4⟩:=(gB M5.out.2.2.2.1).c5
  go_wp2_with fail
  clear a0 a1 a2 a3 a4
  refine(HTP.out _ (gL M5.out.2.2.2.2.1)).mono ?_
  rintro e w6 ⟨wb5,yb5,bb5,lo5,rr5,rfl,ho,hb⟩
  have S6:=stx (k:=kPl p wb5 yb5 bb5 lo5 rr5) (stx (k:=kPw w5.heap.size w6.heap.size p wb5 yb5 bb5 rr5) (stx (k:=kBn w5.heap.size w5) (stm M5 hb) ⟨hb,rfl⟩) (ho.pw nr)) (ho.mono (Nat.zero_le _) (Below.refl _ _) nr)
  clear ho hb
  have S7:=stx (k:=kBx (w6.heap.size) 37 (vPo p wb5 yb5 bb5)) (sta S6 (.cells (vPo p wb5 yb5 bb5) 37)) (Box.new _ _ _)
  have HL55:Hid (w.heap.size<=w6.heap.size):=(gL S6.out.2.2.2.2.2.2.2.1).size
  have HL56:Hid (w5.heap.size<=w6.heap.size):=(gL S6.out.2.2.1).size
  go_upto_region 10 with fail
  clear S6
  generalize w6.alloc (.cells (vPo p wb5 yb5 bb5) 37)=V7 at S7⊢
  generalize w6.heap.size=xq at S7 HL55 HL56⊢
  have HXV:Hid (xq<V7.heap.size):=(gB S7.out.1).lt
  obtain⟨b0,b1,b2,b3⟩:=(gB S7.out.2.2.2.2.2.2.1).c4
  go_wp2_with fail
  clear b0 b1 b2 b3
  refine(HTF.out _ (gL S7.out.2.2.2.2.2.2.2.2.1)).mono ?_
  rintro e w8 ⟨ob5,pb5,hb5,r5,rfl,ho,hb⟩
  have S8:=stx (k:=kFb V7.heap.size f (.slice (some (ad ob5 0)) f.no f.no) (.slice (some (ad pb5 0)) f.np f.np) (.slice (some (ad hb5 0)) f.nh f.nh) r5) (stx (k:=kBn V7.heap.size V7) (stm S7 hb) ⟨hb,rfl⟩) ho
  clear ho hb S7
  have S10:=stx (k:=kBx (w8.heap.size) 42 (vFo f ob5 pb5 hb5)) (sta S8 (.cells (vFo f ob5 pb5 hb5) 42)) (Box.new _ _ _)
  have HL57:Hid (w.heap.size<=w8.heap.size):=(gL S8.out.2.2.2.2.2.2.2.2.2.2.1).size
  have HL58:Hid (w5.heap.size<=w8.heap.size):=(gL S8.out.2.2.2.2.2.1).size
  have HL59:Hid (V7.heap.size<=w8.heap.size):=(gL S8.out.2.1).size
  go_upto_region 11 with fail
  clear S8
  generalize w8.alloc (.cells (vFo f ob5 pb5 hb5) 42)=w10 at S10⊢
  generalize w8.heap.size=yq at S10 HL57 HL58 HL59⊢
  have HLT:Hid (FmLt w10.heap.size f (.slice (some (ad ob5 0)) f.no f.no) (.slice (some (ad pb5 0)) f.np f.np) (.slice (some (ad hb5 0)) f.nh f.nh) r5):=(gFb S10.out.2.1).g.lt
  have HX0:Hid (∀W,Below w10.heap.size w10 W->PlOwn 0 W p wb5 yb5 bb5 lo5 rr5/\FmOwn 0 W f (.slice (some (ad ob5 0)) f.no f.no) (.slice (some (ad pb5 0)) f.np f.np) (.slice (some (ad hb5 0)) f.nh f.nh) r5):=fun W hB=>⟨(gPl S10.out.2.2.2.2.1).mono nr hB nr,(gFb S10.out.2.1).mono (Nat.zero_le _) hB nr⟩
  have HYV:Hid (V7.heap.size<=yq/\yq<w10.heap.size):=⟨HL59.out,(gB S10.out.1).lt⟩
  have MR:Hid (Sts [kBn w10.heap.size w10,kBx (yq) 42 (vFo f ob5 pb5 hb5),kBx (xq) 37 (vPo p wb5 yb5 bb5),kBx (w.heap.size+1+1) 48 (vEv op o lie),kBn w.heap.size w] w10):=⟨⟨Below.refl _ _,rfl⟩,(gB S10.out.1),(gB S10.out.2.2.2.1),(gB S10.out.2.2.2.2.2.2.2.2.1),⟨(gL S10.out.2.2.2.2.2.2.2.2.2.2.2.1),rfl⟩,trivial⟩
  go_cut [11] from 16 (fun s11 wx=>∃(gq:Nat) (g1 g2 g3:Option Addr) (gc1 gc2 gc3:Nat) (rg rcg:Nat->Nat),s11=.pointer (some (ad gq 0))/\Hid (Sts [kFg w10.heap.size X (.slice g1 X.no gc1) (.slice g2 X.np gc2) (.slice g3 X.nh gc3) rg rcg,kBx (gq) 50 (vAn c X g1 gc1 g2 gc2 g3 gc3),kBn w10.heap.size w10] wx)/\Hid (w10.heap.size<=gq))
  case first =>
   obtain⟨a0,a1,a2⟩:=(gB MR.out.2.2.2.1).c3
   obtain⟨b0,b1,b2,b3,b4⟩:=(gB MR.out.2.2.1).c5
   obtain⟨c0,c1,c2,c3⟩:=(gB MR.out.2.1).c4
   go_wp2_with fail
   refine wp_region_held_drew (S:=(fun wx:World=>wx.cell? (ad (w.heap.size+1+1) 0)=some (.int .i64 op)/\wx.cell? (ad (w.heap.size+1+1) 1)=some (.int .i64 o)/\wx.cell? (ad (w.heap.size+1+1) 2)=some (.int .i64 lie)/\wx.cell? (ad xq 0)=some (.int .i64 p.sec)/\wx.cell? (ad xq 1)=some (.slice (some (ad wb5 0)) p.nw p.nw)/\wx.cell? (ad xq 2)=some (.slice (some (ad yb5 0)) p.ny p.ny)/\wx.cell? (ad xq 3)=some (.slice (some (ad bb5 0)) p.nb p.nb)/\wx.cell? (ad xq 4)=some (.int .i64 p.hold)/\wx.cell? (ad yq 0)=some (.bool f.ok)/\wx.cell? (ad yq 1)=some (.slice (some (ad ob5 0)) f.no f.no)/\wx.cell? (ad yq 2)=some (.slice (some (ad pb5 0)) f.np f.np)/\wx.cell? (ad yq 3)=some (.slice (some (ad hb5 0)) f.nh f.nh))) (by kernel_rfl) ?_ (fun hHeld=>?_)
   ·
    exact⟨a0,a1,a2,b0,b1,b2,b3,b4,c0,c1,c2,c3⟩
   have MD60:=std MR
   clear a0 a1 a2 b0 b1 b2 b3 b4 c0 c1 c2 c3 MR
   generalize w10.drew=VD2 at MD60 hHeld⊢
   refine tk 0 ?_
   refine tk 1 ?_
   refine tk 2 ?_
   refine rl2 (i:=3) (j:=5) (by kernel_rfl) rfl rfl (fun K hK=>?_) (fun K hK=>?_)
   ·
    go_simp
    refine(toEv19 op o lie _).mono ?_
    rintro e wh61 ⟨rfl,hb⟩
    have MA62:=stm MD60 hb
    clear hb MD60
    go_wp2_with fail
    refine hK.out _ _ ?_ (fun hHeld=>?_)
    ·
     exact d354 (gB MA62.out.2.2.2.1) (gB MA62.out.2.2.1) (gB MA62.out.2.1)
    clear hK K
    refine rl2 (i:=4) (j:=5) (by kernel_rfl) rfl rfl (fun K hK=>?_) (fun K hK=>?_)
    ·
     go_simp
     refine(HDO.out _ _ _ _ _ _ _ _ _ _ (HX0.out _ (gL MA62.out.1)).1 (HX0.out _ (gL MA62.out.1)).2 (HSN.out _ (gL MA62.out.2.2.2.2.1))).mono ?_
     rintro e wh63 ⟨g1,g2,g3,gc1,gc2,gc3,rg,rcg,rfl,hg,hb⟩
     have MA64:Hid (Sts [kFg w10.heap.size X (.slice g1 X.no gc1) (.slice g2 X.np gc2) (.slice g3 X.nh gc3) rg rcg,kBn w10.heap.size w10,kBx (yq) 42 (vFo f ob5 pb5 hb5),kBx (xq) 37 (vPo p wb5 yb5 bb5),kBx (w.heap.size+1+1) 48 (vEv op o lie),kBn w.heap.size w] wh63):=⟨hg.low (gL MA62.out.1).size,⟨(gL MA62.out.1).trans (hb.mono (gL MA62.out.1).size),rfl⟩,(gB MA62.out.2.1).mono hb nr,(gB MA62.out.2.2.1).mono hb nr,(gB MA62.out.2.2.2.1).mono hb nr,⟨(gL MA62.out.2.2.2.2.1).trans (hb.mono (gL MA62.out.2.2.2.2.1).size),rfl⟩,trivial⟩
     clear hg hb MA62
     go_wp2_with fail
     refine hK.out _ _ ?_ (fun hHeld=>?_)
     ·
      exact d354 (gB MA64.out.2.2.2.2.1) (gB MA64.out.2.2.2.1) (gB MA64.out.2.2.1)
     clear hK K
     refine rl 5 fun K hK=>?_
     have MA66:=stx (k:=kBx (wh63.heap.size) 50 z5v) (sta MA64 (.cells z5v 50)) (Box.new _ _ _)
     have HL67:Hid (w.heap.size<=wh63.heap.size):=(gL MA64.out.2.2.2.2.2.1).size
     have HL68:Hid (w10.heap.size<=wh63.heap.size):=(gL MA64.out.2.1).size
     clear MA64
     go_simp
     refine hK.out _ _ ?_ (fun hHeld=>?_)
     ·
      exact d354 (gB MA66.out.2.2.2.2.2.1) (gB MA66.out.2.2.2.2.1) (gB MA66.out.2.2.2.1)
     clear hK K
     clear hHeld
     generalize wh63.alloc (.cells z5v 50)=V65 at MA66⊢
     generalize wh63.heap.size=gq at MA66 HL67 HL68⊢
     refine rl 6 fun K hK=>?_
     refine step_row rfl 50 _ _ rfl gq #[.int .i64 c,.bool X.ok,.slice g1 X.no gc1,.slice g2 X.np gc2,.slice g3 X.nh gc3] rfl rfl 50 _ (gB MA66.out.1) (by kernel_rfl) rfl (by kernel_rfl) ?_
     intro W69 hB9 hF9
     have MA70:Hid (Sts [kBx (gq) 50 (vAn c X g1 gc1 g2 gc2 g3 gc3),kFg w10.heap.size X (.slice g1 X.no gc1) (.slice g2 X.np gc2) (.slice g3 X.nh gc3) rg rcg,kBn w10.heap.size w10,kBx (yq) 42 (vFo f ob5 pb5 hb5),kBx (xq) 37 (vPo p wb5 yb5 bb5),kBx (w.heap.size+1+1) 48 (vEv op o lie),kBn w.heap.size w] W69):=⟨hB9,(gFg MA66.out.2.1).frb (gB MA66.out.1) hF9,⟨blf MA66.out.2.2.1 HL68.out hF9,rfl⟩,bxf (gB MA66.out.2.2.2.1) (gB MA66.out.1) hF9,bxf (gB MA66.out.2.2.2.2.1) (gB MA66.out.1) hF9,bxf (gB MA66.out.2.2.2.2.2.1) (gB MA66.out.1) hF9,⟨blf MA66.out.2.2.2.2.2.2.1 HL67.out hF9,rfl⟩,trivial⟩
     clear hB9 hF9 MA66
     simp only[Act.put]
     refine hK.out _ _ ?_ (fun hHeld=>?_)
     ·
      exact d354 (gB MA70.out.2.2.2.2.2.1) (gB MA70.out.2.2.2.2.1) (gB MA70.out.2.2.2.1)
     clear hK K
     refine wpAnyH_done (by kernel_rfl) ?_ _
     clear hHeld
     go_wp2_with fail
     go_meet
     case rel=>exact⟨gq,g1,g2,g3,gc1,gc2,gc3,rg,rcg,rfl,⟨(gFg MA70.out.2.1),(gB MA70.out.1),⟨(gL MA70.out.2.2.1),rfl⟩,trivial⟩,HL68.out⟩
    ·
     have MA72:=stx (k:=kBx (wh61.heap.size) 50 z5v) (sta MA62 (.cells z5v 50)) (Box.new _ _ _)
     have HL73:Hid (w.heap.size<=wh61.heap.size):=(gL MA62.out.2.2.2.2.1).size
     have HL74:Hid (w10.heap.size<=wh61.heap.size):=(gL MA62.out.1).size
     clear MA62
     go_simp
     refine hK.out _ _ ?_ (fun hHeld=>?_)
     ·
      exact d354 (gB MA72.out.2.2.2.2.1) (gB MA72.out.2.2.2.1) (gB MA72.out.2.2.1)
     clear hK K
     clear hHeld
     generalize wh61.alloc (.cells z5v 50)=V71 at MA72⊢
     generalize wh61.heap.size=gq at MA72 HL73 HL74⊢
     refine rl 4 fun K hK=>?_
     go_simp
     refine(HDO.out _ _ _ _ _ _ _ _ _ _ (HX0.out _ (gL MA72.out.2.1)).1 (HX0.out _ (gL MA72.out.2.1)).2 (HSN.out _ (gL MA72.out.2.2.2.2.2.1))).mono ?_
     rintro e wh75 ⟨g1,g2,g3,gc1,gc2,gc3,rg,rcg,rfl,hg,hb⟩
     have MA76:Hid (Sts [kFg w10.heap.size X (.slice g1 X.no gc1) (.slice g2 X.np gc2) (.slice g3 X.nh gc3) rg rcg,kBx (gq) 50 z5v,kBn w10.heap.size w10,kBx (yq) 42 (vFo f ob5 pb5 hb5),kBx (xq) 37 (vPo p wb5 yb5 bb5),kBx (w.heap.size+1+1) 48 (vEv op o lie),kBn w.heap.size w] wh75):=⟨hg.low (gL MA72.out.2.1).size,(gB MA72.out.1).mono hb nr,⟨(gL MA72.out.2.1).trans (hb.mono (gL MA72.out.2.1).size),rfl⟩,(gB MA72.out.2.2.1).mono hb nr,(gB MA72.out.2.2.2.1).mono hb nr,(gB MA72.out.2.2.2.2.1).mono hb nr,⟨(gL MA72.out.2.2.2.2.2.1).trans (hb.mono (gL MA72.out.2.2.2.2.2.1).size),rfl⟩,trivial⟩
     clear hg hb MA72
     go_wp2_with fail
     refine hK.out _ _ ?_ (fun hHeld=>?_)
     ·
      exact d354 (gB MA76.out.2.2.2.2.2.1) (gB MA76.out.2.2.2.2.1) (gB MA76.out.2.2.2.1)
     clear hK K
     refine rl 6 fun K hK=>?_
     refine step_row rfl 50 _ _ rfl gq #[.int .i64 c,.bool X.ok,.slice g1 X.no gc1,.slice g2 X.np gc2,.slice g3 X.nh gc3] rfl rfl 50 _ (gB MA76.out.2.1) (by kernel_rfl) rfl (by kernel_rfl) ?_
     intro W77 hB9 hF9
     have MA78:Hid (Sts [kFg w10.heap.size X (.slice g1 X.no gc1) (.slice g2 X.np gc2) (.slice g3 X.nh gc3) rg rcg,kBx (gq) 50 (vAn c X g1 gc1 g2 gc2 g3 gc3),kBn w10.heap.size w10,kBx (yq) 42 (vFo f ob5 pb5 hb5),kBx (xq) 37 (vPo p wb5 yb5 bb5),kBx (w.heap.size+1+1) 48 (vEv op o lie),kBn w.heap.size w] W77):=⟨(gFg MA76.out.1).frb (gB MA76.out.2.1) hF9,hB9,⟨blf MA76.out.2.2.1 HL74.out hF9,rfl⟩,bxf (gB MA76.out.2.2.2.1) (gB MA76.out.2.1) hF9,bxf (gB MA76.out.2.2.2.2.1) (gB MA76.out.2.1) hF9,bxf (gB MA76.out.2.2.2.2.2.1) (gB MA76.out.2.1) hF9,⟨blf MA76.out.2.2.2.2.2.2.1 HL73.out hF9,rfl⟩,trivial⟩
     clear hB9 hF9 MA76
     simp only[Act.put]
     refine hK.out _ _ ?_ (fun hHeld=>?_)
     ·
      exact d354 (gB MA78.out.2.2.2.2.2.1) (gB MA78.out.2.2.2.2.1) (gB MA78.out.2.2.2.1)
     clear hK K
     refine wpAnyH_done (by kernel_rfl) ?_ _
     clear hHeld
     go_wp2_with fail
     go_meet
     case rel=>exact⟨gq,g1,g2,g3,gc1,gc2,gc3,rg,rcg,rfl,⟨(gFg MA78.out.1),(gB MA78.out.2.1),⟨(gL MA78.out.2.2.1),rfl⟩,trivial⟩,HL74.out⟩
   ·
    have MA80:=stx (k:=kBx (VD2.heap.size) 50 z5v) (sta MD60 (.cells z5v 50)) (Box.new _ _ _)
    have HL81:Hid (w.heap.size<=VD2.heap.size):=(gL MD60.out.2.2.2.2.1).size
    have HL82:Hid (w10.heap.size<=VD2.heap.size):=(gL MD60.out.1).size
    clear MD60
    go_simp
    refine hK.out _ _ ?_ (fun hHeld=>?_)
    ·
     exact d354 (gB MA80.out.2.2.2.2.1) (gB MA80.out.2.2.2.1) (gB MA80.out.2.2.1)
    clear hK K
    clear hHeld
    generalize VD2.alloc (.cells z5v 50)=V79 at MA80⊢
    generalize VD2.heap.size=gq at MA80 HL81 HL82⊢
    refine rl 3 fun K hK=>?_
    go_simp
    refine(toEv19 op o lie _).mono ?_
    rintro e wh83 ⟨rfl,hb⟩
    have MA84:=stm MA80 hb
    clear hb MA80
    go_wp2_with fail
    refine hK.out _ _ ?_ (fun hHeld=>?_)
    ·
     exact d354 (gB MA84.out.2.2.2.2.1) (gB MA84.out.2.2.2.1) (gB MA84.out.2.2.1)
    clear hK K
    refine rl 4 fun K hK=>?_
    go_simp
    refine(HDO.out _ _ _ _ _ _ _ _ _ _ (HX0.out _ (gL MA84.out.2.1)).1 (HX0.out _ (gL MA84.out.2.1)).2 (HSN.out _ (gL MA84.out.2.2.2.2.2.1))).mono ?_
    rintro e wh85 ⟨g1,g2,g3,gc1,gc2,gc3,rg,rcg,rfl,hg,hb⟩
    have MA86:Hid (Sts [kFg w10.heap.size X (.slice g1 X.no gc1) (.slice g2 X.np gc2) (.slice g3 X.nh gc3) rg rcg,kBx (gq) 50 z5v,kBn w10.heap.size w10,kBx (yq) 42 (vFo f ob5 pb5 hb5),kBx (xq) 37 (vPo p wb5 yb5 bb5),kBx (w.heap.size+1+1) 48 (vEv op o lie),kBn w.heap.size w] wh85):=⟨hg.low (gL MA84.out.2.1).size,(gB MA84.out.1).mono hb nr,⟨(gL MA84.out.2.1).trans (hb.mono (gL MA84.out.2.1).size),rfl⟩,(gB MA84.out.2.2.1).mono hb nr,(gB MA84.out.2.2.2.1).mono hb nr,(gB MA84.out.2.2.2.2.1).mono hb nr,⟨(gL MA84.out.2.2.2.2.2.1).trans (hb.mono (gL MA84.out.2.2.2.2.2.1).size),rfl⟩,trivial⟩
    clear hg hb MA84
    go_wp2_with fail
    refine hK.out _ _ ?_ (fun hHeld=>?_)
    ·
     exact d354 (gB MA86.out.2.2.2.2.2.1) (gB MA86.out.2.2.2.2.1) (gB MA86.out.2.2.2.1)
    clear hK K
    refine rl 6 fun K hK=>?_
    refine step_row rfl 50 _ _ rfl gq #[.int .i64 c,.bool X.ok,.slice g1 X.no gc1,.slice g2 X.np gc2,.slice g3 X.nh gc3] rfl rfl 50 _ (gB MA86.out.2.1) (by kernel_rfl) rfl (by kernel_rfl) ?_
    intro W87 hB9 hF9
    have MA88:Hid (Sts [kFg w10.heap.size X (.slice g1 X.no gc1) (.slice g2 X.np gc2) (.slice g3 X.nh gc3) rg rcg,kBx (gq) 50 (vAn c X g1 gc1 g2 gc2 g3 gc3),kBn w10.heap.size w10,kBx (yq) 42 (vFo f ob5 pb5 hb5),kBx (xq) 37 (vPo p wb5 yb5 bb5),kBx (w.heap.size+1+1) 48 (vEv op o lie),kBn w.heap.size w] W87):=⟨(gFg MA86.out.1).frb (gB MA86.out.2.1) hF9,hB9,⟨blf MA86.out.2.2.1 HL82.out hF9,rfl⟩,bxf (gB MA86.out.2.2.2.1) (gB MA86.out.2.1) hF9,bxf (gB MA86.out.2.2.2.2.1) (gB MA86.out.2.1) hF9,bxf (gB MA86.out.2.2.2.2.2.1) (gB MA86.out.2.1) hF9,⟨blf MA86.out.2.2.2.2.2.2.1 HL81.out hF9,rfl⟩,trivial⟩
    clear hB9 hF9 MA86
    simp only[Act.put]
    refine hK.out _ _ ?_ (fun hHeld=>?_)
    ·
     exact d354 (gB MA88.out.2.2.2.2.2.1) (gB MA88.out.2.2.2.2.1) (gB MA88.out.2.2.2.1)
    clear hK K
    refine wpAnyH_done (by kernel_rfl) ?_ _
    clear hHeld
    go_wp2_with fail
    go_meet
    case rel=>exact⟨gq,g1,g2,g3,gc1,gc2,gc3,rg,rcg,rfl,⟨(gFg MA88.out.1),(gB MA88.out.2.1),⟨(gL MA88.out.2.2.1),rfl⟩,trivial⟩,HL82.out⟩
  case rest=>
   obtain⟨gq,g1,g2,g3,gc1,gc2,gc3,rg,rcg,rfl,M11,HGQ⟩:=hcut
   generalize wc=w11 at M11⊢
   have S11:=stx (k:=kFg w10.heap.size X (.slice g1 X.no gc1) (.slice g2 X.np gc2) (.slice g3 X.nh gc3) rg rcg) (stx (k:=kBx (gq) 50 (vAn c X g1 gc1 g2 gc2 g3 gc3)) (stm S10 (gL M11.out.2.2.1)) (gB M11.out.2.1)) (gFg M11.out.1)
   clear M11 S10 MR HX0
   obtain⟨x0,x1,x2,x3,x4⟩:=(gB S11.out.2.2.2.2.2.2.2.2.2.1).c5
   obtain⟨y0,y1,y2,y3,y4⟩:=(gB S11.out.2.1).c5
   go_wp2_with fail
   clear x0 x1 x2 x3 x4 y0 y1 y2 y3 y4
   refine(eqDone17 c X g1 g2 g3 s1 s2 s3 gc1 gc2 gc3 sc1 sc2 sc3 w11 HXS.out (gFg S11.out.1).in (HF5.out.mono nr (gL S11.out.2.2.2.2.2.2.2.2.1) nr)).mono ?_
   rintro e w12 ⟨rfl,hb⟩
   have S12:=stm S11 hb
   clear hb S11
   obtain⟨a0,a1,a2,a3,a4⟩:=(gB S12.out.2.2.2.2.2.2.2.2.2.2.2.2.1).c5
   obtain⟨b0,b1,b2,b3,b4⟩:=(gB S12.out.2.2.2.2.2.1).c5
   go_wp2_with fail
   refine wp_region_held_drew (S:=(fun wx:World=>wx.cell? (ad w.heap.size 0)=some (.int .i64 p.sec)/\wx.cell? (ad w.heap.size 1)=some (.slice wa p.nw wk)/\wx.cell? (ad w.heap.size 2)=some (.slice ya p.ny yc)/\wx.cell? (ad w.heap.size 3)=some (.slice ba p.nb bc)/\wx.cell? (ad w.heap.size 4)=some (.int .i64 p.hold)/\wx.cell? (ad xq 0)=some (.int .i64 p.sec)/\wx.cell? (ad xq 1)=some (.slice (some (ad wb5 0)) p.nw p.nw)/\wx.cell? (ad xq 2)=some (.slice (some (ad yb5 0)) p.ny p.ny)/\wx.cell? (ad xq 3)=some (.slice (some (ad bb5 0)) p.nb p.nb)/\wx.cell? (ad xq 4)=some (.int .i64 p.hold))) (by kernel_rfl) ?_ (fun hHeld=>?_)
   ·
    exact⟨a0,a1,a2,a3,a4,b0,b1,b2,b3,b4⟩
   have MD89:=std S12
   clear a0 a1 a2 a3 a4 b0 b1 b2 b3 b4 S12
   generalize w12.drew=VD3 at MD89 hHeld⊢
   refine tk 0 ?_
   refine tk 1 ?_
   refine rl 2 fun K hK=>?_
   go_simp
   refine(HTP.out _ (gL MD89.out.2.2.2.2.2.2.2.2.2.2.2.2.2.1)).mono ?_
   rintro e wh90 ⟨wbx,ybx,bbx,lox,rrx,rfl,ho,hb⟩
   have MA91:=stx (k:=kPl p wbx ybx bbx lox rrx) (stm MD89 hb) (ho.mono (Nat.zero_le _) (Below.refl _ _) nr)
   clear hb ho MD89
   go_wp2_with fail
   refine hK.out _ _ ?_ (fun hHeld=>?_)
   ·
    exact d55 (gB MA91.out.2.2.2.2.2.2.2.2.2.2.2.2.2.1) (gB MA91.out.2.2.2.2.2.2.1)
   clear hK K
   refine rl 3 fun K hK=>?_
   go_simp
   refine(eqPlan p _ _ _ _ _ _ _ _ _ _ _ _ _ HS.out ((gPl MA91.out.2.2.2.2.2.2.2.1).in (Nat.zero_le _)) ((gPl MA91.out.1).in (Nat.zero_le _))).mono ?_
   rintro e wh92 ⟨rfl,hb⟩
   have MA93:=stm MA91 hb
   clear hb MA91
   go_wp2_with fail
   refine hK.out _ _ ?_ (fun hHeld=>?_)
   ·
    exact d55 (gB MA93.out.2.2.2.2.2.2.2.2.2.2.2.2.2.1) (gB MA93.out.2.2.2.2.2.2.1)
   clear hK K
   refine tk 4 ?_
   refine wpAnyH_done (by kernel_rfl) ?_ _
   clear hHeld
   obtain⟨a0,a1,a2,a3⟩:=(gB MA93.out.2.2.2.2.2.2.2.2.2.2.2.2.1).c4
   obtain⟨b0,b1,b2,b3⟩:=(gB MA93.out.2.2.2.1).c4
   go_wp2_with fail
   refine wp_region_held_drew (S:=(fun wx:World=>wx.cell? (ad (w.heap.size+1) 0)=some (.bool f.ok)/\wx.cell? (ad (w.heap.size+1) 1)=some (.slice oa f.no oc)/\wx.cell? (ad (w.heap.size+1) 2)=some (.slice pa f.np pc)/\wx.cell? (ad (w.heap.size+1) 3)=some (.slice ha f.nh hc)/\wx.cell? (ad yq 0)=some (.bool f.ok)/\wx.cell? (ad yq 1)=some (.slice (some (ad ob5 0)) f.no f.no)/\wx.cell? (ad yq 2)=some (.slice (some (ad pb5 0)) f.np f.np)/\wx.cell? (ad yq 3)=some (.slice (some (ad hb5 0)) f.nh f.nh))) (by kernel_rfl) ?_ (fun hHeld=>?_)
   ·
    exact⟨a0,a1,a2,a3,b0,b1,b2,b3⟩
   have MD94:=std MA93
   clear a0 a1 a2 a3 b0 b1 b2 b3 MA93
   generalize wh92.drew=VD4 at MD94 hHeld⊢
   refine tk 0 ?_
   refine tk 1 ?_
   refine rl 2 fun K hK=>?_
   go_simp
   refine(HTF.out _ (gL MD94.out.2.2.2.2.2.2.2.2.2.2.2.2.2.2.1)).mono ?_
   rintro e wh95 ⟨obx,pbx,hbx,rx,rfl,ho,hb⟩
   have MA96:=stx (k:=kFo f (.slice (some (ad obx 0)) f.no f.no) (.slice (some (ad pbx 0)) f.np f.np) (.slice (some (ad hbx 0)) f.nh f.nh) rx) (stm MD94 hb) (ho.mono (Nat.zero_le _) (Below.refl _ _) nr)
   clear hb ho MD94
   go_wp2_with fail
   refine hK.out _ _ ?_ (fun hHeld=>?_)
   ·
    exact d44 (gB MA96.out.2.2.2.2.2.2.2.2.2.2.2.2.2.1) (gB MA96.out.2.2.2.2.1)
   clear hK K
   refine rl 3 fun K hK=>?_
   go_simp
   refine(eqFrame f _ _ _ _ _ _ _ _ _ _ _ _ _ HFS.out ((gFb MA96.out.2.2.2.2.2.1).in (Nat.zero_le _)) ((gFo MA96.out.1).in (Nat.zero_le _))).mono ?_
   rintro e wh97 ⟨rfl,hb⟩
   have MA98:=stm MA96 hb
   clear hb MA96
   go_wp2_with fail
   refine hK.out _ _ ?_ (fun hHeld=>?_)
   ·
    exact d44 (gB MA98.out.2.2.2.2.2.2.2.2.2.2.2.2.2.1) (gB MA98.out.2.2.2.2.1)
   clear hK K
   refine tk 4 ?_
   refine wpAnyH_done (by kernel_rfl) ?_ _
   clear hHeld
   obtain⟨x0,x1,x2,x3,x4⟩:=(gB MA98.out.2.2.2.2.2.2.2.1).c5
   go_wp2_with fail
   clear x0 x1 x2 x3 x4
   refine(markPlan15 p wb5 yb5 bb5 rr5 w5.heap.size xq wh97 HS.out HS.out.2.1 (gPw MA98.out.2.2.2.2.2.2.2.2.2.1)).mono ?_
   rintro e w16 ⟨⟨m1,rfl,hm16⟩,hf⟩
   have Z16:Hid (Sts [kFg w10.heap.size X (.slice g1 X.no gc1) (.slice g2 X.np gc2) (.slice g3 X.nh gc3) rg rcg,kBx (gq) 50 (vAn c X g1 gc1 g2 gc2 g3 gc3),kBx (yq) 42 (vFo f ob5 pb5 hb5),kFb V7.heap.size f (.slice (some (ad ob5 0)) f.no f.no) (.slice (some (ad pb5 0)) f.np f.np) (.slice (some (ad hb5 0)) f.nh f.nh) r5,kBn w5.heap.size w5] w16):=⟨(gFg MA98.out.2.2.1).fr hf (fun b h (k:w5.heap.size<=b/\b<xq)=>by have :=HXV.out;have :=HYV.out;omega),(gB MA98.out.2.2.2.1).fr hf (fun(k:w5.heap.size<=gq/\gq<xq)=>by have :=HXV.out;have :=HYV.out;have :=HGQ.out;omega),(gB MA98.out.2.2.2.2.1).fr hf (fun(k:w5.heap.size<=yq/\yq<xq)=>by have :=HXV.out;have :=HYV.out;omega),(gFb MA98.out.2.2.2.2.2.1).frl hf (fun b h (k:w5.heap.size<=b/\b<xq)=>by have :=HXV.out;omega),⟨(gL MA98.out.2.2.2.2.2.2.2.2.2.2.1).trans (hf.below (gL MA98.out.2.2.2.2.2.2.2.2.2.2.1).size fun b h (k:w5.heap.size<=b/\b<xq)=>by omega),rfl⟩,trivial⟩
   clear hf MA98
   obtain⟨y0,y1,y2,y3⟩:=(gB Z16.out.2.2.1).c4
   go_wp2_with fail
   clear y0 y1 y2 y3
   refine(markF19 V7.heap.size w10.heap.size f (some (ad ob5 0)) (some (ad pb5 0)) (some (ad hb5 0)) f.no f.np f.nh r5 _ m1 w16 hm16 HFS.out HLT.out (gFb Z16.out.2.2.2.1).g).mono ?_
   rintro e w17 ⟨rfl,_,hf,_⟩
   have Z17:Hid (Sts [kFg w10.heap.size X (.slice g1 X.no gc1) (.slice g2 X.np gc2) (.slice g3 X.nh gc3) rg rcg,kBx (gq) 50 (vAn c X g1 gc1 g2 gc2 g3 gc3),kBn w5.heap.size w5] w17):=⟨(gFg Z16.out.1).fr hf (fun b h (k:V7.heap.size<=b/\b<w10.heap.size)=>by omega),(gB Z16.out.2.1).fr hf (fun(k:V7.heap.size<=gq/\gq<w10.heap.size)=>by have :=HGQ.out;omega),⟨(gL Z16.out.2.2.2.2.1).trans (hf.below (gL Z16.out.2.2.2.2.1).size fun b h (k:V7.heap.size<=b/\b<w10.heap.size)=>by have :=HXV.out;have :=HL56.out;omega),rfl⟩,trivial⟩
   clear hf Z16
   obtain⟨kE,hkE⟩:∃k,kEnd f m1=k:=⟨_,rfl⟩
   rw[hkE]
   clear hkE
   have hkE0:¬((kE:Int)<0):=by omega
   have MT:=stm M5 (gL Z17.out.2.2.1)
   obtain⟨x0,x1,x2,x3,x4⟩:=(gB MT.out.1).c5
   clear MT
   obtain⟨y0,y1,y2,y3,y4⟩:=(gB Z17.out.2.1).c5
   go_wp2_with fail
   clear y0 y1 y2 y3 y4 x0 x1 x2 x3 x4
   refine(eqDone17 c X g1 g2 g3 s1 s2 s3 gc1 gc2 gc3 sc1 sc2 sc3 w17 HXS.out (gFg Z17.out.1).in (HF5.out.mono nr (gL Z17.out.2.2.1) nr)).mono ?_
   rintro e w18 ⟨rfl,hb⟩
   have Z18:=stm Z17 hb
   clear hb Z17
   obtain⟨y0,y1,y2,y3,y4⟩:=(gB Z18.out.2.1).c5
   go_wp2_with fail
   clear y0 y1 y2 y3 y4
   refine(mark20 w10.heap.size w18.heap.size c X g1 g2 g3 gc1 gc2 gc3 rg rcg w18 HXS.out (gFg Z18.out.1).lt (gFg Z18.out.1)).mono ?_
   rintro e w19 ⟨rfl,hg,hf,hk⟩
   have Z19:Hid (Sts [kFg w10.heap.size (mkF X 1) (.slice g1 X.no gc1) (.slice g2 X.np gc2) (.slice g3 X.nh gc3) rg rcg,kBx (gq) 50 (vAn c X g1 gc1 g2 gc2 g3 gc3),kBn w5.heap.size w5] w19):=⟨hg,hk gq 50 _ (gB Z18.out.2.1) (by decide) (by decide) (by decide),⟨(gL Z18.out.2.2.1).trans (hf.below (gL Z18.out.2.2.1).size fun b h (k:w10.heap.size<=b/\b<w18.heap.size)=>by have :=HXV.out;have :=HYV.out;have :=HL56.out;omega),rfl⟩,trivial⟩
   clear hg hf hk Z18
   obtain⟨y0,y1,y2,y3,y4⟩:=(gB Z19.out.2.1).c5
   go_wp2_with fail
   clear y0 y1 y2 y3 y4
   refine(held21 c X g1 g2 g3 gc1 gc2 gc3 w19 HXS.out (gFg Z19.out.1).in).mono ?_
   rintro e w20 ⟨rfl,hb⟩
   have Z20:=stm Z19 hb
   clear hb Z19 hkE0
   obtain⟨mE,hmE⟩:∃k,Hid (kEnd X 1=k):=⟨_,rfl⟩
   rw[hmE.out]
   have hmE0:¬((mE:Int)<0):=by omega
   have zz:((mE:Int) !=(mE:Int))=false:=by simp
   have M4:Hid (Sts [kBx (w.heap.size+1+1) 48 (vEv op o lie),kBx (w.heap.size+1) 31 (vFr f oa oc pa pc ha hc),kBx (w.heap.size) 26 (vPl p wa wk ya yc ba bc),kBn w.heap.size w] w5):=M5.out.2
   have MR:=stx (k:=kBn w20.heap.size w20) (stm M4 (gL Z20.out.2.2.1)) ⟨Below.refl _ _,rfl⟩
   go_upto_region 31 with fail
   go_cut [15] from 16 (fun s15 wx=>∃(hq:Nat) (j1 j2 j3:Option Addr) (jc1 jc2 jc3:Nat) (rj rcj:Nat->Nat),s15=.pointer (some (ad hq 0))/\Hid (Sts [kFg w.heap.size X (.slice j1 X.no jc1) (.slice j2 X.np jc2) (.slice j3 X.nh jc3) rj rcj,kBx (hq) 50 (vAn c X j1 jc1 j2 jc2 j3 jc3),kBn w20.heap.size w20] wx))
   case first =>
    obtain⟨a0,a1,a2,a3,a4⟩:=(gB MR.out.2.2.2.1).c5
    obtain⟨b0,b1,b2,b3⟩:=(gB MR.out.2.2.1).c4
    obtain⟨c0,c1,c2⟩:=(gB MR.out.2.1).c3
    go_wp2_with fail
    refine wp_region_held_drew (S:=(fun wx:World=>wx.cell? (ad w.heap.size 0)=some (.int .i64 p.sec)/\wx.cell? (ad w.heap.size 1)=some (.slice wa p.nw wk)/\wx.cell? (ad w.heap.size 2)=some (.slice ya p.ny yc)/\wx.cell? (ad w.heap.size 3)=some (.slice ba p.nb bc)/\wx.cell? (ad w.heap.size 4)=some (.int .i64 p.hold)/\wx.cell? (ad (w.heap.size+1) 0)=some (.bool f.ok)/\wx.cell? (ad (w.heap.size+1) 1)=some (.slice oa f.no oc)/\wx.cell? (ad (w.heap.size+1) 2)=some (.slice pa f.np pc)/\wx.cell? (ad (w.heap.size+1) 3)=some (.slice ha f.nh hc)/\wx.cell? (ad (w.heap.size+1+1) 0)=some (.int .i64 op)/\wx.cell? (ad (w.heap.size+1+1) 1)=some (.int .i64 o)/\wx.cell? (ad (w.heap.size+1+1) 2)=some (.int .i64 lie))) (by kernel_rfl) ?_ (fun hHeld=>?_)
    ·
     exact⟨a0,a1,a2,a3,a4,b0,b1,b2,b3,c0,c1,c2⟩
    have MD99:=std MR
    clear a0 a1 a2 a3 a4 b0 b1 b2 b3 c0 c1 c2 MR
    generalize w20.drew=VD6 at MD99 hHeld⊢
    refine tk 0 ?_
    refine tk 2 ?_
    refine tk 4 ?_
    refine rl2 (i:=1) (j:=7) (by kernel_rfl) rfl rfl (fun K hK=>?_) (fun K hK=>?_)
    ·
     go_simp
     refine(HTP.out _ (gL MD99.out.2.2.2.2.1)).mono ?_
     rintro e wh100 ⟨wbx,ybx,bbx,lox,rrx,rfl,ho,hb⟩
     have MA101:=stx (k:=kPl p wbx ybx bbx lox rrx) (stm MD99 hb) (ho.mono (Nat.zero_le _) (Below.refl _ _) nr)
     clear hb ho MD99
     go_wp2_with fail
     refine hK.out _ _ ?_ (fun hHeld=>?_)
     ·
      exact d543 (gB MA101.out.2.2.2.2.1) (gB MA101.out.2.2.2.1) (gB MA101.out.2.2.1)
     clear hK K
     refine rl2 (i:=3) (j:=7) (by kernel_rfl) rfl rfl (fun K hK=>?_) (fun K hK=>?_)
     ·
      go_simp
      refine(HTF.out _ (gL MA101.out.2.2.2.2.2.1)).mono ?_
      rintro e wh102 ⟨obx,pbx,hbx,rx,rfl,ho,hb⟩
      have MA103:=stx (k:=kFo f (.slice (some (ad obx 0)) f.no f.no) (.slice (some (ad pbx 0)) f.np f.np) (.slice (some (ad hbx 0)) f.nh f.nh) rx) (stm MA101 hb) (ho.mono (Nat.zero_le _) (Below.refl _ _) nr)
      clear hb ho MA101
      go_wp2_with fail
      refine hK.out _ _ ?_ (fun hHeld=>?_)
      ·
       exact d543 (gB MA103.out.2.2.2.2.2.1) (gB MA103.out.2.2.2.2.1) (gB MA103.out.2.2.2.1)
      clear hK K
      refine rl2 (i:=5) (j:=7) (by kernel_rfl) rfl rfl (fun K hK=>?_) (fun K hK=>?_)
      ·
       go_simp
       refine(toEv19 op o lie _).mono ?_
       rintro e wh104 ⟨rfl,hb⟩
       have MA105:=stm MA103 hb
       clear hb MA103
       go_wp2_with fail
       refine hK.out _ _ ?_ (fun hHeld=>?_)
       ·
        exact d543 (gB MA105.out.2.2.2.2.2.1) (gB MA105.out.2.2.2.2.1) (gB MA105.out.2.2.2.1)
       clear hK K
       refine rl2 (i:=6) (j:=7) (by kernel_rfl) rfl rfl (fun K hK=>?_) (fun K hK=>?_)
       ·
        go_simp
        refine(HDO.out _ _ _ _ _ _ _ _ _ _ (gPl MA105.out.2.1) (gFo MA105.out.1) (HSN.out _ (gL MA105.out.2.2.2.2.2.2.1))).mono ?_
        rintro e wh106 ⟨j1,j2,j3,jc1,jc2,jc3,rj,rcj,rfl,hg,hb⟩
        have MA107:Hid (Sts [kFg w.heap.size X (.slice j1 X.no jc1) (.slice j2 X.np jc2) (.slice j3 X.nh jc3) rj rcj,kBn w20.heap.size w20,kBx (w.heap.size+1+1) 48 (vEv op o lie),kBx (w.heap.size+1) 31 (vFr f oa oc pa pc ha hc),kBx (w.heap.size) 26 (vPl p wa wk ya yc ba bc),kBn w.heap.size w] wh106):=⟨hg.low (gL MA105.out.2.2.2.2.2.2.1).size,⟨(gL MA105.out.2.2.1).trans (hb.mono (gL MA105.out.2.2.1).size),rfl⟩,(gB MA105.out.2.2.2.1).mono hb nr,(gB MA105.out.2.2.2.2.1).mono hb nr,(gB MA105.out.2.2.2.2.2.1).mono hb nr,⟨(gL MA105.out.2.2.2.2.2.2.1).trans (hb.mono (gL MA105.out.2.2.2.2.2.2.1).size),rfl⟩,trivial⟩
        clear hg hb MA105
        go_wp2_with fail
        refine hK.out _ _ ?_ (fun hHeld=>?_)
        ·
         exact d543 (gB MA107.out.2.2.2.2.1) (gB MA107.out.2.2.2.1) (gB MA107.out.2.2.1)
        clear hK K
        refine rl 7 fun K hK=>?_
        have MA109:=stx (k:=kBx (wh106.heap.size) 50 z5v) (sta MA107 (.cells z5v 50)) (Box.new _ _ _)
        have HL110:Hid (w.heap.size<=wh106.heap.size):=(gL MA107.out.2.2.2.2.2.1).size
        have HL111:Hid (w20.heap.size<=wh106.heap.size):=(gL MA107.out.2.1).size
        clear MA107
        go_simp
        refine hK.out _ _ ?_ (fun hHeld=>?_)
        ·
         exact d543 (gB MA109.out.2.2.2.2.2.1) (gB MA109.out.2.2.2.2.1) (gB MA109.out.2.2.2.1)
        clear hK K
        clear hHeld
        generalize wh106.alloc (.cells z5v 50)=V108 at MA109⊢
        generalize wh106.heap.size=hq at MA109 HL110 HL111⊢
        refine rl 8 fun K hK=>?_
        refine step_row rfl 50 _ _ rfl hq #[.int .i64 c,.bool X.ok,.slice j1 X.no jc1,.slice j2 X.np jc2,.slice j3 X.nh jc3] rfl rfl 50 _ (gB MA109.out.1) (by kernel_rfl) rfl (by kernel_rfl) ?_
        intro W112 hB9 hF9
        have MA113:Hid (Sts [kBx (hq) 50 (vAn c X j1 jc1 j2 jc2 j3 jc3),kFg w.heap.size X (.slice j1 X.no jc1) (.slice j2 X.np jc2) (.slice j3 X.nh jc3) rj rcj,kBn w20.heap.size w20,kBx (w.heap.size+1+1) 48 (vEv op o lie),kBx (w.heap.size+1) 31 (vFr f oa oc pa pc ha hc),kBx (w.heap.size) 26 (vPl p wa wk ya yc ba bc),kBn w.heap.size w] W112):=⟨hB9,(gFg MA109.out.2.1).frb (gB MA109.out.1) hF9,⟨blf MA109.out.2.2.1 HL111.out hF9,rfl⟩,bxf (gB MA109.out.2.2.2.1) (gB MA109.out.1) hF9,bxf (gB MA109.out.2.2.2.2.1) (gB MA109.out.1) hF9,bxf (gB MA109.out.2.2.2.2.2.1) (gB MA109.out.1) hF9,⟨blf MA109.out.2.2.2.2.2.2.1 HL110.out hF9,rfl⟩,trivial⟩
        clear hB9 hF9 MA109
        simp only[Act.put]
        refine hK.out _ _ ?_ (fun hHeld=>?_)
        ·
         exact d543 (gB MA113.out.2.2.2.2.2.1) (gB MA113.out.2.2.2.2.1) (gB MA113.out.2.2.2.1)
        clear hK K
        refine wpAnyH_done (by kernel_rfl) ?_ _
        clear hHeld
        go_wp2_with fail
        go_meet
        case rel=>exact⟨hq,j1,j2,j3,jc1,jc2,jc3,rj,rcj,rfl,⟨(gFg MA113.out.2.1),(gB MA113.out.1),⟨(gL MA113.out.2.2.1),rfl⟩,trivial⟩⟩
       ·
        have MA115:=stx (k:=kBx (wh104.heap.size) 50 z5v) (sta MA105 (.cells z5v 50)) (Box.new _ _ _)
        have HL116:Hid (w.heap.size<=wh104.heap.size):=(gL MA105.out.2.2.2.2.2.2.1).size
        have HL117:Hid (w20.heap.size<=wh104.heap.size):=(gL MA105.out.2.2.1).size
        clear MA105
        go_simp
        refine hK.out _ _ ?_ (fun hHeld=>?_)
        ·
         exact d543 (gB MA115.out.2.2.2.2.2.2.1) (gB MA115.out.2.2.2.2.2.1) (gB MA115.out.2.2.2.2.1)
        clear hK K
        clear hHeld
        generalize wh104.alloc (.cells z5v 50)=V114 at MA115⊢
        generalize wh104.heap.size=hq at MA115 HL116 HL117⊢
        refine rl 6 fun K hK=>?_
        go_simp
        refine(HDO.out _ _ _ _ _ _ _ _ _ _ (gPl MA115.out.2.2.1) (gFo MA115.out.2.1) (HSN.out _ (gL MA115.out.2.2.2.2.2.2.2.1))).mono ?_
        rintro e wh118 ⟨j1,j2,j3,jc1,jc2,jc3,rj,rcj,rfl,hg,hb⟩
        have MA119:Hid (Sts [kFg w.heap.size X (.slice j1 X.no jc1) (.slice j2 X.np jc2) (.slice j3 X.nh jc3) rj rcj,kBx (hq) 50 z5v,kBn w20.heap.size w20,kBx (w.heap.size+1+1) 48 (vEv op o lie),kBx (w.heap.size+1) 31 (vFr f oa oc pa pc ha hc),kBx (w.heap.size) 26 (vPl p wa wk ya yc ba bc),kBn w.heap.size w] wh118):=⟨hg.low (gL MA115.out.2.2.2.2.2.2.2.1).size,(gB MA115.out.1).mono hb nr,⟨(gL MA115.out.2.2.2.1).trans (hb.mono (gL MA115.out.2.2.2.1).size),rfl⟩,(gB MA115.out.2.2.2.2.1).mono hb nr,(gB MA115.out.2.2.2.2.2.1).mono hb nr,(gB MA115.out.2.2.2.2.2.2.1).mono hb nr,⟨(gL MA115.out.2.2.2.2.2.2.2.1).trans (hb.mono (gL MA115.out.2.2.2.2.2.2.2.1).size),rfl⟩,trivial⟩
        clear hg hb MA115
        go_wp2_with fail
        refine hK.out _ _ ?_ (fun hHeld=>?_)
        ·
         exact d543 (gB MA119.out.2.2.2.2.2.1) (gB MA119.out.2.2.2.2.1) (gB MA119.out.2.2.2.1)
        clear hK K
        refine rl 8 fun K hK=>?_
        refine step_row rfl 50 _ _ rfl hq #[.int .i64 c,.bool X.ok,.slice j1 X.no jc1,.slice j2 X.np jc2,.slice j3 X.nh jc3] rfl rfl 50 _ (gB MA119.out.2.1) (by kernel_rfl) rfl (by kernel_rfl) ?_
        intro W120 hB9 hF9
        have MA121:Hid (Sts [kFg w.heap.size X (.slice j1 X.no jc1) (.slice j2 X.np jc2) (.slice j3 X.nh jc3) rj rcj,kBx (hq) 50 (vAn c X j1 jc1 j2 jc2 j3 jc3),kBn w20.heap.size w20,kBx (w.heap.size+1+1) 48 (vEv op o lie),kBx (w.heap.size+1) 31 (vFr f oa oc pa pc ha hc),kBx (w.heap.size) 26 (vPl p wa wk ya yc ba bc),kBn w.heap.size w] W120):=⟨(gFg MA119.out.1).frb (gB MA119.out.2.1) hF9,hB9,⟨blf MA119.out.2.2.1 HL117.out hF9,rfl⟩,bxf (gB MA119.out.2.2.2.1) (gB MA119.out.2.1) hF9,bxf (gB MA119.out.2.2.2.2.1) (gB MA119.out.2.1) hF9,bxf (gB MA119.out.2.2.2.2.2.1) (gB MA119.out.2.1) hF9,⟨blf MA119.out.2.2.2.2.2.2.1 HL116.out hF9,rfl⟩,trivial⟩
        clear hB9 hF9 MA119
        simp only[Act.put]
        refine hK.out _ _ ?_ (fun hHeld=>?_)
        ·
         exact d543 (gB MA121.out.2.2.2.2.2.1) (gB MA121.out.2.2.2.2.1) (gB MA121.out.2.2.2.1)
        clear hK K
        refine wpAnyH_done (by kernel_rfl) ?_ _
        clear hHeld
        go_wp2_with fail
        go_meet
        case rel=>exact⟨hq,j1,j2,j3,jc1,jc2,jc3,rj,rcj,rfl,⟨(gFg MA121.out.1),(gB MA121.out.2.1),⟨(gL MA121.out.2.2.1),rfl⟩,trivial⟩⟩
      ·
       have MA123:=stx (k:=kBx (wh102.heap.size) 50 z5v) (sta MA103 (.cells z5v 50)) (Box.new _ _ _)
       have HL124:Hid (w.heap.size<=wh102.heap.size):=(gL MA103.out.2.2.2.2.2.2.1).size
       have HL125:Hid (w20.heap.size<=wh102.heap.size):=(gL MA103.out.2.2.1).size
       clear MA103
       go_simp
       refine hK.out _ _ ?_ (fun hHeld=>?_)
       ·
        exact d543 (gB MA123.out.2.2.2.2.2.2.1) (gB MA123.out.2.2.2.2.2.1) (gB MA123.out.2.2.2.2.1)
       clear hK K
       clear hHeld
       generalize wh102.alloc (.cells z5v 50)=V122 at MA123⊢
       generalize wh102.heap.size=hq at MA123 HL124 HL125⊢
       refine rl 5 fun K hK=>?_
       go_simp
       refine(toEv19 op o lie _).mono ?_
       rintro e wh126 ⟨rfl,hb⟩
       have MA127:=stm MA123 hb
       clear hb MA123
       go_wp2_with fail
       refine hK.out _ _ ?_ (fun hHeld=>?_)
       ·
        exact d543 (gB MA127.out.2.2.2.2.2.2.1) (gB MA127.out.2.2.2.2.2.1) (gB MA127.out.2.2.2.2.1)
       clear hK K
       refine rl 6 fun K hK=>?_
       go_simp
       refine(HDO.out _ _ _ _ _ _ _ _ _ _ (gPl MA127.out.2.2.1) (gFo MA127.out.2.1) (HSN.out _ (gL MA127.out.2.2.2.2.2.2.2.1))).mono ?_
       rintro e wh128 ⟨j1,j2,j3,jc1,jc2,jc3,rj,rcj,rfl,hg,hb⟩
       have MA129:Hid (Sts [kFg w.heap.size X (.slice j1 X.no jc1) (.slice j2 X.np jc2) (.slice j3 X.nh jc3) rj rcj,kBx (hq) 50 z5v,kBn w20.heap.size w20,kBx (w.heap.size+1+1) 48 (vEv op o lie),kBx (w.heap.size+1) 31 (vFr f oa oc pa pc ha hc),kBx (w.heap.size) 26 (vPl p wa wk ya yc ba bc),kBn w.heap.size w] wh128):=⟨hg.low (gL MA127.out.2.2.2.2.2.2.2.1).size,(gB MA127.out.1).mono hb nr,⟨(gL MA127.out.2.2.2.1).trans (hb.mono (gL MA127.out.2.2.2.1).size),rfl⟩,(gB MA127.out.2.2.2.2.1).mono hb nr,(gB MA127.out.2.2.2.2.2.1).mono hb nr,(gB MA127.out.2.2.2.2.2.2.1).mono hb nr,⟨(gL MA127.out.2.2.2.2.2.2.2.1).trans (hb.mono (gL MA127.out.2.2.2.2.2.2.2.1).size),rfl⟩,trivial⟩
       clear hg hb MA127
       go_wp2_with fail
       refine hK.out _ _ ?_ (fun hHeld=>?_)
       ·
        exact d543 (gB MA129.out.2.2.2.2.2.1) (gB MA129.out.2.2.2.2.1) (gB MA129.out.2.2.2.1)
       clear hK K
       refine rl 8 fun K hK=>?_
       refine step_row rfl 50 _ _ rfl hq #[.int .i64 c,.bool X.ok,.slice j1 X.no jc1,.slice j2 X.np jc2,.slice j3 X.nh jc3] rfl rfl 50 _ (gB MA129.out.2.1) (by kernel_rfl) rfl (by kernel_rfl) ?_
       intro W130 hB9 hF9
       have MA131:Hid (Sts [kFg w.heap.size X (.slice j1 X.no jc1) (.slice j2 X.np jc2) (.slice j3 X.nh jc3) rj rcj,kBx (hq) 50 (vAn c X j1 jc1 j2 jc2 j3 jc3),kBn w20.heap.size w20,kBx (w.heap.size+1+1) 48 (vEv op o lie),kBx (w.heap.size+1) 31 (vFr f oa oc pa pc ha hc),kBx (w.heap.size) 26 (vPl p wa wk ya yc ba bc),kBn w.heap.size w] W130):=⟨(gFg MA129.out.1).frb (gB MA129.out.2.1) hF9,hB9,⟨blf MA129.out.2.2.1 HL125.out hF9,rfl⟩,bxf (gB MA129.out.2.2.2.1) (gB MA129.out.2.1) hF9,bxf (gB MA129.out.2.2.2.2.1) (gB MA129.out.2.1) hF9,bxf (gB MA129.out.2.2.2.2.2.1) (gB MA129.out.2.1) hF9,⟨blf MA129.out.2.2.2.2.2.2.1 HL124.out hF9,rfl⟩,trivial⟩
       clear hB9 hF9 MA129
       simp only[Act.put]
       refine hK.out _ _ ?_ (fun hHeld=>?_)
       ·
        exact d543 (gB MA131.out.2.2.2.2.2.1) (gB MA131.out.2.2.2.2.1) (gB MA131.out.2.2.2.1)
       clear hK K
       refine wpAnyH_done (by kernel_rfl) ?_ _
       clear hHeld
       go_wp2_with fail
       go_meet
       case rel=>exact⟨hq,j1,j2,j3,jc1,jc2,jc3,rj,rcj,rfl,⟨(gFg MA131.out.1),(gB MA131.out.2.1),⟨(gL MA131.out.2.2.1),rfl⟩,trivial⟩⟩
     ·
      have MA133:=stx (k:=kBx (wh100.heap.size) 50 z5v) (sta MA101 (.cells z5v 50)) (Box.new _ _ _)
      have HL134:Hid (w.heap.size<=wh100.heap.size):=(gL MA101.out.2.2.2.2.2.1).size
      have HL135:Hid (w20.heap.size<=wh100.heap.size):=(gL MA101.out.2.1).size
      clear MA101
      go_simp
      refine hK.out _ _ ?_ (fun hHeld=>?_)
      ·
       exact d543 (gB MA133.out.2.2.2.2.2.1) (gB MA133.out.2.2.2.2.1) (gB MA133.out.2.2.2.1)
      clear hK K
      clear hHeld
      generalize wh100.alloc (.cells z5v 50)=V132 at MA133⊢
      generalize wh100.heap.size=hq at MA133 HL134 HL135⊢
      refine rl 3 fun K hK=>?_
      go_simp
      refine(HTF.out _ (gL MA133.out.2.2.2.2.2.2.1)).mono ?_
      rintro e wh136 ⟨obx,pbx,hbx,rx,rfl,ho,hb⟩
      have MA137:=stx (k:=kFo f (.slice (some (ad obx 0)) f.no f.no) (.slice (some (ad pbx 0)) f.np f.np) (.slice (some (ad hbx 0)) f.nh f.nh) rx) (stm MA133 hb) (ho.mono (Nat.zero_le _) (Below.refl _ _) nr)
      clear hb ho MA133
      go_wp2_with fail
      refine hK.out _ _ ?_ (fun hHeld=>?_)
      ·
       exact d543 (gB MA137.out.2.2.2.2.2.2.1) (gB MA137.out.2.2.2.2.2.1) (gB MA137.out.2.2.2.2.1)
      clear hK K
      refine rl 5 fun K hK=>?_
      go_simp
      refine(toEv19 op o lie _).mono ?_
      rintro e wh138 ⟨rfl,hb⟩
      have MA139:=stm MA137 hb
      clear hb MA137
      go_wp2_with fail
      refine hK.out _ _ ?_ (fun hHeld=>?_)
      ·
       exact d543 (gB MA139.out.2.2.2.2.2.2.1) (gB MA139.out.2.2.2.2.2.1) (gB MA139.out.2.2.2.2.1)
      clear hK K
      refine rl 6 fun K hK=>?_
      go_simp
      refine(HDO.out _ _ _ _ _ _ _ _ _ _ (gPl MA139.out.2.2.1) (gFo MA139.out.1) (HSN.out _ (gL MA139.out.2.2.2.2.2.2.2.1))).mono ?_
      rintro e wh140 ⟨j1,j2,j3,jc1,jc2,jc3,rj,rcj,rfl,hg,hb⟩
      have MA141:Hid (Sts [kFg w.heap.size X (.slice j1 X.no jc1) (.slice j2 X.np jc2) (.slice j3 X.nh jc3) rj rcj,kBx (hq) 50 z5v,kBn w20.heap.size w20,kBx (w.heap.size+1+1) 48 (vEv op o lie),kBx (w.heap.size+1) 31 (vFr f oa oc pa pc ha hc),kBx (w.heap.size) 26 (vPl p wa wk ya yc ba bc),kBn w.heap.size w] wh140):=⟨hg.low (gL MA139.out.2.2.2.2.2.2.2.1).size,(gB MA139.out.2.1).mono hb nr,⟨(gL MA139.out.2.2.2.1).trans (hb.mono (gL MA139.out.2.2.2.1).size),rfl⟩,(gB MA139.out.2.2.2.2.1).mono hb nr,(gB MA139.out.2.2.2.2.2.1).mono hb nr,(gB MA139.out.2.2.2.2.2.2.1).mono hb nr,⟨(gL MA139.out.2.2.2.2.2.2.2.1).trans (hb.mono (gL MA139.out.2.2.2.2.2.2.2.1).size),rfl⟩,trivial⟩
      clear hg hb MA139
      go_wp2_with fail
      refine hK.out _ _ ?_ (fun hHeld=>?_)
      ·
       exact d543 (gB MA141.out.2.2.2.2.2.1) (gB MA141.out.2.2.2.2.1) (gB MA141.out.2.2.2.1)
      clear hK K
      refine rl 8 fun K hK=>?_
      refine step_row rfl 50 _ _ rfl hq #[.int .i64 c,.bool X.ok,.slice j1 X.no jc1,.slice j2 X.np jc2,.slice j3 X.nh jc3] rfl rfl 50 _ (gB MA141.out.2.1) (by kernel_rfl) rfl (by kernel_rfl) ?_
      intro W142 hB9 hF9
      have MA143:Hid (Sts [kFg w.heap.size X (.slice j1 X.no jc1) (.slice j2 X.np jc2) (.slice j3 X.nh jc3) rj rcj,kBx (hq) 50 (vAn c X j1 jc1 j2 jc2 j3 jc3),kBn w20.heap.size w20,kBx (w.heap.size+1+1) 48 (vEv op o lie),kBx (w.heap.size+1) 31 (vFr f oa oc pa pc ha hc),kBx (w.heap.size) 26 (vPl p wa wk ya yc ba bc),kBn w.heap.size w] W142):=⟨(gFg MA141.out.1).frb (gB MA141.out.2.1) hF9,hB9,⟨blf MA141.out.2.2.1 HL135.out hF9,rfl⟩,bxf (gB MA141.out.2.2.2.1) (gB MA141.out.2.1) hF9,bxf (gB MA141.out.2.2.2.2.1) (gB MA141.out.2.1) hF9,bxf (gB MA141.out.2.2.2.2.2.1) (gB MA141.out.2.1) hF9,⟨blf MA141.out.2.2.2.2.2.2.1 HL134.out hF9,rfl⟩,trivial⟩
      clear hB9 hF9 MA141
      simp only[Act.put]
      refine hK.out _ _ ?_ (fun hHeld=>?_)
      ·
       exact d543 (gB MA143.out.2.2.2.2.2.1) (gB MA143.out.2.2.2.2.1) (gB MA143.out.2.2.2.1)
      clear hK K
      refine wpAnyH_done (by kernel_rfl) ?_ _
      clear hHeld
      go_wp2_with fail
      go_meet
      case rel=>exact⟨hq,j1,j2,j3,jc1,jc2,jc3,rj,rcj,rfl,⟨(gFg MA143.out.1),(gB MA143.out.2.1),⟨(gL MA143.out.2.2.1),rfl⟩,trivial⟩⟩
    ·
     have MA145:=stx (k:=kBx (VD6.heap.size) 50 z5v) (sta MD99 (.cells z5v 50)) (Box.new _ _ _)
     have HL146:Hid (w.heap.size<=VD6.heap.size):=(gL MD99.out.2.2.2.2.1).size
     have HL147:Hid (w20.heap.size<=VD6.heap.size):=(gL MD99.out.1).size
     clear MD99
     go_simp
     refine hK.out _ _ ?_ (fun hHeld=>?_)
     ·
      exact d543 (gB MA145.out.2.2.2.2.1) (gB MA145.out.2.2.2.1) (gB MA145.out.2.2.1)
     clear hK K
     clear hHeld
     generalize VD6.alloc (.cells z5v 50)=V144 at MA145⊢
     generalize VD6.heap.size=hq at MA145 HL146 HL147⊢
     refine rl 1 fun K hK=>?_
     go_simp
     refine(HTP.out _ (gL MA145.out.2.2.2.2.2.1)).mono ?_
     rintro e wh148 ⟨wbx,ybx,bbx,lox,rrx,rfl,ho,hb⟩
     have MA149:=stx (k:=kPl p wbx ybx bbx lox rrx) (stm MA145 hb) (ho.mono (Nat.zero_le _) (Below.refl _ _) nr)
     clear hb ho MA145
     go_wp2_with fail
     refine hK.out _ _ ?_ (fun hHeld=>?_)
     ·
      exact d543 (gB MA149.out.2.2.2.2.2.1) (gB MA149.out.2.2.2.2.1) (gB MA149.out.2.2.2.1)
     clear hK K
     refine rl 3 fun K hK=>?_
     go_simp
     refine(HTF.out _ (gL MA149.out.2.2.2.2.2.2.1)).mono ?_
     rintro e wh150 ⟨obx,pbx,hbx,rx,rfl,ho,hb⟩
     have MA151:=stx (k:=kFo f (.slice (some (ad obx 0)) f.no f.no) (.slice (some (ad pbx 0)) f.np f.np) (.slice (some (ad hbx 0)) f.nh f.nh) rx) (stm MA149 hb) (ho.mono (Nat.zero_le _) (Below.refl _ _) nr)
     clear hb ho MA149
     go_wp2_with fail
     refine hK.out _ _ ?_ (fun hHeld=>?_)
     ·
      exact d543 (gB MA151.out.2.2.2.2.2.2.1) (gB MA151.out.2.2.2.2.2.1) (gB MA151.out.2.2.2.2.1)
     clear hK K
     refine rl 5 fun K hK=>?_
     go_simp
     refine(toEv19 op o lie _).mono ?_
     rintro e wh152 ⟨rfl,hb⟩
     have MA153:=stm MA151 hb
     clear hb MA151
     go_wp2_with fail
     refine hK.out _ _ ?_ (fun hHeld=>?_)
     ·
      exact d543 (gB MA153.out.2.2.2.2.2.2.1) (gB MA153.out.2.2.2.2.2.1) (gB MA153.out.2.2.2.2.1)
     clear hK K
     refine rl 6 fun K hK=>?_
     go_simp
     refine(HDO.out _ _ _ _ _ _ _ _ _ _ (gPl MA153.out.2.1) (gFo MA153.out.1) (HSN.out _ (gL MA153.out.2.2.2.2.2.2.2.1))).mono ?_
     rintro e wh154 ⟨j1,j2,j3,jc1,jc2,jc3,rj,rcj,rfl,hg,hb⟩
     have MA155:Hid (Sts [kFg w.heap.size X (.slice j1 X.no jc1) (.slice j2 X.np jc2) (.slice j3 X.nh jc3) rj rcj,kBx (hq) 50 z5v,kBn w20.heap.size w20,kBx (w.heap.size+1+1) 48 (vEv op o lie),kBx (w.heap.size+1) 31 (vFr f oa oc pa pc ha hc),kBx (w.heap.size) 26 (vPl p wa wk ya yc ba bc),kBn w.heap.size w] wh154):=⟨hg.low (gL MA153.out.2.2.2.2.2.2.2.1).size,(gB MA153.out.2.2.1).mono hb nr,⟨(gL MA153.out.2.2.2.1).trans (hb.mono (gL MA153.out.2.2.2.1).size),rfl⟩,(gB MA153.out.2.2.2.2.1).mono hb nr,(gB MA153.out.2.2.2.2.2.1).mono hb nr,(gB MA153.out.2.2.2.2.2.2.1).mono hb nr,⟨(gL MA153.out.2.2.2.2.2.2.2.1).trans (hb.mono (gL MA153.out.2.2.2.2.2.2.2.1).size),rfl⟩,trivial⟩
     clear hg hb MA153
     go_wp2_with fail
     refine hK.out _ _ ?_ (fun hHeld=>?_)
     ·
      exact d543 (gB MA155.out.2.2.2.2.2.1) (gB MA155.out.2.2.2.2.1) (gB MA155.out.2.2.2.1)
     clear hK K
     refine rl 8 fun K hK=>?_
     refine step_row rfl 50 _ _ rfl hq #[.int .i64 c,.bool X.ok,.slice j1 X.no jc1,.slice j2 X.np jc2,.slice j3 X.nh jc3] rfl rfl 50 _ (gB MA155.out.2.1) (by kernel_rfl) rfl (by kernel_rfl) ?_
     intro W156 hB9 hF9
     have MA157:Hid (Sts [kFg w.heap.size X (.slice j1 X.no jc1) (.slice j2 X.np jc2) (.slice j3 X.nh jc3) rj rcj,kBx (hq) 50 (vAn c X j1 jc1 j2 jc2 j3 jc3),kBn w20.heap.size w20,kBx (w.heap.size+1+1) 48 (vEv op o lie),kBx (w.heap.size+1) 31 (vFr f oa oc pa pc ha hc),kBx (w.heap.size) 26 (vPl p wa wk ya yc ba bc),kBn w.heap.size w] W156):=⟨(gFg MA155.out.1).frb (gB MA155.out.2.1) hF9,hB9,⟨blf MA155.out.2.2.1 HL147.out hF9,rfl⟩,bxf (gB MA155.out.2.2.2.1) (gB MA155.out.2.1) hF9,bxf (gB MA155.out.2.2.2.2.1) (gB MA155.out.2.1) hF9,bxf (gB MA155.out.2.2.2.2.2.1) (gB MA155.out.2.1) hF9,⟨blf MA155.out.2.2.2.2.2.2.1 HL146.out hF9,rfl⟩,trivial⟩
     clear hB9 hF9 MA155
     simp only[Act.put]
     refine hK.out _ _ ?_ (fun hHeld=>?_)
     ·
      exact d543 (gB MA157.out.2.2.2.2.2.1) (gB MA157.out.2.2.2.2.1) (gB MA157.out.2.2.2.1)
     clear hK K
     refine wpAnyH_done (by kernel_rfl) ?_ _
     clear hHeld
     go_wp2_with fail
     go_meet
     case rel=>exact⟨hq,j1,j2,j3,jc1,jc2,jc3,rj,rcj,rfl,⟨(gFg MA157.out.1),(gB MA157.out.2.1),⟨(gL MA157.out.2.2.1),rfl⟩,trivial⟩⟩
   case rest=>
    obtain⟨hq,j1,j2,j3,jc1,jc2,jc3,rj,rcj,rfl,M31⟩:=hcut
    generalize wc=w31 at M31⊢
    have Z31:=stm Z20 (gL M31.out.2.2.1)
    clear Z20 MR
    have MT:=stm M5 (gL Z31.out.2.2.1)
    obtain⟨x0,x1,x2,x3,x4⟩:=(gB MT.out.1).c5
    clear MT
    obtain⟨y0,y1,y2,y3,y4⟩:=(gB M31.out.2.1).c5
    go_wp2_with fail
    clear y0 y1 y2 y3 y4 x0 x1 x2 x3 x4
    refine(eqDone17 c X j1 j2 j3 s1 s2 s3 jc1 jc2 jc3 sc1 sc2 sc3 w31 HXS.out (gFg M31.out.1).in (HF5.out.mono nr (gL Z31.out.2.2.1) nr)).mono ?_
    rintro e w32 ⟨rfl,hb⟩
    have Z32:=stm Z31 hb
    clear hb Z31 M31
    obtain⟨y0,y1,y2,y3,y4⟩:=(gB Z32.out.2.1).c5
    go_wp2_with fail
    clear y0 y1 y2 y3 y4
    refine(held21 c X g1 g2 g3 gc1 gc2 gc3 w32 HXS.out (gFg Z32.out.1).in).mono ?_
    rintro e w33 ⟨rfl,hb⟩
    have HE:Hid (Below w.heap.size w w33):=gL (stm M4 (gL (stm Z32 hb).out.2.2.1)).out.2.2.2.1
    rw[hmE.out]
    clear hb Z32
    go_wp2_with fail
    go_ret
    exact⟨rfl,HE.out⟩
end Go.Proofs.YtkeilejbelblcaaGreatDoor
