import Derived.Test.YtkeilejbelblcaaGreatDoorJbg
import Derived.Test.YtkeilejbelblcaaGreatDoorS6
import Derived.Test.YtkeilejbelblcaaGreatDoorJbf
import Derived.Test.YtkeilejbelblcaaGreatDoorJau
import Derived.Test.YtkeilejbelblcaaGreatDoorK7
namespace Go.Proofs.YtkeilejbelblcaaGreatDoor
open Go.RowKit Go.Lib
theorem ready2_lit {P:Program}{L:List Oper}{Q:Exit->Act->World->Prop}{md:Region.Mode}{S:World->Prop}{i j:Nat}{o o':Oper}{fuel:Nat}{listed:Array Bool}{a:Act}{w:World}(hr:Region.ready md L.toArray listed= [i,j]) (ho:L[i]?=some o) (ho':L[j]?=some o')
  (h:∀K':Act->World->Prop,Shut (∀a w,S w->(S w->wpAnyH P md L.toArray Q S fuel (listed.setIfInBounds i true) a w)->K' a w)->if Region.wanted o (yielded L.toArray a.tmps)=true then Oper.wp P o a w K' Q else K' (a.put o.dst undef) w)
  (h':∀K':Act->World->Prop,Shut (∀a w,S w->(S w->wpAnyH P md L.toArray Q S fuel (listed.setIfInBounds j true) a w)->K' a w)->if Region.wanted o' (yielded L.toArray a.tmps)=true then Oper.wp P o' a w K' Q else K' (a.put o'.dst undef) w):wpAnyH P md L.toArray Q S (fuel+1) listed a w:=
 wpAnyH_ready hr (by simp) (AllReadyH.cons (by simpa using ho) h (AllReadyH.cons (by simpa using ho') h' AllReadyH.nil))
theorem fin3 {V0 W:World}{tq n1 n2 c1 c2:Nat}{a1 a2:Option Addr}{D1 D2:Nat->Int}(hB:Below V0.heap.size V0 W) (ht:V0.heap.size<=tq) (hb:Box W tq 141 z3v) (h1:VOwn V0.heap.size 3 1 W (.slice a1 n1 c1) n1 (oneF D1)) (h2:VOwn V0.heap.size 3 1 W (.slice a2 n2 c2) n2 (oneF D2)) (hn:∀g,(Value.slice a1 n1 c1).ownBlock=some g->(Value.slice a2 n2 c2).ownBlock≠some g):
  Below V0.heap.size V0 (((W.setCell (ad tq 0) (.slice a1 n1 c1)).setCell (ad tq 1) (.slice a2 n2 c2)).setCell (ad tq 2) (.slice none 0 0))/\V0.heap.size<=tq/\Box (((W.setCell (ad tq 0) (.slice a1 n1 c1)).setCell (ad tq 1) (.slice a2 n2 c2)).setCell (ad tq 2) (.slice none 0 0)) tq 141 #[.slice a1 n1 c1,.slice a2 n2 c2,.slice none 0 0]/\VOwn V0.heap.size 3 1 (((W.setCell (ad tq 0) (.slice a1 n1 c1)).setCell (ad tq 1) (.slice a2 n2 c2)).setCell (ad tq 2) (.slice none 0 0)) (.slice a1 n1 c1) n1 (oneF D1)/\VOwn V0.heap.size 3 1 (((W.setCell (ad tq 0) (.slice a1 n1 c1)).setCell (ad tq 1) (.slice a2 n2 c2)).setCell (ad tq 2) (.slice none 0 0)) (.slice a2 n2 c2) n2 (oneF D2)/\∀g,(Value.slice a1 n1 c1).ownBlock=some g->(Value.slice a2 n2 c2).ownBlock≠some g:=by
 have k1:=hb.set 0 (.slice a1 n1 c1)
 have k2:=k1.set 1 (.slice a2 n2 c2)
 have k3:=k2.set 2 (.slice none 0 0)
 exact⟨((hB.setCell ht _).setCell ht _).setCell ht _,ht,k3,((h1.set hb (by decide) _ _).set k1 (by decide) _ _).set k2 (by decide) _ _,((h2.set hb (by decide) _ _).set k1 (by decide) _ _).set k2 (by decide) _ _,hn⟩
set_option maxRecDepth 100000 in
set_option maxHeartbeats 32000000 in
theorem stays64 (p:Pl) (wb yb bb:Nat) (lo rr:Nat->Nat) (ob oo no oc pb po np pc:Nat) (ia:Option Addr) (ic:Nat) (O:Nat->Bool) (P:Nat->Nat->Int) (S:Nat->WS) (N:Nat->Nat) (x:Nat) (t4 t5:TypeId) (v4 v5:Value) (w:World) (hx:x<p.ny) (hs:p.small) (hok:p.Ok) (hP:PlOwn 0 w p wb yb bb lo rr) (h:WlAt w ia p.ny N S) (hO:VsAt 1 0 w (some (ad ob oo)) no (boolF O)) (hPt:VsAt 2 0 w (some (ad pb po)) np (intF P)) (hin:(p.Y x).In no np) (hno:no<=1048576) (hnp:np<=1048576) (hnpw:np=p.nw) (hsecn:(no:Int)=p.sec) (hsw:∀k,k<p.nw->∃o:Nat,p.W k=(o:Int)/\o<no) (h4:w.cell? (ad 4 0)=some (.iface t4 v4)) (h5:w.cell? (ad 5 0)=some (.iface t5 v5)) (l4:4<w.heap.size) (l5:5<w.heap.size):
  Calls Tryz.prog 142 #[.agg #[.int .i64 p.sec,.slice (some (ad wb 0)) p.nw p.nw,.slice (some (ad yb 0)) p.ny p.ny,.slice (some (ad bb 0)) p.nb p.nb,.int .i64 p.hold,.slice (some (ad ob oo)) no oc,.slice (some (ad pb po)) np pc,.slice ia p.ny ic],.int .i64 (x:Int)] w fun e w'=>StyR w p O P S x e w':=by
 have H:Hid (p.small/\p.Ok/\PlOwn 0 w p wb yb bb lo rr/\WlAt w ia p.ny N S/\VsAt 1 0 w (some (ad ob oo)) no (boolF O)/\VsAt 2 0 w (some (ad pb po)) np (intF P)/\(p.Y x).In no np):=⟨hs,hok,hP,h,hO,hPt,hin⟩
 have HG:Hid (w.cell? (ad 4 0)=some (.iface t4 v4)/\w.cell? (ad 5 0)=some (.iface t5 v5)/\4<w.heap.size/\5<w.heap.size):=⟨h4,h5,l4,l5⟩
 have HSEC:Hid ((no:Int)=p.sec):=hsecn
 obtain⟨i0,hi0,hz0,hs0',hb0⟩:=info_parts infoInt
 have HSWR:Hid ((∀k,k<p.nw->∃o:Nat,p.W k=(o:Int)/\o<no)/\np=p.nw):=⟨hsw,hnpw⟩
 have hny:=hs.2.1
 have hsmx:=hs.2.2.1 x hx
 have hnl:(p.Y x).nl<=1048576:=by have :=hsmx.2.1;omega
 have hnf:(p.Y x).nf<=1048576:=by have :=hsmx.2.2.1;omega
 have hns:(p.Y x).ns<=1048576:=by have :=hsmx.1;omega
 have hnov:(p.Y x).no<=1048576:=by have :=hsmx.2.2.2.1;omega
 clear hs hok hP h hO hPt hin hsw h4 h5 l4 l5 hsmx hnpw hsecn
 have hx0:(0:Int)<=(x:Int):=by omega
 have hxn:(x:Int)<(p.ny:Int):=by omega
 obtain⟨n1,HN1⟩:∃n,Hid ((selN (fun k=>agS p S x k) p.ny)=n):=⟨_,rfl⟩
 obtain⟨D1,HD1⟩:∃n,Hid ((selD (fun k=>agS p S x k) p.ny)=n):=⟨_,rfl⟩
 obtain⟨n2,HN2⟩:∃n,Hid ((selN (occC (p.Y x) O) ((p.Y x).ns+(p.Y x).no))=n):=⟨_,rfl⟩
 obtain⟨D2,HD2⟩:∃n,Hid ((selE (occC (p.Y x) O) (secC (p.Y x)) ((p.Y x).ns+(p.Y x).no))=n):=⟨_,rfl⟩
 have S0:Hid (Below w.heap.size w ((w.alloc (.cells (vDk p wb yb bb (some (ad ob oo)) no oc (some (ad pb po)) np pc ia ic) 84)).alloc (.cells z3v 141))/\Box ((w.alloc (.cells (vDk p wb yb bb (some (ad ob oo)) no oc (some (ad pb po)) np pc ia ic) 84)).alloc (.cells z3v 141)) w.heap.size 84 (vDk p wb yb bb (some (ad ob oo)) no oc (some (ad pb po)) np pc ia ic)/\Box ((w.alloc (.cells (vDk p wb yb bb (some (ad ob oo)) no oc (some (ad pb po)) np pc ia ic) 84)).alloc (.cells z3v 141)) (w.heap.size+1) 141 z3v):=⟨bel2 _ _ _,(Box.new _ _ _).alloc _,by have :=Box.new (w.alloc (.cells (vDk p wb yb bb (some (ad ob oo)) no oc (some (ad pb po)) np pc ia ic) 84)) 141 z3v;simpa using this⟩
 go_enter Tryz.func142,Tryz.ntmps142
 go_upto_region 1 with fail
 generalize ((w.alloc (.cells (vDk p wb yb bb (some (ad ob oo)) no oc (some (ad pb po)) np pc ia ic) 84)).alloc (.cells z3v 141))=V0 at S0⊢
 have HST:Hid (∀W,Below V0.heap.size V0 W->Below w.heap.size w W/\Box W w.heap.size 84 (vDk p wb yb bb (some (ad ob oo)) no oc (some (ad pb po)) np pc ia ic)/\Box W (w.heap.size+1) 141 z3v):=fun W hB=>⟨S0.out.1.trans (hB.mono S0.out.1.size),S0.out.2.1.mono hB nr,S0.out.2.2.mono hB nr⟩
 go_cut [5] from 8 (fun s5 wx=>∃(tq:Nat) (a1:Option Addr) (c1:Nat) (a2:Option Addr) (c2:Nat),s5=.pointer (some (ad tq 0))/\Hid (Below V0.heap.size V0 wx/\V0.heap.size<=tq/\Box wx tq 141 #[.slice a1 n1 c1,.slice a2 n2 c2,.slice none 0 0]/\VOwn V0.heap.size 3 1 wx (.slice a1 n1 c1) n1 (oneF D1)/\VOwn V0.heap.size 3 1 wx (.slice a2 n2 c2) n2 (oneF D2)/\∀g,(Value.slice a1 n1 c1).ownBlock=some g->(Value.slice a2 n2 c2).ownBlock≠some g))
 case first =>
  have HB0:Hid (Below V0.heap.size V0 V0.drew):=(Below.refl _ _).drew
  have d0:V0.cell? (ad w.heap.size 0)=some (.int .i64 p.sec):=(HST.out V0 (Below.refl _ V0)).2.1.cell 0
  have d1:V0.cell? (ad w.heap.size 1)=some (.slice (some (ad wb 0)) p.nw p.nw):=(HST.out V0 (Below.refl _ V0)).2.1.cell 1
  have d2:V0.cell? (ad w.heap.size 2)=some (.slice (some (ad yb 0)) p.ny p.ny):=(HST.out V0 (Below.refl _ V0)).2.1.cell 2
  have d3:V0.cell? (ad w.heap.size 3)=some (.slice (some (ad bb 0)) p.nb p.nb):=(HST.out V0 (Below.refl _ V0)).2.1.cell 3
  have d4:V0.cell? (ad w.heap.size 4)=some (.int .i64 p.hold):=(HST.out V0 (Below.refl _ V0)).2.1.cell 4
  have d5:V0.cell? (ad w.heap.size 5)=some (.slice (some (ad ob oo)) no oc):=(HST.out V0 (Below.refl _ V0)).2.1.cell 5
  have d6:V0.cell? (ad w.heap.size 6)=some (.slice (some (ad pb po)) np pc):=(HST.out V0 (Below.refl _ V0)).2.1.cell 6
  have d7:V0.cell? (ad w.heap.size 7)=some (.slice ia p.ny ic):=(HST.out V0 (Below.refl _ V0)).2.1.cell 7
  go_wp2_with fail
  refine wp_region_held_drew (S:=(fun wx:World=>wx.cell? (ad w.heap.size 0)=some (.int .i64 p.sec)/\wx.cell? (ad w.heap.size 1)=some (.slice (some (ad wb 0)) p.nw p.nw)/\wx.cell? (ad w.heap.size 2)=some (.slice (some (ad yb 0)) p.ny p.ny)/\wx.cell? (ad w.heap.size 3)=some (.slice (some (ad bb 0)) p.nb p.nb)/\wx.cell? (ad w.heap.size 4)=some (.int .i64 p.hold)/\wx.cell? (ad w.heap.size 5)=some (.slice (some (ad ob oo)) no oc)/\wx.cell? (ad w.heap.size 6)=some (.slice (some (ad pb po)) np pc)/\wx.cell? (ad w.heap.size 7)=some (.slice ia p.ny ic))) (by kernel_rfl) ?_ (fun hHeld=>?_)
  ·
   exact d8 ((HST.out _ (Below.refl _ V0)).2.1)
  generalize V0.drew=VD at HB0 hHeld⊢
  refine tk 0 ?_
  refine tk 1 ?_
  refine tk 3 ?_
  refine tk 4 ?_
  refine ready2_lit (i:=2) (j:=8) (by kernel_rfl) rfl rfl (fun K hK=>?_) (fun K hK=>?_)
  ·
   go_simp
   refine(against96 p wb yb bb lo rr (some (ad ob oo)) no oc (some (ad pb po)) np pc ia ic S N x VD hx H.out.1 H.out.2.1 (H.out.2.2.1.mono nr (HST.out _ HB0.out).1 nr) (H.out.2.2.2.1.mono (HST.out _ HB0.out).1 nr)).mono ?_
   rintro e w3b4 ⟨a1,c1,he,ho1,hb⟩
   rw[HN1.out] at he ho1
   rw[HD1.out] at ho1
   subst he
   have HB1:Hid (Below V0.heap.size V0 w3b4):=HB0.out.trans (hb.mono HB0.out.size)
   have HO1:Hid (VOwn V0.heap.size 3 1 w3b4 (.slice a1 n1 c1) n1 (oneF D1)):=ho1.keep HB0.out.size fun _ _=>rfl
   clear hb
   go_wp2_with fail
   refine hK.out _ _ ?_ (fun hHeldX=>?_)
   ·
    exact d8 ((HST.out _ HB1.out).2.1)
   clear hK K
   refine ready2_lit (i:=5) (j:=8) (by kernel_rfl) rfl rfl (fun K hK=>?_) (fun K hK=>?_)
   ·
    go_simp
    refine(view69 p wb yb bb lo rr (some (ad ob oo)) no oc (some (ad pb po)) np pc ia ic O P x w3b4 hx H.out.1 (H.out.2.2.1.mono nr (HST.out _ HB1.out).1 nr) (H.out.2.2.2.2.1.mono nr (HST.out _ HB1.out).1 nr) (H.out.2.2.2.2.2.1.mono nr (HST.out _ HB1.out).1 nr) H.out.2.2.2.2.2.2 hno hnp).mono ?_
    rintro e w4b5 ⟨b1,b2,b3,b4,b5,rfl,hvw,hb⟩
    have HB2:Hid (Below V0.heap.size V0 w4b5):=HB1.out.trans (hb.mono HB1.out.size)
    have HO2:Hid (VOwn V0.heap.size 3 1 w4b5 (.slice a1 n1 c1) n1 (oneF D1)):=HO1.out.mono nr hb nr
    have HVW:Hid (VwIn w4b5 (p.Y x) b1 b2 b3 b4 b5 (some (ad ob oo)) no O (some (ad pb po)) np P):=hvw
    clear hvw
    clear hb
    go_wp2_with fail
    refine hK.out _ _ ?_ (fun hHeldX=>?_)
    ·
     exact d8 ((HST.out _ HB2.out).2.1)
    clear hK K
    refine ready2_lit (i:=6) (j:=8) (by kernel_rfl) rfl rfl (fun K hK=>?_) (fun K hK=>?_)
    ·
     go_simp
     refine(crowd98 (p.Y x) b1 b2 b3 b4 b5 (some (ad ob oo)) no oc O (some (ad pb po)) np pc P w4b5 HVW.out).mono ?_
     rintro e w5b6 ⟨a2,c2,he,ho2,hb⟩
     rw[HN2.out] at he ho2
     rw[HD2.out] at ho2
     subst he
     have HB3:Hid (Below V0.heap.size V0 w5b6):=HB2.out.trans (hb.mono HB2.out.size)
     have HO3:Hid (VOwn V0.heap.size 3 1 w5b6 (.slice a1 n1 c1) n1 (oneF D1)/\VOwn V0.heap.size 3 1 w5b6 (.slice a2 n2 c2) n2 (oneF D2)/\∀g,(Value.slice a1 n1 c1).ownBlock=some g->(Value.slice a2 n2 c2).ownBlock≠some g):=⟨HO2.out.mono nr hb nr,ho2.keep HB2.out.size fun _ _=>rfl,fun g h1 h2=>by have :=(HO2.out.lt h1).2;have :=(ho2.lt h2).1;omega⟩
     clear hb
     go_wp2_with fail
     refine hK.out _ _ ?_ (fun hHeldX=>?_)
     ·
      exact d8 ((HST.out _ HB3.out).2.1)
     clear hK K
     refine tk 7 ?_
     refine rl 8 fun K hK=>?_
     have HA:Hid (Below V0.heap.size V0 (w5b6.alloc (.cells z3v 141))/\Box (w5b6.alloc (.cells z3v 141)) w5b6.heap.size 141 z3v/\V0.heap.size<=w5b6.heap.size):=⟨HB3.out.alloc HB3.out.size _,Box.new _ _ _,HB3.out.size⟩
     have HOA:Hid (VOwn V0.heap.size 3 1 (w5b6.alloc (.cells z3v 141)) (.slice a1 n1 c1) n1 (oneF D1)/\VOwn V0.heap.size 3 1 (w5b6.alloc (.cells z3v 141)) (.slice a2 n2 c2) n2 (oneF D2)/\∀g,(Value.slice a1 n1 c1).ownBlock=some g->(Value.slice a2 n2 c2).ownBlock≠some g):=⟨HO3.out.1.alloc _,HO3.out.2.1.alloc _,HO3.out.2.2⟩
     go_simp
     refine hK.out _ _ ?_ (fun hHeldX=>?_)
     ·
      exact d8 ((HST.out _ HA.out.1).2.1)
     clear hK K
     generalize w5b6.alloc (.cells z3v 141)=V6x8 at HA HOA⊢
     generalize w5b6.heap.size=tq at HA⊢
     have HTQ:Hid (V0.heap.size<=tq):=HA.out.2.2
     have TB3:Hid (Box V6x8 tq 141 z3v):=HA.out.2.1
     clear HB3
     have HB3:Hid (Below V0.heap.size V0 V6x8):=HA.out.1
     clear HA HO3
     have HO3:=HOA
     clear HOA
     obtain⟨z0,z1,z2⟩:=TB3.out.c3
     obtain⟨f0,f1,f2⟩:=TB3.out.f3
     have HF:Hid (Below V0.heap.size V0 (((V6x8.setCell (ad tq 0) (.slice a1 n1 c1)).setCell (ad tq 1) (.slice a2 n2 c2)).setCell (ad tq 2) (.slice none 0 0))/\V0.heap.size<=tq/\Box (((V6x8.setCell (ad tq 0) (.slice a1 n1 c1)).setCell (ad tq 1) (.slice a2 n2 c2)).setCell (ad tq 2) (.slice none 0 0)) tq 141 #[.slice a1 n1 c1,.slice a2 n2 c2,.slice none 0 0]/\VOwn V0.heap.size 3 1 (((V6x8.setCell (ad tq 0) (.slice a1 n1 c1)).setCell (ad tq 1) (.slice a2 n2 c2)).setCell (ad tq 2) (.slice none 0 0)) (.slice a1 n1 c1) n1 (oneF D1)/\VOwn V0.heap.size 3 1 (((V6x8.setCell (ad tq 0) (.slice a1 n1 c1)).setCell (ad tq 1) (.slice a2 n2 c2)).setCell (ad tq 2) (.slice none 0 0)) (.slice a2 n2 c2) n2 (oneF D2)/\∀g,(Value.slice a1 n1 c1).ownBlock=some g->(Value.slice a2 n2 c2).ownBlock≠some g):=fin3 HB3.out HTQ.out TB3.out HO3.out.1 HO3.out.2.1 HO3.out.2.2
     refine rl 9 fun K hK=>?_
     go_simp
     refine hK.out _ _ ?_ (fun hHeldX=>?_)
     ·
      exact d8 ((HST.out _ HF.out.1).2.1)
     clear hK K
     refine wpAnyH_done (by kernel_rfl) ?_ _
     clear z0 z1 z2 f0 f1 f2
     go_wp2_with fail
     go_meet
     case rel=>exact⟨tq,a1,c1,a2,c2,rfl,HF⟩
    ·
     have HA:Hid (Below V0.heap.size V0 (w4b5.alloc (.cells z3v 141))/\Box (w4b5.alloc (.cells z3v 141)) w4b5.heap.size 141 z3v/\V0.heap.size<=w4b5.heap.size):=⟨HB2.out.alloc HB2.out.size _,Box.new _ _ _,HB2.out.size⟩
     have HOA:Hid (VOwn V0.heap.size 3 1 (w4b5.alloc (.cells z3v 141)) (.slice a1 n1 c1) n1 (oneF D1)):=HO2.out.alloc _
     have HVA:Hid (VwIn (w4b5.alloc (.cells z3v 141)) (p.Y x) b1 b2 b3 b4 b5 (some (ad ob oo)) no O (some (ad pb po)) np P):=HVW.out.mono (bel1 _ _) nr
     go_simp
     refine hK.out _ _ ?_ (fun hHeldX=>?_)
     ·
      exact d8 ((HST.out _ HA.out.1).2.1)
     clear hK K
     generalize w4b5.alloc (.cells z3v 141)=V5x9 at HA HOA HVA⊢
     generalize w4b5.heap.size=tq at HA⊢
     have HTQ:Hid (V0.heap.size<=tq):=HA.out.2.2
     have TB2:Hid (Box V5x9 tq 141 z3v):=HA.out.2.1
     clear HB2
     have HB2:Hid (Below V0.heap.size V0 V5x9):=HA.out.1
     clear HA
     clear HO2
     have HO2:=HOA
     clear HOA
     clear HVW
     have HVW:=HVA
     clear HVA
     refine rl 6 fun K hK=>?_
     go_simp
     refine(crowd98 (p.Y x) b1 b2 b3 b4 b5 (some (ad ob oo)) no oc O (some (ad pb po)) np pc P V5x9 HVW.out).mono ?_
     rintro e w5a10 ⟨a2,c2,he,ho2,hb⟩
     rw[HN2.out] at he ho2
     rw[HD2.out] at ho2
     subst he
     have HB3:Hid (Below V0.heap.size V0 w5a10):=HB2.out.trans (hb.mono HB2.out.size)
     have HO3:Hid (VOwn V0.heap.size 3 1 w5a10 (.slice a1 n1 c1) n1 (oneF D1)/\VOwn V0.heap.size 3 1 w5a10 (.slice a2 n2 c2) n2 (oneF D2)/\∀g,(Value.slice a1 n1 c1).ownBlock=some g->(Value.slice a2 n2 c2).ownBlock≠some g):=⟨HO2.out.mono nr hb nr,ho2.keep HB2.out.size fun _ _=>rfl,fun g h1 h2=>by have :=(HO2.out.lt h1).2;have :=(ho2.lt h2).1;omega⟩
     have TB3:Hid (Box w5a10 tq 141 z3v):=TB2.out.mono hb nr
     clear hb
     go_wp2_with fail
     refine hK.out _ _ ?_ (fun hHeldX=>?_)
     ·
      exact d8 ((HST.out _ HB3.out).2.1)
     clear hK K
     refine tk 7 ?_
     obtain⟨z0,z1,z2⟩:=TB3.out.c3
     obtain⟨f0,f1,f2⟩:=TB3.out.f3
     have HF:Hid (Below V0.heap.size V0 (((w5a10.setCell (ad tq 0) (.slice a1 n1 c1)).setCell (ad tq 1) (.slice a2 n2 c2)).setCell (ad tq 2) (.slice none 0 0))/\V0.heap.size<=tq/\Box (((w5a10.setCell (ad tq 0) (.slice a1 n1 c1)).setCell (ad tq 1) (.slice a2 n2 c2)).setCell (ad tq 2) (.slice none 0 0)) tq 141 #[.slice a1 n1 c1,.slice a2 n2 c2,.slice none 0 0]/\VOwn V0.heap.size 3 1 (((w5a10.setCell (ad tq 0) (.slice a1 n1 c1)).setCell (ad tq 1) (.slice a2 n2 c2)).setCell (ad tq 2) (.slice none 0 0)) (.slice a1 n1 c1) n1 (oneF D1)/\VOwn V0.heap.size 3 1 (((w5a10.setCell (ad tq 0) (.slice a1 n1 c1)).setCell (ad tq 1) (.slice a2 n2 c2)).setCell (ad tq 2) (.slice none 0 0)) (.slice a2 n2 c2) n2 (oneF D2)/\∀g,(Value.slice a1 n1 c1).ownBlock=some g->(Value.slice a2 n2 c2).ownBlock≠some g):=fin3 HB3.out HTQ.out TB3.out HO3.out.1 HO3.out.2.1 HO3.out.2.2
     refine rl 9 fun K hK=>?_
     go_simp
     refine hK.out _ _ ?_ (fun hHeldX=>?_)
     ·
      exact d8 ((HST.out _ HF.out.1).2.1)
     clear hK K
     refine wpAnyH_done (by kernel_rfl) ?_ _
     clear z0 z1 z2 f0 f1 f2
     go_wp2_with fail
     go_meet
     case rel=>exact⟨tq,a1,c1,a2,c2,rfl,HF⟩
   ·
    have HA:Hid (Below V0.heap.size V0 (w3b4.alloc (.cells z3v 141))/\Box (w3b4.alloc (.cells z3v 141)) w3b4.heap.size 141 z3v/\V0.heap.size<=w3b4.heap.size):=⟨HB1.out.alloc HB1.out.size _,Box.new _ _ _,HB1.out.size⟩
    have HOA:Hid (VOwn V0.heap.size 3 1 (w3b4.alloc (.cells z3v 141)) (.slice a1 n1 c1) n1 (oneF D1)):=HO1.out.alloc _
    go_simp
    refine hK.out _ _ ?_ (fun hHeldX=>?_)
    ·
     exact d8 ((HST.out _ HA.out.1).2.1)
    clear hK K
    generalize w3b4.alloc (.cells z3v 141)=V4x12 at HA HOA⊢
    generalize w3b4.heap.size=tq at HA⊢
    have HTQ:Hid (V0.heap.size<=tq):=HA.out.2.2
    have TB1:Hid (Box V4x12 tq 141 z3v):=HA.out.2.1
    clear HB1
    have HB1:Hid (Below V0.heap.size V0 V4x12):=HA.out.1
    clear HA
    clear HO1
    have HO1:=HOA
    clear HOA
    refine rl 5 fun K hK=>?_
    go_simp
    refine(view69 p wb yb bb lo rr (some (ad ob oo)) no oc (some (ad pb po)) np pc ia ic O P x V4x12 hx H.out.1 (H.out.2.2.1.mono nr (HST.out _ HB1.out).1 nr) (H.out.2.2.2.2.1.mono nr (HST.out _ HB1.out).1 nr) (H.out.2.2.2.2.2.1.mono nr (HST.out _ HB1.out).1 nr) H.out.2.2.2.2.2.2 hno hnp).mono ?_
    rintro e w4a13 ⟨b1,b2,b3,b4,b5,rfl,hvw,hb⟩
    have HB2:Hid (Below V0.heap.size V0 w4a13):=HB1.out.trans (hb.mono HB1.out.size)
    have HO2:Hid (VOwn V0.heap.size 3 1 w4a13 (.slice a1 n1 c1) n1 (oneF D1)):=HO1.out.mono nr hb nr
    have HVW:Hid (VwIn w4a13 (p.Y x) b1 b2 b3 b4 b5 (some (ad ob oo)) no O (some (ad pb po)) np P):=hvw
    clear hvw
    have TB2:Hid (Box w4a13 tq 141 z3v):=TB1.out.mono hb nr
    clear hb
    go_wp2_with fail
    refine hK.out _ _ ?_ (fun hHeldX=>?_)
    ·
     exact d8 ((HST.out _ HB2.out).2.1)
    clear hK K
    refine rl 6 fun K hK=>?_
    go_simp
    refine(crowd98 (p.Y x) b1 b2 b3 b4 b5 (some (ad ob oo)) no oc O (some (ad pb po)) np pc P w4a13 HVW.out).mono ?_
    rintro e w5a14 ⟨a2,c2,he,ho2,hb⟩
    rw[HN2.out] at he ho2
    rw[HD2.out] at ho2
    subst he
    have HB3:Hid (Below V0.heap.size V0 w5a14):=HB2.out.trans (hb.mono HB2.out.size)
    have HO3:Hid (VOwn V0.heap.size 3 1 w5a14 (.slice a1 n1 c1) n1 (oneF D1)/\VOwn V0.heap.size 3 1 w5a14 (.slice a2 n2 c2) n2 (oneF D2)/\∀g,(Value.slice a1 n1 c1).ownBlock=some g->(Value.slice a2 n2 c2).ownBlock≠some g):=⟨HO2.out.mono nr hb nr,ho2.keep HB2.out.size fun _ _=>rfl,fun g h1 h2=>by have :=(HO2.out.lt h1).2;have :=(ho2.lt h2).1;omega⟩
    have TB3:Hid (Box w5a14 tq 141 z3v):=TB2.out.mono hb nr
    clear hb
    go_wp2_with fail
    refine hK.out _ _ ?_ (fun hHeldX=>?_)
    ·
     exact d8 ((HST.out _ HB3.out).2.1)
    clear hK K
    refine tk 7 ?_
    obtain⟨z0,z1,z2⟩:=TB3.out.c3
    obtain⟨f0,f1,f2⟩:=TB3.out.f3
    have HF:Hid (Below V0.heap.size V0 (((w5a14.setCell (ad tq 0) (.slice a1 n1 c1)).setCell (ad tq 1) (.slice a2 n2 c2)).setCell (ad tq 2) (.slice none 0 0))/\V0.heap.size<=tq/\Box (((w5a14.setCell (ad tq 0) (.slice a1 n1 c1)).setCell (ad tq 1) (.slice a2 n2 c2)).setCell (ad tq 2) (.slice none 0 0)) tq 141 #[.slice a1 n1 c1,.slice a2 n2 c2,.slice none 0 0]/\VOwn V0.heap.size 3 1 (((w5a14.setCell (ad tq 0) (.slice a1 n1 c1)).setCell (ad tq 1) (.slice a2 n2 c2)).setCell (ad tq 2) (.slice none 0 0)) (.slice a1 n1 c1) n1 (oneF D1)/\VOwn V0.heap.size 3 1 (((w5a14.setCell (ad tq 0) (.slice a1 n1 c1)).setCell (ad tq 1) (.slice a2 n2 c2)).setCell (ad tq 2) (.slice none 0 0)) (.slice a2 n2 c2) n2 (oneF D2)/\∀g,(Value.slice a1 n1 c1).ownBlock=some g->(Value.slice a2 n2 c2).ownBlock≠some g):=fin3 HB3.out HTQ.out TB3.out HO3.out.1 HO3.out.2.1 HO3.out.2.2
    refine rl 9 fun K hK=>?_
    go_simp
    refine hK.out _ _ ?_ (fun hHeldX=>?_)
    ·
     exact d8 ((HST.out _ HF.out.1).2.1)
    clear hK K
    refine wpAnyH_done (by kernel_rfl) ?_ _
    clear z0 z1 z2 f0 f1 f2
    go_wp2_with fail
    go_meet
    case rel=>exact⟨tq,a1,c1,a2,c2,rfl,HF⟩
  ·
   have HA:Hid (Below V0.heap.size V0 (VD.alloc (.cells z3v 141))/\Box (VD.alloc (.cells z3v 141)) VD.heap.size 141 z3v/\V0.heap.size<=VD.heap.size):=⟨HB0.out.alloc HB0.out.size _,Box.new _ _ _,HB0.out.size⟩
   go_simp
   refine hK.out _ _ ?_ (fun hHeldX=>?_)
   ·
    exact d8 ((HST.out _ HA.out.1).2.1)
   clear hK K
   generalize VD.alloc (.cells z3v 141)=V3x16 at HA⊢
   generalize VD.heap.size=tq at HA⊢
   have HTQ:Hid (V0.heap.size<=tq):=HA.out.2.2
   have TB0:Hid (Box V3x16 tq 141 z3v):=HA.out.2.1
   clear HB0
   have HB0:Hid (Below V0.heap.size V0 V3x16):=HA.out.1
   clear HA
   refine rl 2 fun K hK=>?_
   go_simp
   refine(against96 p wb yb bb lo rr (some (ad ob oo)) no oc (some (ad pb po)) np pc ia ic S N x V3x16 hx H.out.1 H.out.2.1 (H.out.2.2.1.mono nr (HST.out _ HB0.out).1 nr) (H.out.2.2.2.1.mono (HST.out _ HB0.out).1 nr)).mono ?_
   rintro e w3a17 ⟨a1,c1,he,ho1,hb⟩
   rw[HN1.out] at he ho1
   rw[HD1.out] at ho1
   subst he
   have HB1:Hid (Below V0.heap.size V0 w3a17):=HB0.out.trans (hb.mono HB0.out.size)
   have HO1:Hid (VOwn V0.heap.size 3 1 w3a17 (.slice a1 n1 c1) n1 (oneF D1)):=ho1.keep HB0.out.size fun _ _=>rfl
   have TB1:Hid (Box w3a17 tq 141 z3v):=TB0.out.mono hb nr
   clear hb
   go_wp2_with fail
   refine hK.out _ _ ?_ (fun hHeldX=>?_)
   ·
    exact d8 ((HST.out _ HB1.out).2.1)
   clear hK K
   refine rl 5 fun K hK=>?_
   go_simp
   refine(view69 p wb yb bb lo rr (some (ad ob oo)) no oc (some (ad pb po)) np pc ia ic O P x w3a17 hx H.out.1 (H.out.2.2.1.mono nr (HST.out _ HB1.out).1 nr) (H.out.2.2.2.2.1.mono nr (HST.out _ HB1.out).1 nr) (H.out.2.2.2.2.2.1.mono nr (HST.out _ HB1.out).1 nr) H.out.2.2.2.2.2.2 hno hnp).mono ?_
   rintro e w4a18 ⟨b1,b2,b3,b4,b5,rfl,hvw,hb⟩
   have HB2:Hid (Below V0.heap.size V0 w4a18):=HB1.out.trans (hb.mono HB1.out.size)
   have HO2:Hid (VOwn V0.heap.size 3 1 w4a18 (.slice a1 n1 c1) n1 (oneF D1)):=HO1.out.mono nr hb nr
   have HVW:Hid (VwIn w4a18 (p.Y x) b1 b2 b3 b4 b5 (some (ad ob oo)) no O (some (ad pb po)) np P):=hvw
   clear hvw
   have TB2:Hid (Box w4a18 tq 141 z3v):=TB1.out.mono hb nr
   clear hb
   go_wp2_with fail
   refine hK.out _ _ ?_ (fun hHeldX=>?_)
   ·
    exact d8 ((HST.out _ HB2.out).2.1)
   clear hK K
   refine rl 6 fun K hK=>?_
   go_simp
   refine(crowd98 (p.Y x) b1 b2 b3 b4 b5 (some (ad ob oo)) no oc O (some (ad pb po)) np pc P w4a18 HVW.out).mono ?_
   rintro e w5a19 ⟨a2,c2,he,ho2,hb⟩
   rw[HN2.out] at he ho2
   rw[HD2.out] at ho2
   subst he
   have HB3:Hid (Below V0.heap.size V0 w5a19):=HB2.out.trans (hb.mono HB2.out.size)
   have HO3:Hid (VOwn V0.heap.size 3 1 w5a19 (.slice a1 n1 c1) n1 (oneF D1)/\VOwn V0.heap.size 3 1 w5a19 (.slice a2 n2 c2) n2 (oneF D2)/\∀g,(Value.slice a1 n1 c1).ownBlock=some g->(Value.slice a2 n2 c2).ownBlock≠some g):=⟨HO2.out.mono nr hb nr,ho2.keep HB2.out.size fun _ _=>rfl,fun g h1 h2=>by have :=(HO2.out.lt h1).2;have :=(ho2.lt h2).1;omega⟩
   have TB3:Hid (Box w5a19 tq 141 z3v):=TB2.out.mono hb nr
   clear hb
   go_wp2_with fail
   refine hK.out _ _ ?_ (fun hHeldX=>?_)
   ·
    exact d8 ((HST.out _ HB3.out).2.1)
   clear hK K
   refine tk 7 ?_
   obtain⟨z0,z1,z2⟩:=TB3.out.c3
   obtain⟨f0,f1,f2⟩:=TB3.out.f3
   have HF:Hid (Below V0.heap.size V0 (((w5a19.setCell (ad tq 0) (.slice a1 n1 c1)).setCell (ad tq 1) (.slice a2 n2 c2)).setCell (ad tq 2) (.slice none 0 0))/\V0.heap.size<=tq/\Box (((w5a19.setCell (ad tq 0) (.slice a1 n1 c1)).setCell (ad tq 1) (.slice a2 n2 c2)).setCell (ad tq 2) (.slice none 0 0)) tq 141 #[.slice a1 n1 c1,.slice a2 n2 c2,.slice none 0 0]/\VOwn V0.heap.size 3 1 (((w5a19.setCell (ad tq 0) (.slice a1 n1 c1)).setCell (ad tq 1) (.slice a2 n2 c2)).setCell (ad tq 2) (.slice none 0 0)) (.slice a1 n1 c1) n1 (oneF D1)/\VOwn V0.heap.size 3 1 (((w5a19.setCell (ad tq 0) (.slice a1 n1 c1)).setCell (ad tq 1) (.slice a2 n2 c2)).setCell (ad tq 2) (.slice none 0 0)) (.slice a2 n2 c2) n2 (oneF D2)/\∀g,(Value.slice a1 n1 c1).ownBlock=some g->(Value.slice a2 n2 c2).ownBlock≠some g):=fin3 HB3.out HTQ.out TB3.out HO3.out.1 HO3.out.2.1 HO3.out.2.2
   refine rl 9 fun K hK=>?_
   go_simp
   refine hK.out _ _ ?_ (fun hHeldX=>?_)
   ·
    exact d8 ((HST.out _ HF.out.1).2.1)
   clear hK K
   refine wpAnyH_done (by kernel_rfl) ?_ _
   clear z0 z1 z2 f0 f1 f2
   go_wp2_with fail
   go_meet
   case rel=>exact⟨tq,a1,c1,a2,c2,rfl,HF⟩
 case rest=>
  obtain⟨tq,a1,c1,a2,c2,rfl,F0⟩:=hcut
  have HV0:=HST.out wc F0.out.1
  obtain⟨vs,hbx,_,_,_,_,hrow⟩:=(H.out.2.2.1.mono nr HV0.1 nr).wy
  obtain⟨b1,b2,b3,b4,b5,hr⟩:=hrow x hx
  have y0:wc.cell? (ad yb (x*5))=some (.slice (some (ad b1 0)) (p.Y x).ns (p.Y x).ns):=(hbx.cell _).trans hr.c0
  have y1:wc.cell? (ad yb (x*5+1))=some (.slice (some (ad b2 0)) (p.Y x).nl (p.Y x).nl):=(hbx.cell _).trans hr.c1
  have y2:wc.cell? (ad yb (x*5+2))=some (.slice (some (ad b3 0)) (p.Y x).nf (p.Y x).nf):=(hbx.cell _).trans hr.c2
  have y3:wc.cell? (ad yb (x*5+3))=some (.slice (some (ad b4 0)) (p.Y x).no (p.Y x).no):=(hbx.cell _).trans hr.c3
  have y4:wc.cell? (ad yb (x*5+4))=some (.slice (some (ad b5 0)) (p.Y x).nm (p.Y x).nm):=(hbx.cell _).trans hr.c4
  have HYI:Hid (VsAt 2 0 wc (some (ad b2 0)) (p.Y x).nl (intF (p.Y x).L)/\VsAt 2 0 wc (some (ad b3 0)) (p.Y x).nf (intF (p.Y x).F)):=⟨hr.own.in_.l,hr.own.in_.f⟩
  have d2:=HV0.2.1.cel 2
  clear hrow hr hbx HV0
  go_wp2_with fail
  clear y0 y1 y2 y3 y4 d2
  refine(needs72 (p.Y x) (some (ad b1 0)) (some (ad b4 0)) (some (ad b5 0)) b2 0 b3 0 (p.Y x).ns (p.Y x).nl (p.Y x).nf (p.Y x).no (p.Y x).nm wc hnl hnf HYI.out.1 HYI.out.2).mono ?_
  rintro e w3 ⟨v,rfl,hv,hb3⟩
  obtain⟨na,nc,rfl⟩:=hv.val
  have HNV:Hid (VOwn 0 146 2 w3 (.slice na ((p.Y x).nl+(p.Y x).nf) nc) ((p.Y x).nl+(p.Y x).nf) (intF (cat (p.Y x).nl (p.Y x).L (p.Y x).F))):=hv.keep (Nat.zero_le _) fun _ _=>rfl
  have F3:Hid (Below V0.heap.size V0 w3/\V0.heap.size<=tq/\Box w3 tq 141 #[.slice a1 n1 c1,.slice a2 n2 c2,.slice none 0 0]/\VOwn V0.heap.size 3 1 w3 (.slice a1 n1 c1) n1 (oneF D1)/\VOwn V0.heap.size 3 1 w3 (.slice a2 n2 c2) n2 (oneF D2)/\∀g,(Value.slice a1 n1 c1).ownBlock=some g->(Value.slice a2 n2 c2).ownBlock≠some g):=⟨F0.out.1.trans (hb3.mono F0.out.1.size),F0.out.2.1,F0.out.2.2.1.mono hb3 nr,F0.out.2.2.2.1.mono nr hb3 nr,F0.out.2.2.2.2.1.mono nr hb3 nr,F0.out.2.2.2.2.2⟩
  clear hv hb3 F0 HYI
  have HFW:Hid (∀W,Fr (fun b=>b=tq) w3 W->Below V0.heap.size V0 W):=fun W hf=>F3.out.1.trans (hf.below F3.out.1.size fun b hb (e:b=tq)=>by have :=F3.out.2.1;omega)
  have HOW:Hid (∀W,Fr (fun b=>b=tq) w3 W->VOwn V0.heap.size 3 1 W (.slice a1 n1 c1) n1 (oneF D1)/\VOwn V0.heap.size 3 1 W (.slice a2 n2 c2) n2 (oneF D2)/\VOwn 0 146 2 W (.slice na ((p.Y x).nl+(p.Y x).nf) nc) ((p.Y x).nl+(p.Y x).nf) (intF (cat (p.Y x).nl (p.Y x).L (p.Y x).F))):=fun W hf=>⟨F3.out.2.2.2.1.fr hf fun g hg=>F3.out.2.2.2.1.off F3.out.2.2.1 (by decide) hg,F3.out.2.2.2.2.1.fr hf fun g hg=>F3.out.2.2.2.2.1.off F3.out.2.2.1 (by decide) hg,HNV.out.fr hf fun g hg=>HNV.out.off F3.out.2.2.1 (by decide) hg⟩
  have hnn:((p.Y x).nl+(p.Y x).nf)<=2097152:=by omega
  go_wp2_with fail
  obtain⟨W3,hW3⟩:∃W,W=w3:=⟨w3,rfl⟩
  go_loopw [24] (fun c wr=>∃(k m:Nat) (va:Option Addr) (vc:Nat) (D:Nat->Int),k<=((p.Y x).nl+(p.Y x).nf)/\m<=k/\c=.int .i64 (k:Int)/\Hid (m=selN (swC p O P S x) k/\D=selE (swC p O P S x) (fun j=>cat (p.Y x).nl (p.Y x).L (p.Y x).F j 0) k)/\Hid (Fr (fun b=>b=tq) w3 wr/\Box wr tq 141 #[.slice a1 n1 c1,.slice a2 n2 c2,.slice va m vc]/\VOwn w3.heap.size 3 1 wr (.slice va m vc) m (oneF D))) (fun c _=>((p.Y x).nl+(p.Y x).nf)-(intOf c).toNat)
  case atStart=>exact⟨0,0,none,0,fun _=>0,Nat.zero_le _,Nat.le_refl _,rfl,⟨rfl,rfl⟩,Fr.refl _ _,F3.out.2.2.1,VOwn.nil _ _ _ _ _⟩
  case round=>
   obtain⟨k,m,va,vc,D,hk,hm,rfl,HD,M⟩:=hrel
   by_cases hlt:k<((p.Y x).nl+(p.Y x).nf)
   ·
    have hk0:(0:Int)<=(k:Int):=by omega
    have hkn:(k:Int)<((((p.Y x).nl+(p.Y x).nf):Nat):Int):=by omega
    obtain⟨s,hsv,hsn0⟩:=cat_in H.out.2.2.2.2.2.2 hlt
    have hsn:s<p.nw:=by rw[<-HSWR.out.2];exact hsn0
    obtain⟨ly,HLY⟩:∃l,Hid (cat (p.Y x).nl (p.Y x).L (p.Y x).F k 1=l):=⟨_,rfl⟩
    have HSV:Hid (cat (p.Y x).nl (p.Y x).L (p.Y x).F k 0=(s:Int)):=hsv
    have HNVr:=(HOW.out wr M.out.1).2.2
    obtain⟨g,ha,_,hgl⟩:=HNVr.addr (by omega)
    subst ha
    have c0:wr.cell? (ad g (k*2))=some (.int .i64 (s:Int)):=by have :=HNVr.cell hlt (j:=0) (by omega);rw[Nat.add_zero,intF,hsv] at this;exact this
    have c1':wr.cell? (ad g (k*2+1))=some (.int .i64 ly):=by have :=HNVr.cell hlt (j:=1) (by omega);rw[intF,HLY.out] at this;exact this
    clear HNVr hsv
    obtain⟨o,hWo,hoo⟩:=HSWR.out.1 s hsn
    have HWO:Hid (p.W s=(o:Int)):=hWo
    clear hWo
    have hs0:(0:Int)<=(s:Int):=by omega
    have hsnp:(s:Int)<(np:Int):=by omega
    have HPC:Hid (∀W,Fr (fun b=>b=tq) w3 W->W.cell? (ad pb (po+s*2))=some (.int .i64 (P s 0))):=fun W hf=>by
     obtain⟨pb2,po2,hpa,_,_,hcp⟩:=H.out.2.2.2.2.2.1.mono nr (HST.out _ (HFW.out W hf)).1 nr (by omega)
     cases hpa
     exact hcp s hsn0 0 (by omega)
    have T1:Hid ((Fr (fun b=>b=tq) w3 (wr.alloc (.cells #[.int .i64 (s:Int),.int .i64 ly] 146))/\Box (wr.alloc (.cells #[.int .i64 (s:Int),.int .i64 ly] 146)) tq 141 #[.slice a1 n1 c1,.slice a2 n2 c2,.slice va m vc]/\VOwn w3.heap.size 3 1 (wr.alloc (.cells #[.int .i64 (s:Int),.int .i64 ly] 146)) (.slice va m vc) m (oneF D))/\Box (wr.alloc (.cells #[.int .i64 (s:Int),.int .i64 ly] 146)) wr.heap.size 146 #[.int .i64 (s:Int),.int .i64 ly]):=⟨⟨M.out.1.trans (Fr.of_below (bel1 _ _)),M.out.2.1.alloc _,M.out.2.2.alloc _⟩,Box.new _ _ _⟩
    go_wp2_with fail
    clear c0 c1' M
    generalize (wr.alloc (.cells #[.int .i64 (s:Int),.int .i64 ly] 146))=V1 at T1⊢
    generalize wr.heap.size=uq at T1⊢
    have TV:Hid ((Fr (fun b=>b=tq) w3 V1/\Box V1 tq 141 #[.slice a1 n1 c1,.slice a2 n2 c2,.slice va m vc]/\VOwn w3.heap.size 3 1 V1 (.slice va m vc) m (oneF D))/\Box V1 uq 146 #[.int .i64 (s:Int),.int .i64 ly]):=T1.out
    clear T1
    have TD:Hid ((Fr (fun b=>b=tq) w3 V1.drew/\Box V1.drew tq 141 #[.slice a1 n1 c1,.slice a2 n2 c2,.slice va m vc]/\VOwn w3.heap.size 3 1 V1.drew (.slice va m vc) m (oneF D))/\Box V1.drew uq 146 #[.int .i64 (s:Int),.int .i64 ly]):=⟨⟨TV.out.1.1.drew,TV.out.1.2.1.drew,TV.out.1.2.2.keep nr fun _ _=>rfl⟩,TV.out.2.drew⟩
    have HQK:Hid (swC p O P S x k=(decide (P s 0≠ly)&&fxB p O S s)):=by rw[Hid,swC,HSV.out,HLY.out];rfl
    by_cases hpl:P s 0=ly
    ·
     have HU:Hid (swC p O P S x k=false):=by rw[Hid,HQK.out];simp[hpl]
     have zz1:(P s 0==ly)=true:=by simpa using hpl
     have zz2:(P s 0 !=ly)=false:=by simpa using hpl
     clear hpl
     refine wp_region_held_drew (S:=(fun wx:World=>wx.cell? (ad w.heap.size 0)=some (.int .i64 p.sec)/\wx.cell? (ad w.heap.size 1)=some (.slice (some (ad wb 0)) p.nw p.nw)/\wx.cell? (ad w.heap.size 2)=some (.slice (some (ad yb 0)) p.ny p.ny)/\wx.cell? (ad w.heap.size 3)=some (.slice (some (ad bb 0)) p.nb p.nb)/\wx.cell? (ad w.heap.size 4)=some (.int .i64 p.hold)/\wx.cell? (ad w.heap.size 5)=some (.slice (some (ad ob oo)) no oc)/\wx.cell? (ad w.heap.size 6)=some (.slice (some (ad pb po)) np pc)/\wx.cell? (ad w.heap.size 7)=some (.slice ia p.ny ic)/\wx.cell? (ad uq 0)=some (.int .i64 (s:Int))/\wx.cell? (ad uq 1)=some (.int .i64 ly)/\wx.cell? (ad pb (po+s*2))=some (.int .i64 (P s 0)))) (by kernel_rfl) ?_ (fun hHeld=>?_)
     ·
      exact⟨(HST.out _ (HFW.out _ TD.out.1.1)).2.1.cell 0,(HST.out _ (HFW.out _ TD.out.1.1)).2.1.cell 1,(HST.out _ (HFW.out _ TD.out.1.1)).2.1.cell 2,(HST.out _ (HFW.out _ TD.out.1.1)).2.1.cell 3,(HST.out _ (HFW.out _ TD.out.1.1)).2.1.cell 4,(HST.out _ (HFW.out _ TD.out.1.1)).2.1.cell 5,(HST.out _ (HFW.out _ TD.out.1.1)).2.1.cell 6,(HST.out _ (HFW.out _ TD.out.1.1)).2.1.cell 7,TD.out.2.cell 0,TD.out.2.cell 1,(HPC.out _ TD.out.1.1)⟩
     refine tk 0 ?_
     refine tk 1 ?_
     refine tk 2 ?_
     refine tk 3 ?_
     refine tk 4 ?_
     refine tk 5 ?_
     refine tk 6 ?_
     refine tk 7 ?_
     refine tk 8 ?_
     refine tk 9 ?_
     refine tk 10 ?_
     refine tf 11 ?_
     refine tf 12 ?_
     refine tf 13 ?_
     refine tf 14 ?_
     refine tf 15 ?_
     refine tk 16 ?_
     refine wpAnyH_done (by kernel_rfl) ?_ _
     have HD2x:Hid (m=selN (swC p O P S x) (k+1)/\D=selE (swC p O P S x) (fun j=>cat (p.Y x).nl (p.Y x).L (p.Y x).F j 0) (k+1)):=⟨HD.out.1.trans (selN_no HU.out).symm,HD.out.2.trans (selE_no HU.out).symm⟩
     have M3:Hid (Fr (fun b=>b=tq) w3 V1.drew/\Box V1.drew tq 141 #[.slice a1 n1 c1,.slice a2 n2 c2,.slice va m vc]/\VOwn w3.heap.size 3 1 V1.drew (.slice va m vc) m (oneF D)):=TD.out.1
     go_wp2_with fail
     go_roundw
     case rel=>exact⟨k+1,m,va,vc,D,by omega,by omega,by go_num,HD2x,M3⟩
     case measure=>simp[intOf];omega
    have zz1:(P s 0==ly)=false:=by simpa using hpl
    have zz2:(P s 0 !=ly)=true:=by simpa using hpl
    have HPL:Hid (decide (P s 0≠ly)=true):=by simpa [Hid] using hpl
    clear hpl
    have hoN:(p.W s).toNat=o:=by have :=HWO.out;omega
    obtain⟨u,HUF⟩:∃u,Hid (fxB p O S s=u):=⟨_,rfl⟩
    have HU:Hid (swC p O P S x k=u):=by rw[Hid,HQK.out,HPL.out,HUF.out];rfl
    cases u with
    |false=>
     have HFV:Hid (fxV (fun i=>wantsS p S i s) p.ny (O o) (.iface t4 v4) (.iface t5 v5)=.nilIface):=by
      have h1:=HUF.out
      rw[fxB,hoN,Bool.or_eq_false_iff] at h1
      rw[Hid,h1.2,fxV_c h1.1]
     clear hoN
     refine wp_region_held_drew (S:=(fun wx:World=>wx.cell? (ad w.heap.size 0)=some (.int .i64 p.sec)/\wx.cell? (ad w.heap.size 1)=some (.slice (some (ad wb 0)) p.nw p.nw)/\wx.cell? (ad w.heap.size 2)=some (.slice (some (ad yb 0)) p.ny p.ny)/\wx.cell? (ad w.heap.size 3)=some (.slice (some (ad bb 0)) p.nb p.nb)/\wx.cell? (ad w.heap.size 4)=some (.int .i64 p.hold)/\wx.cell? (ad w.heap.size 5)=some (.slice (some (ad ob oo)) no oc)/\wx.cell? (ad w.heap.size 6)=some (.slice (some (ad pb po)) np pc)/\wx.cell? (ad w.heap.size 7)=some (.slice ia p.ny ic)/\wx.cell? (ad uq 0)=some (.int .i64 (s:Int))/\wx.cell? (ad uq 1)=some (.int .i64 ly)/\wx.cell? (ad pb (po+s*2))=some (.int .i64 (P s 0)))) (by kernel_rfl) ?_ (fun hHeld=>?_)
     ·
      exact⟨(HST.out _ (HFW.out _ TD.out.1.1)).2.1.cell 0,(HST.out _ (HFW.out _ TD.out.1.1)).2.1.cell 1,(HST.out _ (HFW.out _ TD.out.1.1)).2.1.cell 2,(HST.out _ (HFW.out _ TD.out.1.1)).2.1.cell 3,(HST.out _ (HFW.out _ TD.out.1.1)).2.1.cell 4,(HST.out _ (HFW.out _ TD.out.1.1)).2.1.cell 5,(HST.out _ (HFW.out _ TD.out.1.1)).2.1.cell 6,(HST.out _ (HFW.out _ TD.out.1.1)).2.1.cell 7,TD.out.2.cell 0,TD.out.2.cell 1,(HPC.out _ TD.out.1.1)⟩
     refine tk 0 ?_
     refine tk 1 ?_
     refine tk 2 ?_
     refine tk 3 ?_
     refine tk 4 ?_
     refine tk 5 ?_
     refine tk 6 ?_
     refine tk 7 ?_
     refine tk 8 ?_
     refine tk 9 ?_
     refine tk 10 ?_
     refine tk 11 ?_
     refine tk 12 ?_
     refine tk 13 ?_
     refine rl 14 fun K hK=>?_
     go_simp
     refine(fixed100 p wb yb bb lo rr ob oo no oc (some (ad pb po)) np pc ia ic O S N s o t4 t5 v4 v5 _ hsn HWO.out hoo hno H.out.1 (H.out.2.2.1.mono nr (HST.out _ (HFW.out _ TD.out.1.1)).1 nr) (H.out.2.2.2.2.1.mono nr (HST.out _ (HFW.out _ TD.out.1.1)).1 nr) (H.out.2.2.2.1.mono (HST.out _ (HFW.out _ TD.out.1.1)).1 nr) (cell_keep (HST.out _ (HFW.out _ TD.out.1.1)).1 HG.out.2.2.1 HG.out.1) (cell_keep (HST.out _ (HFW.out _ TD.out.1.1)).1 HG.out.2.2.2 HG.out.2.1) (Nat.lt_of_lt_of_le HG.out.2.2.1 (HST.out _ (HFW.out _ TD.out.1.1)).1.size) (Nat.lt_of_lt_of_le HG.out.2.2.2 (HST.out _ (HFW.out _ TD.out.1.1)).1.size)).mono ?_
     rintro e w5 ⟨he,hb5⟩
     have T5:Hid ((Fr (fun b=>b=tq) w3 w5/\Box w5 tq 141 #[.slice a1 n1 c1,.slice a2 n2 c2,.slice va m vc]/\VOwn w3.heap.size 3 1 w5 (.slice va m vc) m (oneF D))/\Box w5 uq 146 #[.int .i64 (s:Int),.int .i64 ly]):=⟨⟨TD.out.1.1.trans (Fr.of_below hb5),TD.out.1.2.1.mono hb5 nr,TD.out.1.2.2.mono nr hb5 nr⟩,TD.out.2.mono hb5 nr⟩
     clear hb5
     rw[HFV.out] at he
     subst he
     go_wp2_with fail
     refine hK.out _ _ ?_ (fun hHeld14=>?_)
     ·
      exact⟨(HST.out _ (HFW.out _ T5.out.1.1)).2.1.cell 0,(HST.out _ (HFW.out _ T5.out.1.1)).2.1.cell 1,(HST.out _ (HFW.out _ T5.out.1.1)).2.1.cell 2,(HST.out _ (HFW.out _ T5.out.1.1)).2.1.cell 3,(HST.out _ (HFW.out _ T5.out.1.1)).2.1.cell 4,(HST.out _ (HFW.out _ T5.out.1.1)).2.1.cell 5,(HST.out _ (HFW.out _ T5.out.1.1)).2.1.cell 6,(HST.out _ (HFW.out _ T5.out.1.1)).2.1.cell 7,T5.out.2.cell 0,T5.out.2.cell 1,(HPC.out _ T5.out.1.1)⟩
     clear hK K
     refine tk 15 ?_
     refine tk 16 ?_
     refine wpAnyH_done (by kernel_rfl) ?_ _
     have HD2x:Hid (m=selN (swC p O P S x) (k+1)/\D=selE (swC p O P S x) (fun j=>cat (p.Y x).nl (p.Y x).L (p.Y x).F j 0) (k+1)):=⟨HD.out.1.trans (selN_no HU.out).symm,HD.out.2.trans (selE_no HU.out).symm⟩
     have M3:Hid (Fr (fun b=>b=tq) w3 w5/\Box w5 tq 141 #[.slice a1 n1 c1,.slice a2 n2 c2,.slice va m vc]/\VOwn w3.heap.size 3 1 w5 (.slice va m vc) m (oneF D)):=T5.out.1
     go_wp2_with fail
     go_roundw
     case rel=>exact⟨k+1,m,va,vc,D,by omega,by omega,by go_num,HD2x,M3⟩
     case measure=>simp[intOf];omega
    |true=>
     obtain⟨ft,fv,HFV⟩:∃ft fv,Hid (fxV (fun i=>wantsS p S i s) p.ny (O o) (.iface t4 v4) (.iface t5 v5)=.iface ft fv):=by
      have h1:=HUF.out
      rw[fxB,hoN] at h1
      cases h2:decide (0<selN (fun i=>wantsS p S i s) p.ny) with
      |true=>exact⟨_,_,fxV_a _ h2⟩
      |false=>
       rw[h2,Bool.false_or] at h1
       exact⟨_,_,by rw[Hid,h1,fxV_b h2]⟩
     clear hoN
     refine wp_region_held_drew (S:=(fun wx:World=>wx.cell? (ad w.heap.size 0)=some (.int .i64 p.sec)/\wx.cell? (ad w.heap.size 1)=some (.slice (some (ad wb 0)) p.nw p.nw)/\wx.cell? (ad w.heap.size 2)=some (.slice (some (ad yb 0)) p.ny p.ny)/\wx.cell? (ad w.heap.size 3)=some (.slice (some (ad bb 0)) p.nb p.nb)/\wx.cell? (ad w.heap.size 4)=some (.int .i64 p.hold)/\wx.cell? (ad w.heap.size 5)=some (.slice (some (ad ob oo)) no oc)/\wx.cell? (ad w.heap.size 6)=some (.slice (some (ad pb po)) np pc)/\wx.cell? (ad w.heap.size 7)=some (.slice ia p.ny ic)/\wx.cell? (ad uq 0)=some (.int .i64 (s:Int))/\wx.cell? (ad uq 1)=some (.int .i64 ly)/\wx.cell? (ad pb (po+s*2))=some (.int .i64 (P s 0)))) (by kernel_rfl) ?_ (fun hHeld=>?_)
     ·
      exact⟨(HST.out _ (HFW.out _ TD.out.1.1)).2.1.cell 0,(HST.out _ (HFW.out _ TD.out.1.1)).2.1.cell 1,(HST.out _ (HFW.out _ TD.out.1.1)).2.1.cell 2,(HST.out _ (HFW.out _ TD.out.1.1)).2.1.cell 3,(HST.out _ (HFW.out _ TD.out.1.1)).2.1.cell 4,(HST.out _ (HFW.out _ TD.out.1.1)).2.1.cell 5,(HST.out _ (HFW.out _ TD.out.1.1)).2.1.cell 6,(HST.out _ (HFW.out _ TD.out.1.1)).2.1.cell 7,TD.out.2.cell 0,TD.out.2.cell 1,(HPC.out _ TD.out.1.1)⟩
     refine tk 0 ?_
     refine tk 1 ?_
     refine tk 2 ?_
     refine tk 3 ?_
     refine tk 4 ?_
     refine tk 5 ?_
     refine tk 6 ?_
     refine tk 7 ?_
     refine tk 8 ?_
     refine tk 9 ?_
     refine tk 10 ?_
     refine tk 11 ?_
     refine tk 12 ?_
     refine tk 13 ?_
     refine rl 14 fun K hK=>?_
     go_simp
     refine(fixed100 p wb yb bb lo rr ob oo no oc (some (ad pb po)) np pc ia ic O S N s o t4 t5 v4 v5 _ hsn HWO.out hoo hno H.out.1 (H.out.2.2.1.mono nr (HST.out _ (HFW.out _ TD.out.1.1)).1 nr) (H.out.2.2.2.2.1.mono nr (HST.out _ (HFW.out _ TD.out.1.1)).1 nr) (H.out.2.2.2.1.mono (HST.out _ (HFW.out _ TD.out.1.1)).1 nr) (cell_keep (HST.out _ (HFW.out _ TD.out.1.1)).1 HG.out.2.2.1 HG.out.1) (cell_keep (HST.out _ (HFW.out _ TD.out.1.1)).1 HG.out.2.2.2 HG.out.2.1) (Nat.lt_of_lt_of_le HG.out.2.2.1 (HST.out _ (HFW.out _ TD.out.1.1)).1.size) (Nat.lt_of_lt_of_le HG.out.2.2.2 (HST.out _ (HFW.out _ TD.out.1.1)).1.size)).mono ?_
     rintro e w5 ⟨he,hb5⟩
     have T5:Hid ((Fr (fun b=>b=tq) w3 w5/\Box w5 tq 141 #[.slice a1 n1 c1,.slice a2 n2 c2,.slice va m vc]/\VOwn w3.heap.size 3 1 w5 (.slice va m vc) m (oneF D))/\Box w5 uq 146 #[.int .i64 (s:Int),.int .i64 ly]):=⟨⟨TD.out.1.1.trans (Fr.of_below hb5),TD.out.1.2.1.mono hb5 nr,TD.out.1.2.2.mono nr hb5 nr⟩,TD.out.2.mono hb5 nr⟩
     clear hb5
     rw[HFV.out] at he
     subst he
     go_wp2_with fail
     refine hK.out _ _ ?_ (fun hHeld14=>?_)
     ·
      exact⟨(HST.out _ (HFW.out _ T5.out.1.1)).2.1.cell 0,(HST.out _ (HFW.out _ T5.out.1.1)).2.1.cell 1,(HST.out _ (HFW.out _ T5.out.1.1)).2.1.cell 2,(HST.out _ (HFW.out _ T5.out.1.1)).2.1.cell 3,(HST.out _ (HFW.out _ T5.out.1.1)).2.1.cell 4,(HST.out _ (HFW.out _ T5.out.1.1)).2.1.cell 5,(HST.out _ (HFW.out _ T5.out.1.1)).2.1.cell 6,(HST.out _ (HFW.out _ T5.out.1.1)).2.1.cell 7,T5.out.2.cell 0,T5.out.2.cell 1,(HPC.out _ T5.out.1.1)⟩
     clear hK K
     refine tk 15 ?_
     refine tk 16 ?_
     refine wpAnyH_done (by kernel_rfl) ?_ _
     have HD2x:Hid (m+1=selN (swC p O P S x) (k+1)/\updI D m (s:Int)=selE (swC p O P S x) (fun j=>cat (p.Y x).nl (p.Y x).L (p.Y x).F j 0) (k+1)):=⟨by rw[selN_yes HU.out,HD.out.1],by rw[selE_yes HU.out,HSV.out,HD.out.1,HD.out.2]⟩
     have HW:Hid (VOwn w3.heap.size 3 1 w5 (.slice va m vc) m (oneF (updI D m (s:Int)))):=T5.out.1.2.2.congr fun i hi j _=>by simp[oneF,updI,hi]
     have hbx:Box (w5.alloc (.cells #[.int .i64 (s:Int)] 3)) w5.heap.size 3 #[.int .i64 (s:Int)]:=Box.new _ _ _
     have hszr:w3.heap.size<=w5.heap.size:=T5.out.1.1.size
     have z2:=T5.out.1.2.1.cel 2
     have r0:=T5.out.2.cel 0
     go_wp2_with(at_builtin;go_must (refine wpList_vapp _ rfl _ _ 22 rfl w3.heap.size 3 i0 _ 1 8 Tryz.underlying22 hi0 hz0 hs0' hb0 rfl (by decide) (.slice va m vc) m (oneF (updI D m (s:Int))) rfl (HW.out.alloc _) (fun _ _=>rfl) w5.heap.size 1 #[.int .i64 (s:Int)] rfl hbx (by simp[oneF,updI]) (by simp only[maxLen];omega) (by omega) (by simp;omega) (Halt.mk ?_)))
     intro v2 w6 o2 g2
     obtain⟨va2,vc2,rfl⟩:=o2.val
     have hrw:∀b,b<w3.heap.size->(Value.slice va m vc).ownBlock≠some b:=fun b hb e=>by have :=(HW.out.lt e).1;omega
     have M6:Hid (Fr (fun b=>b=tq) w3 w6/\Box w6 tq 141 #[.slice a1 n1 c1,.slice a2 n2 c2,.slice va m vc]):=by
      have hT:=T5.out.1.1.trans (Fr.of_below (bel1 w5 (.cells #[.int .i64 (s:Int)] 3)))
      refine⟨⟨g2.os.trans hT.os,g2.tape.trans hT.tape,g2.output.trans hT.output,Nat.le_trans hT.size g2.size,fun b hb hx=>?_⟩,(T5.out.1.2.1.alloc _).grown g2 (hrw tq F3.out.2.2.1.lt)⟩
      exact(g2.block b (Nat.lt_of_lt_of_le hb hT.size) fun e=>hrw b hb e.symm).trans (hT.block b hb hx)
     have M7:Hid (Fr (fun b=>b=tq) w3 (w6.setCell (ad tq 2) (.slice va2 (m+1) vc2))/\Box (w6.setCell (ad tq 2) (.slice va2 (m+1) vc2)) tq 141 #[.slice a1 n1 c1,.slice a2 n2 c2,.slice va2 (m+1) vc2]/\VOwn w3.heap.size 3 1 (w6.setCell (ad tq 2) (.slice va2 (m+1) vc2)) (.slice va2 (m+1) vc2) (m+1) (oneF (updI D m (s:Int)))):=⟨M6.out.1.cells rfl _ _,M6.out.2.set 2 _,o2.set M6.out.2 (by decide) _ _⟩
     have b2':w6.cell? (ad tq 2)=some (.slice va m vc):=M6.out.2.cell 2
     have f2':=M6.out.2.free 2
     clear o2 g2 HW hbx hrw z2 r0
     go_wp2_with fail
     go_roundw
     case rel=>exact⟨k+1,m+1,va2,vc2,_,by omega,by omega,by go_num,HD2x,M7⟩
     case measure=>simp[intOf];omega
   ·
    have hkk:k=((p.Y x).nl+(p.Y x).nf):=by omega
    have hge:¬((k:Int)<((((p.Y x).nl+(p.Y x).nf):Nat):Int)):=by omega
    have HD':Hid (m=selN (swC p O P S x) ((p.Y x).nl+(p.Y x).nf)/\D=selE (swC p O P S x) (fun j=>cat (p.Y x).nl (p.Y x).L (p.Y x).F j 0) ((p.Y x).nl+(p.Y x).nf)):=by rw[<-hkk];exact HD.out
    have hml:m<=2097152:=by omega
    clear hk hm HD
    obtain⟨E2,HE2d⟩:∃E,Hid (selD (scQ p O x) p.sec.toNat=E):=⟨_,rfl⟩
    obtain⟨E3,HE3d⟩:∃E,Hid (selD (swQ p O P S x) p.nw=E):=⟨_,rfl⟩
    have HE2:Hid (n2=selN (scQ p O x) p.sec.toNat/\(toL n2 D2).mergeSort (fun x y=>decide (x<=y))=toL n2 E2):=by
     have h1:=sec_sort (O:=O) (H.out.2.1.way x hx) H.out.2.2.2.2.2.2 HSEC.out
     rw[HN2.out,HD2.out,HE2d.out] at h1
     exact h1
    have HE3:Hid (m=selN (swQ p O P S x) p.nw/\(toL m D).mergeSort (fun x y=>decide (x<=y))=toL m E3):=by
     have h1:=sw_sort (O:=O) (P:=P) (S:=S) (H.out.2.1.way x hx) H.out.2.2.2.2.2.2 HSWR.out.2
     rw[<-HD'.out.1,<-HD'.out.2,HE3d.out] at h1
     exact h1
    have hn2:n2<=2097152:=by have h1:=selN_le (occC (p.Y x) O) ((p.Y x).ns+(p.Y x).no);have h2:=HN2.out;omega
    clear HD'
    have HOr:=HOW.out wr M.out.1
    have z1:=M.out.2.1.cel 1
    go_wp2_with fail
    clear z1 hge hkk
    refine(sortV V0.heap.size a2 n2 c2 D2 E2 wr HOr.2.1 hn2 HE2.out.2).mono ?_
    rintro e w7 ⟨rfl,hv7,hf7⟩
    have Z7:Hid (Below V0.heap.size V0 w7/\Box w7 tq 141 #[.slice a1 n1 c1,.slice a2 n2 c2,.slice va m vc]/\VOwn V0.heap.size 3 1 w7 (.slice a1 n1 c1) n1 (oneF D1)/\VOwn V0.heap.size 3 1 w7 (.slice a2 n2 c2) n2 (oneF E2)/\VOwn w3.heap.size 3 1 w7 (.slice va m vc) m (oneF D)):=by
     have hB:=HFW.out wr M.out.1
     refine⟨hB.trans (hf7.below hB.size fun b hb (e:(Value.slice a2 n2 c2).ownBlock=some b)=>?_),M.out.2.1.fr hf7 (fun(e:(Value.slice a2 n2 c2).ownBlock=some tq)=>HOr.2.1.off M.out.2.1 (by decide) e rfl),HOr.1.fr hf7 fun g hg (e:(Value.slice a2 n2 c2).ownBlock=some g)=>F3.out.2.2.2.2.2 g hg e,hv7,M.out.2.2.fr hf7 fun g hg (e:(Value.slice a2 n2 c2).ownBlock=some g)=>?_⟩
     ·
      have :=(F3.out.2.2.2.2.1.lt e).1
      omega
     ·
      have h1:=(M.out.2.2.lt hg).1
      have h2:=(F3.out.2.2.2.2.1.lt e).2
      omega
    clear hv7 hf7 HOr M
    have z2:=Z7.out.2.1.cel 2
    go_wp2_with fail
    clear z2
    refine(sortV w3.heap.size va m vc D E3 w7 Z7.out.2.2.2.2 hml HE3.out.2).mono ?_
    rintro e w8 ⟨rfl,hv8,hf8⟩
    have Z8:Hid (Below V0.heap.size V0 w8/\Box w8 tq 141 #[.slice a1 n1 c1,.slice a2 n2 c2,.slice va m vc]/\VOwn V0.heap.size 3 1 w8 (.slice a1 n1 c1) n1 (oneF D1)/\VOwn V0.heap.size 3 1 w8 (.slice a2 n2 c2) n2 (oneF E2)/\VOwn w3.heap.size 3 1 w8 (.slice va m vc) m (oneF E3)):=by
     refine⟨Z7.out.1.trans (hf8.below Z7.out.1.size fun b hb (e:(Value.slice va m vc).ownBlock=some b)=>?_),Z7.out.2.1.fr hf8 (fun(e:(Value.slice va m vc).ownBlock=some tq)=>Z7.out.2.2.2.2.off Z7.out.2.1 (by decide) e rfl),Z7.out.2.2.1.fr hf8 fun g hg (e:(Value.slice va m vc).ownBlock=some g)=>?_,Z7.out.2.2.2.1.fr hf8 fun g hg (e:(Value.slice va m vc).ownBlock=some g)=>?_,hv8⟩
     ·
      have h1:=(Z7.out.2.2.2.2.lt e).1
      have h2:=F3.out.1.size
      omega
     ·
      have h1:=(Z7.out.2.2.2.2.lt e).1
      have h2:=(F3.out.2.2.2.1.lt hg).2
      omega
     ·
      have h1:=(Z7.out.2.2.2.2.lt e).1
      have h2:=(F3.out.2.2.2.2.1.lt hg).2
      omega
    clear hv8 hf8 Z7
    have HNE:Hid ((∀g,(Value.slice a1 n1 c1).ownBlock=some g->(Value.slice a2 n2 c2).ownBlock≠some g/\(Value.slice va m vc).ownBlock≠some g)/\∀g,(Value.slice a2 n2 c2).ownBlock=some g->(Value.slice va m vc).ownBlock≠some g):=⟨fun g hg=>⟨F3.out.2.2.2.2.2 g hg,fun e=>by have h1:=(Z8.out.2.2.2.2.lt e).1;have h2:=(F3.out.2.2.2.1.lt hg).2;omega⟩,fun g hg e=>by have h1:=(Z8.out.2.2.2.2.lt e).1;have h2:=(F3.out.2.2.2.2.1.lt hg).2;omega⟩
    have HV8:=HST.out w8 Z8.out.1
    obtain⟨t0,t1,t2⟩:=Z8.out.2.1.c3
    obtain⟨e0,e1,e2⟩:=HV8.2.2.c3
    obtain⟨g0,g1,g2⟩:=HV8.2.2.f3
    have hsz0:w.heap.size<=V0.heap.size/\V0.heap.size<=w3.heap.size:=⟨S0.out.1.size,F3.out.1.size⟩
    have HF:Hid (Below w.heap.size w (((w8.setCell (ad (w.heap.size+1) 0) (.slice a1 n1 c1)).setCell (ad (w.heap.size+1) 1) (.slice a2 n2 c2)).setCell (ad (w.heap.size+1) 2) (.slice va m vc))/\Box (((w8.setCell (ad (w.heap.size+1) 0) (.slice a1 n1 c1)).setCell (ad (w.heap.size+1) 1) (.slice a2 n2 c2)).setCell (ad (w.heap.size+1) 2) (.slice va m vc)) (w.heap.size+1) 141 #[.slice a1 n1 c1,.slice a2 n2 c2,.slice va m vc]/\VOwn w.heap.size 3 1 (((w8.setCell (ad (w.heap.size+1) 0) (.slice a1 n1 c1)).setCell (ad (w.heap.size+1) 1) (.slice a2 n2 c2)).setCell (ad (w.heap.size+1) 2) (.slice va m vc)) (.slice a1 n1 c1) n1 (oneF D1)/\VOwn w.heap.size 3 1 (((w8.setCell (ad (w.heap.size+1) 0) (.slice a1 n1 c1)).setCell (ad (w.heap.size+1) 1) (.slice a2 n2 c2)).setCell (ad (w.heap.size+1) 2) (.slice va m vc)) (.slice a2 n2 c2) n2 (oneF E2)/\VOwn w.heap.size 3 1 (((w8.setCell (ad (w.heap.size+1) 0) (.slice a1 n1 c1)).setCell (ad (w.heap.size+1) 1) (.slice a2 n2 c2)).setCell (ad (w.heap.size+1) 2) (.slice va m vc)) (.slice va m vc) m (oneF E3)):=by
     have k0:=HV8.2.2
     have k1:=k0.set 0 (.slice a1 n1 c1)
     have k2:=k1.set 1 (.slice a2 n2 c2)
     have k3:=k2.set 2 (.slice va m vc)
     have hp:w.heap.size<=w.heap.size+1:=by omega
     exact⟨((HV8.1.setCell hp _).setCell hp _).setCell hp _,k3,(((Z8.out.2.2.1.set k0 (by decide) _ _).set k1 (by decide) _ _).set k2 (by decide) _ _).keep hsz0.1 fun _ _=>rfl,(((Z8.out.2.2.2.1.set k0 (by decide) _ _).set k1 (by decide) _ _).set k2 (by decide) _ _).keep hsz0.1 fun _ _=>rfl,(((Z8.out.2.2.2.2.set k0 (by decide) _ _).set k1 (by decide) _ _).set k2 (by decide) _ _).keep (Nat.le_trans hsz0.1 hsz0.2) fun _ _=>rfl⟩
    clear HV8 hsz0
    go_wp2_with fail
    generalize (((w8.setCell (ad (w.heap.size+1) 0) (.slice a1 n1 c1)).setCell (ad (w.heap.size+1) 1) (.slice a2 n2 c2)).setCell (ad (w.heap.size+1) 2) (.slice va m vc))=W9 at HF⊢
    clear t0 t1 t2 e0 e1 e2 g0 g1 g2
    have HE:Hid (StyR w p O P S x (.returned (.agg #[.slice a1 n1 c1,.slice a2 n2 c2,.slice va m vc])) W9):=by
     refine⟨a1,c1,a2,c2,va,vc,?_,?_,?_,?_,?_,?_,HF.out.1⟩
     ·
      rw[HN1.out,<-HE2.out.1,<-HE3.out.1]
     ·
      rw[HN1.out,HD1.out]
      exact HF.out.2.2.1
     ·
      rw[<-HE2.out.1,HE2d.out]
      exact HF.out.2.2.2.1
     ·
      rw[<-HE3.out.1,HE3d.out]
      exact HF.out.2.2.2.2
     ·
      rw[HN1.out,<-HE2.out.1,<-HE3.out.1]
      exact HNE.out.1
     ·
      rw[<-HE2.out.1,<-HE3.out.1]
      exact HNE.out.2
    obtain⟨d0,d1,d2⟩:=HF.out.2.1.c3
    exact bodyPost_ret (v:=.agg #[.slice a1 n1 c1,.slice a2 n2 c2,.slice va m vc]) (by simp[results,Tryz.results142,go_sem,d0,d1,d2]) rfl HE.out
end Go.Proofs.YtkeilejbelblcaaGreatDoor
