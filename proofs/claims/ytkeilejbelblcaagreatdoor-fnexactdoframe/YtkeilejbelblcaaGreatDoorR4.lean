import Derived.Test.YtkeilejbelblcaaGreatDoorJba
import Derived.Test.YtkeilejbelblcaaGreatDoorJbd
import Derived.Test.YtkeilejbelblcaaGreatDoorK7
import Derived.Test.YtkeilejbelblcaaGreatDoorJar
namespace Go.Proofs.YtkeilejbelblcaaGreatDoor
open Go.RowKit Go.Lib
def wantsS (p:Pl) (S:Nat->WS) (i x:Nat):Bool:=(heldS (S i)&&anyB (fun j=>decide ((p.Y i).F j 0=(x:Int))) (p.Y i).nf)||(anyB (fun j=>decide ((p.Y i).L j 0=(x:Int))) (p.Y i).nl&&keepsB p S i (p.W x))
theorem wants_same {p:Pl}{f:Fm}(h:frameB p f=true) {i:Nat}(hi:i<p.ny) (x:Nat):wantsS p (stS p f) i x=wantsB p f i x:=by
 rw[wantsS,wantsB,keeps_holds h hi,held_st (frame_st h hi).2]
 cases c:decide ((f.Y i).st≠0) with
 |false=>simp[holdsB,c]
 |true=>simp
set_option maxRecDepth 100000 in
set_option maxHeartbeats 16000000 in
theorem wanting53 (p:Pl) (wb yb bb:Nat) (lo rr:Nat->Nat) (oa:Option Addr) (no oc:Nat) (pa:Option Addr) (np pc:Nat) (ia:Option Addr) (ic:Nat) (S:Nat->WS) (N:Nat->Nat) (x:Nat) (w:World) (hx:x<p.nw) (hs:p.small) (hP:PlOwn 0 w p wb yb bb lo rr) (h:WlAt w ia p.ny N S):
  Calls Tryz.prog 137 #[.agg #[.int .i64 p.sec,.slice (some (ad wb 0)) p.nw p.nw,.slice (some (ad yb 0)) p.ny p.ny,.slice (some (ad bb 0)) p.nb p.nb,.int .i64 p.hold,.slice oa no oc,.slice pa np pc,.slice ia p.ny ic],.int .i64 (x:Int)] w fun e w'=>SelR w (fun i=>wantsS p S i x) p.ny e w':=by
 have H:Hid (p.small/\PlOwn 0 w p wb yb bb lo rr/\WlAt w ia p.ny N S):=⟨hs,hP,h⟩
 obtain⟨i0,hi0,hz0,hs0,hb0⟩:=info_parts infoInt
 have hny:=hs.2.1
 have hnw:p.nw<=1048576:=hs.1
 obtain⟨sb2,so2,hsa,_,hsl,hcs⟩:=(hP.in (Nat.le_refl 0)).sw (by omega)
 cases hsa
 have HSW:Hid (wb<w.heap.size/\w.cell? (ad wb x)=some (.int .i64 (p.W x))):=⟨hsl,by have :=hcs x hx 0 (by omega);rwa [Nat.mul_one,Nat.zero_add] at this⟩
 have HPI:Hid (PlIn 0 w p (some (ad wb 0)) (some (ad yb 0)) (some (ad bb 0))):=hP.in (Nat.le_refl 0)
 clear hs hP h hcs
 have hx0:(0:Int)<=(x:Int):=by omega
 have hxn:(x:Int)<(p.nw:Int):=by omega
 have S0:Hid (Below w.heap.size w ((w.alloc (.cells (vDk p wb yb bb oa no oc pa np pc ia ic) 84)).alloc (.cells #[.int .i64 (x:Int)] 3))/\Box ((w.alloc (.cells (vDk p wb yb bb oa no oc pa np pc ia ic) 84)).alloc (.cells #[.int .i64 (x:Int)] 3)) w.heap.size 84 (vDk p wb yb bb oa no oc pa np pc ia ic)/\Box ((w.alloc (.cells (vDk p wb yb bb oa no oc pa np pc ia ic) 84)).alloc (.cells #[.int .i64 (x:Int)] 3)) (w.heap.size+1) 3 #[.int .i64 (x:Int)]):=⟨bel2 _ _ _,(Box.new _ _ _).alloc _,by have :=Box.new (w.alloc (.cells (vDk p wb yb bb oa no oc pa np pc ia ic) 84)) 3 #[.int .i64 (x:Int)];simpa using this⟩
 go_enter Tryz.func137,Tryz.ntmps137
 go_wp2_with fail
 generalize ((w.alloc (.cells (vDk p wb yb bb oa no oc pa np pc ia ic) 84)).alloc (.cells #[.int .i64 (x:Int)] 3))=V0 at S0⊢
 have HST:Hid (∀W,Below V0.heap.size V0 W->Below w.heap.size w W/\Box W w.heap.size 84 (vDk p wb yb bb oa no oc pa np pc ia ic)/\Box W (w.heap.size+1) 3 #[.int .i64 (x:Int)]):=fun W hB=>⟨S0.out.1.trans (hB.mono S0.out.1.size),S0.out.2.1.mono hB nr,S0.out.2.2.mono hB nr⟩
 go_loopw [5,15] (fun u c wr=>∃(k m:Nat) (va:Option Addr) (vc:Nat) (D:Nat->Int),k<=p.ny/\m<=k/\c=.int .i64 (k:Int)/\u=.slice va m vc/\Hid (m=selN (fun i=>wantsS p S i x) k/\D=selD (fun i=>wantsS p S i x) k)/\Hid (Below V0.heap.size V0 wr/\VOwn V0.heap.size 3 1 wr (.slice va m vc) m (oneF D))) (fun _ c _=>p.ny-(intOf c).toNat)
 case atStart=>exact⟨0,0,none,0,fun _=>0,Nat.zero_le _,Nat.le_refl _,rfl,rfl,⟨rfl,rfl⟩,Below.refl _ _,VOwn.nil _ _ _ _ _⟩
 case round=>
  obtain⟨k,m,va,vc,D,hk,hm,rfl,rfl,HD,M⟩:=hrel
  by_cases hlt:k<p.ny
  ·
   have hk0:(0:Int)<=(k:Int):=by omega
   have hkn:(k:Int)<(p.ny:Int):=by omega
   have S1:=HST.out wr M.out.1
   obtain⟨yb2,yo2,hya,_,hyl,hcy⟩:=(HPI.out.mono nr S1.1 nr).wy (by omega)
   cases hya
   obtain⟨sa,sc,la,lc,fa,fc,oo,oc2,ma,mc,x0,x1,x2,x3,x4,hy⟩:=hcy k hlt
   rw[Nat.zero_add] at x0 x1 x2 x3 x4
   have HLF:Hid (VsAt 2 0 wr la (p.Y k).nl (intF (p.Y k).L)/\VsAt 2 0 wr fa (p.Y k).nf (intF (p.Y k).F)):=⟨hy.l,hy.f⟩
   have hsm:=H.out.1.2.2.1 k hlt
   have hnl:(p.Y k).nl<=1048576:=by have :=hsm.2.1;omega
   have hnf:(p.Y k).nf<=1048576:=by have :=hsm.2.2.1;omega
   clear hcy hy hsm
   have T1:Hid ((Below V0.heap.size V0 (wr.alloc (.cells (vWy (p.Y k) sa sc la lc fa fc oo oc2 ma mc) 112))/\VOwn V0.heap.size 3 1 (wr.alloc (.cells (vWy (p.Y k) sa sc la lc fa fc oo oc2 ma mc) 112)) (.slice va m vc) m (oneF D))/\Box (wr.alloc (.cells (vWy (p.Y k) sa sc la lc fa fc oo oc2 ma mc) 112)) wr.heap.size 112 (vWy (p.Y k) sa sc la lc fa fc oo oc2 ma mc)):=⟨⟨M.out.1.alloc M.out.1.size _,M.out.2.alloc _⟩,Box.new _ _ _⟩
   have HLF1:Hid (VsAt 2 0 (wr.alloc (.cells (vWy (p.Y k) sa sc la lc fa fc oo oc2 ma mc) 112)) la (p.Y k).nl (intF (p.Y k).L)/\VsAt 2 0 (wr.alloc (.cells (vWy (p.Y k) sa sc la lc fa fc oo oc2 ma mc) 112)) fa (p.Y k).nf (intF (p.Y k).F)):=⟨HLF.out.1.mono nr (bel1 _ _) nr,HLF.out.2.mono nr (bel1 _ _) nr⟩
   clear HLF
   obtain⟨d0,d1,d2,d3,d4,d5,d6,d7⟩:=S1.2.1.c8
   have hdl:w.heap.size<wr.heap.size:=S1.2.1.lt
   clear S1
   go_wp2_with fail
   clear x0 x1 x2 x3 x4 hdl d0 d1 d2 d3 d4 d5 d6 d7 M
   generalize (wr.alloc (.cells (vWy (p.Y k) sa sc la lc fa fc oo oc2 ma mc) 112))=V1 at T1 HLF1⊢
   generalize wr.heap.size=yq at T1⊢
   have HV1:=HST.out V1 T1.out.1.1
   refine(isHeld114 p wb yb bb oa no oc pa np pc ia ic S N k V1 hlt hny (H.out.2.2.mono HV1.1 nr)).mono ?_
   clear HV1
   rintro e w3 ⟨he,hb3⟩
   have T3:Hid ((Below V0.heap.size V0 w3/\VOwn V0.heap.size 3 1 w3 (.slice va m vc) m (oneF D))/\Box w3 yq 112 (vWy (p.Y k) sa sc la lc fa fc oo oc2 ma mc)):=⟨⟨T1.out.1.1.trans (hb3.mono T1.out.1.1.size),T1.out.1.2.mono nr hb3 nr⟩,T1.out.2.mono hb3 nr⟩
   have HLF3:Hid (VsAt 2 0 w3 la (p.Y k).nl (intF (p.Y k).L)/\VsAt 2 0 w3 fa (p.Y k).nf (intF (p.Y k).F)):=⟨HLF1.out.1.mono nr hb3 nr,HLF1.out.2.mono nr hb3 nr⟩
   clear hb3 T1 HLF1
   obtain⟨uh,HH⟩:∃u,Hid (heldS (S k)=u):=⟨_,rfl⟩
   rw[HH.out] at he
   subst he
   cases uh with
   |false=>
    have HBES:Hid ((heldS (S k)&&anyB (fun j=>decide ((p.Y k).F j 0=(x:Int))) (p.Y k).nf)=false):=by rw[Hid,HH.out];rfl
    have HL:Hid (VsAt 2 0 w3 la (p.Y k).nl (intF (p.Y k).L)):=HLF3.out.1
    clear HLF3
    go_wp2_with fail
    have TV:Hid ((Below V0.heap.size V0 w3/\VOwn V0.heap.size 3 1 w3 (.slice va m vc) m (oneF D))/\Box w3 yq 112 (vWy (p.Y k) sa sc la lc fa fc oo oc2 ma mc)):=T3
    have BD:Hid (Below w3.heap.size w3 w3.drew):=(Below.refl _ _).drew
    have TD:Hid ((Below V0.heap.size V0 w3.drew/\VOwn V0.heap.size 3 1 w3.drew (.slice va m vc) m (oneF D))/\Box w3.drew yq 112 (vWy (p.Y k) sa sc la lc fa fc oo oc2 ma mc)):=⟨⟨TV.out.1.1.drew,TV.out.1.2.keep nr fun _ _=>rfl⟩,TV.out.2.drew⟩
    clear T3
    obtain⟨ua,HA⟩:∃u,Hid (anyB (fun j=>decide ((p.Y k).L j 0=(x:Int))) (p.Y k).nl=u):=⟨_,rfl⟩
    obtain⟨uk,HKB⟩:∃u,Hid (keepsB p S k (p.W x)=u):=⟨_,rfl⟩
    have HUU:Hid (wantsS p S k x=(ua&&uk)):=by rw[Hid,wantsS,HBES.out,HA.out,HKB.out,Bool.false_or]
    cases ua with
    |false=>
     have HU:Hid (wantsS p S k x=false):=HUU.out
     refine wp_region_held_drew (S:=(fun wx:World=>wx.cell? (ad yq 1)=some (.slice la (p.Y k).nl lc)/\wx.cell? (ad w.heap.size 0)=some (.int .i64 p.sec)/\wx.cell? (ad w.heap.size 1)=some (.slice (some (ad wb 0)) p.nw p.nw)/\wx.cell? (ad w.heap.size 2)=some (.slice (some (ad yb 0)) p.ny p.ny)/\wx.cell? (ad w.heap.size 3)=some (.slice (some (ad bb 0)) p.nb p.nb)/\wx.cell? (ad w.heap.size 4)=some (.int .i64 p.hold)/\wx.cell? (ad w.heap.size 5)=some (.slice oa no oc)/\wx.cell? (ad w.heap.size 6)=some (.slice pa np pc)/\wx.cell? (ad w.heap.size 7)=some (.slice ia p.ny ic)/\wx.cell? (ad ((w.heap.size+1)) 0)=some (.int .i64 (x:Int))/\wx.cell? (ad wb x)=some (.int .i64 (p.W x)))) (by kernel_rfl) ?_ (fun hHeld=>?_)
     ·
      exact⟨TV.out.2.cell 1,(HST.out _ TV.out.1.1).2.1.cell 0,(HST.out _ TV.out.1.1).2.1.cell 1,(HST.out _ TV.out.1.1).2.1.cell 2,(HST.out _ TV.out.1.1).2.1.cell 3,(HST.out _ TV.out.1.1).2.1.cell 4,(HST.out _ TV.out.1.1).2.1.cell 5,(HST.out _ TV.out.1.1).2.1.cell 6,(HST.out _ TV.out.1.1).2.1.cell 7,(HST.out _ TV.out.1.1).2.2.cell 0,(HST.out _ TV.out.1.1).1.cell (p:=(ad wb x)) HSW.out.1 |>.trans HSW.out.2⟩
     refine tk 0 ?_
     refine tk 1 ?_
     refine tk 2 ?_
     refine tk 3 ?_
     refine tk 4 ?_
     refine rl 5 fun K hK=>?_
     go_simp
     refine(contains90 la (p.Y k).nl lc (p.Y k).L (w.heap.size+1) (x:Int) _ hnl (HL.out.mono nr BD.out nr) (HST.out _ TD.out.1.1).2.2.lt ((HST.out _ TD.out.1.1).2.2.cell 0)).mono ?_
     rintro e w5 ⟨he,hb5⟩
     have T5:Hid ((Below V0.heap.size V0 w5/\VOwn V0.heap.size 3 1 w5 (.slice va m vc) m (oneF D))/\Box w5 yq 112 (vWy (p.Y k) sa sc la lc fa fc oo oc2 ma mc)):=⟨⟨TD.out.1.1.trans (hb5.mono TD.out.1.1.size),TD.out.1.2.mono nr hb5 nr⟩,TD.out.2.mono hb5 nr⟩
     clear hb5
     rw[HA.out] at he
     subst he
     go_wp2_with fail
     refine hK.out _ _ ?_ (fun hHeld5=>?_)
     ·
      exact⟨T5.out.2.cell 1,(HST.out _ T5.out.1.1).2.1.cell 0,(HST.out _ T5.out.1.1).2.1.cell 1,(HST.out _ T5.out.1.1).2.1.cell 2,(HST.out _ T5.out.1.1).2.1.cell 3,(HST.out _ T5.out.1.1).2.1.cell 4,(HST.out _ T5.out.1.1).2.1.cell 5,(HST.out _ T5.out.1.1).2.1.cell 6,(HST.out _ T5.out.1.1).2.1.cell 7,(HST.out _ T5.out.1.1).2.2.cell 0,(HST.out _ T5.out.1.1).1.cell (p:=(ad wb x)) HSW.out.1 |>.trans HSW.out.2⟩
     clear hK K
     refine tk 6 ?_
     refine tf 7 ?_
     refine tf 8 ?_
     refine tf 9 ?_
     refine tf 10 ?_
     refine tf 11 ?_
     refine tf 12 ?_
     refine tf 13 ?_
     refine tf 14 ?_
     refine tf 15 ?_
     refine tk 16 ?_
     refine tk 17 ?_
     refine wpAnyH_done (by kernel_rfl) ?_ _
     have HD2:Hid (m=selN (fun i=>wantsS p S i x) (k+1)/\D=selD (fun i=>wantsS p S i x) (k+1)):=⟨HD.out.1.trans (selN_no (q:=(fun i=>wantsS p S i x)) HU.out).symm,HD.out.2.trans (selD_no (q:=(fun i=>wantsS p S i x)) HU.out).symm⟩
     have M3:=T5.out.1
     go_wp2_with fail
     go_roundw
     case rel=>exact⟨k+1,m,va,vc,D,by omega,by omega,by go_num,rfl,HD2,M3⟩
     case measure=>simp[intOf];omega
    |true=>
     cases uk with
     |false=>
      have HU:Hid (wantsS p S k x=false):=HUU.out
      refine wp_region_held_drew (S:=(fun wx:World=>wx.cell? (ad yq 1)=some (.slice la (p.Y k).nl lc)/\wx.cell? (ad w.heap.size 0)=some (.int .i64 p.sec)/\wx.cell? (ad w.heap.size 1)=some (.slice (some (ad wb 0)) p.nw p.nw)/\wx.cell? (ad w.heap.size 2)=some (.slice (some (ad yb 0)) p.ny p.ny)/\wx.cell? (ad w.heap.size 3)=some (.slice (some (ad bb 0)) p.nb p.nb)/\wx.cell? (ad w.heap.size 4)=some (.int .i64 p.hold)/\wx.cell? (ad w.heap.size 5)=some (.slice oa no oc)/\wx.cell? (ad w.heap.size 6)=some (.slice pa np pc)/\wx.cell? (ad w.heap.size 7)=some (.slice ia p.ny ic)/\wx.cell? (ad ((w.heap.size+1)) 0)=some (.int .i64 (x:Int))/\wx.cell? (ad wb x)=some (.int .i64 (p.W x)))) (by kernel_rfl) ?_ (fun hHeld=>?_)
      ·
       exact⟨TV.out.2.cell 1,(HST.out _ TV.out.1.1).2.1.cell 0,(HST.out _ TV.out.1.1).2.1.cell 1,(HST.out _ TV.out.1.1).2.1.cell 2,(HST.out _ TV.out.1.1).2.1.cell 3,(HST.out _ TV.out.1.1).2.1.cell 4,(HST.out _ TV.out.1.1).2.1.cell 5,(HST.out _ TV.out.1.1).2.1.cell 6,(HST.out _ TV.out.1.1).2.1.cell 7,(HST.out _ TV.out.1.1).2.2.cell 0,(HST.out _ TV.out.1.1).1.cell (p:=(ad wb x)) HSW.out.1 |>.trans HSW.out.2⟩
      refine tk 0 ?_
      refine tk 1 ?_
      refine tk 2 ?_
      refine tk 3 ?_
      refine tk 4 ?_
      refine rl 5 fun K hK=>?_
      go_simp
      refine(contains90 la (p.Y k).nl lc (p.Y k).L (w.heap.size+1) (x:Int) _ hnl (HL.out.mono nr BD.out nr) (HST.out _ TD.out.1.1).2.2.lt ((HST.out _ TD.out.1.1).2.2.cell 0)).mono ?_
      rintro e w5 ⟨he,hb5⟩
      have T5:Hid ((Below V0.heap.size V0 w5/\VOwn V0.heap.size 3 1 w5 (.slice va m vc) m (oneF D))/\Box w5 yq 112 (vWy (p.Y k) sa sc la lc fa fc oo oc2 ma mc)):=⟨⟨TD.out.1.1.trans (hb5.mono TD.out.1.1.size),TD.out.1.2.mono nr hb5 nr⟩,TD.out.2.mono hb5 nr⟩
      clear hb5
      rw[HA.out] at he
      subst he
      go_wp2_with fail
      refine hK.out _ _ ?_ (fun hHeld5=>?_)
      ·
       exact⟨T5.out.2.cell 1,(HST.out _ T5.out.1.1).2.1.cell 0,(HST.out _ T5.out.1.1).2.1.cell 1,(HST.out _ T5.out.1.1).2.1.cell 2,(HST.out _ T5.out.1.1).2.1.cell 3,(HST.out _ T5.out.1.1).2.1.cell 4,(HST.out _ T5.out.1.1).2.1.cell 5,(HST.out _ T5.out.1.1).2.1.cell 6,(HST.out _ T5.out.1.1).2.1.cell 7,(HST.out _ T5.out.1.1).2.2.cell 0,(HST.out _ T5.out.1.1).1.cell (p:=(ad wb x)) HSW.out.1 |>.trans HSW.out.2⟩
      clear hK K
      refine tk 6 ?_
      refine tk 7 ?_
      refine tk 8 ?_
      refine tk 9 ?_
      refine tk 10 ?_
      refine tk 11 ?_
      refine tk 12 ?_
      refine tk 13 ?_
      refine tk 14 ?_
      refine rl 15 fun K hK=>?_
      go_simp
      refine(keeps45 p wb yb bb lo rr oa no oc pa np pc ia ic S N k (p.W x) _ hlt H.out.1 (H.out.2.1.mono nr (HST.out _ T5.out.1.1).1 nr) (H.out.2.2.mono (HST.out _ T5.out.1.1).1 nr)).mono ?_
      rintro e w6 ⟨he,hb6⟩
      have T6:Hid ((Below V0.heap.size V0 w6/\VOwn V0.heap.size 3 1 w6 (.slice va m vc) m (oneF D))/\Box w6 yq 112 (vWy (p.Y k) sa sc la lc fa fc oo oc2 ma mc)):=⟨⟨T5.out.1.1.trans (hb6.mono T5.out.1.1.size),T5.out.1.2.mono nr hb6 nr⟩,T5.out.2.mono hb6 nr⟩
      clear hb6
      rw[HKB.out] at he
      subst he
      go_wp2_with fail
      refine hK.out _ _ ?_ (fun hHeld15=>?_)
      ·
       exact⟨T6.out.2.cell 1,(HST.out _ T6.out.1.1).2.1.cell 0,(HST.out _ T6.out.1.1).2.1.cell 1,(HST.out _ T6.out.1.1).2.1.cell 2,(HST.out _ T6.out.1.1).2.1.cell 3,(HST.out _ T6.out.1.1).2.1.cell 4,(HST.out _ T6.out.1.1).2.1.cell 5,(HST.out _ T6.out.1.1).2.1.cell 6,(HST.out _ T6.out.1.1).2.1.cell 7,(HST.out _ T6.out.1.1).2.2.cell 0,(HST.out _ T6.out.1.1).1.cell (p:=(ad wb x)) HSW.out.1 |>.trans HSW.out.2⟩
      clear hK K
      refine tk 16 ?_
      refine tk 17 ?_
      refine wpAnyH_done (by kernel_rfl) ?_ _
      have HD2:Hid (m=selN (fun i=>wantsS p S i x) (k+1)/\D=selD (fun i=>wantsS p S i x) (k+1)):=⟨HD.out.1.trans (selN_no (q:=(fun i=>wantsS p S i x)) HU.out).symm,HD.out.2.trans (selD_no (q:=(fun i=>wantsS p S i x)) HU.out).symm⟩
      have M3:=T6.out.1
      go_wp2_with fail
      go_roundw
      case rel=>exact⟨k+1,m,va,vc,D,by omega,by omega,by go_num,rfl,HD2,M3⟩
      case measure=>simp[intOf];omega
     |true=>
      have HU:Hid (wantsS p S k x=true):=HUU.out
      refine wp_region_held_drew (S:=(fun wx:World=>wx.cell? (ad yq 1)=some (.slice la (p.Y k).nl lc)/\wx.cell? (ad w.heap.size 0)=some (.int .i64 p.sec)/\wx.cell? (ad w.heap.size 1)=some (.slice (some (ad wb 0)) p.nw p.nw)/\wx.cell? (ad w.heap.size 2)=some (.slice (some (ad yb 0)) p.ny p.ny)/\wx.cell? (ad w.heap.size 3)=some (.slice (some (ad bb 0)) p.nb p.nb)/\wx.cell? (ad w.heap.size 4)=some (.int .i64 p.hold)/\wx.cell? (ad w.heap.size 5)=some (.slice oa no oc)/\wx.cell? (ad w.heap.size 6)=some (.slice pa np pc)/\wx.cell? (ad w.heap.size 7)=some (.slice ia p.ny ic)/\wx.cell? (ad ((w.heap.size+1)) 0)=some (.int .i64 (x:Int))/\wx.cell? (ad wb x)=some (.int .i64 (p.W x)))) (by kernel_rfl) ?_ (fun hHeld=>?_)
      ·
       exact⟨TV.out.2.cell 1,(HST.out _ TV.out.1.1).2.1.cell 0,(HST.out _ TV.out.1.1).2.1.cell 1,(HST.out _ TV.out.1.1).2.1.cell 2,(HST.out _ TV.out.1.1).2.1.cell 3,(HST.out _ TV.out.1.1).2.1.cell 4,(HST.out _ TV.out.1.1).2.1.cell 5,(HST.out _ TV.out.1.1).2.1.cell 6,(HST.out _ TV.out.1.1).2.1.cell 7,(HST.out _ TV.out.1.1).2.2.cell 0,(HST.out _ TV.out.1.1).1.cell (p:=(ad wb x)) HSW.out.1 |>.trans HSW.out.2⟩
      refine tk 0 ?_
      refine tk 1 ?_
      refine tk 2 ?_
      refine tk 3 ?_
      refine tk 4 ?_
      refine rl 5 fun K hK=>?_
      go_simp
      refine(contains90 la (p.Y k).nl lc (p.Y k).L (w.heap.size+1) (x:Int) _ hnl (HL.out.mono nr BD.out nr) (HST.out _ TD.out.1.1).2.2.lt ((HST.out _ TD.out.1.1).2.2.cell 0)).mono ?_
      rintro e w5 ⟨he,hb5⟩
      have T5:Hid ((Below V0.heap.size V0 w5/\VOwn V0.heap.size 3 1 w5 (.slice va m vc) m (oneF D))/\Box w5 yq 112 (vWy (p.Y k) sa sc la lc fa fc oo oc2 ma mc)):=⟨⟨TD.out.1.1.trans (hb5.mono TD.out.1.1.size),TD.out.1.2.mono nr hb5 nr⟩,TD.out.2.mono hb5 nr⟩
      clear hb5
      rw[HA.out] at he
      subst he
      go_wp2_with fail
      refine hK.out _ _ ?_ (fun hHeld5=>?_)
      ·
       exact⟨T5.out.2.cell 1,(HST.out _ T5.out.1.1).2.1.cell 0,(HST.out _ T5.out.1.1).2.1.cell 1,(HST.out _ T5.out.1.1).2.1.cell 2,(HST.out _ T5.out.1.1).2.1.cell 3,(HST.out _ T5.out.1.1).2.1.cell 4,(HST.out _ T5.out.1.1).2.1.cell 5,(HST.out _ T5.out.1.1).2.1.cell 6,(HST.out _ T5.out.1.1).2.1.cell 7,(HST.out _ T5.out.1.1).2.2.cell 0,(HST.out _ T5.out.1.1).1.cell (p:=(ad wb x)) HSW.out.1 |>.trans HSW.out.2⟩
      clear hK K
      refine tk 6 ?_
      refine tk 7 ?_
      refine tk 8 ?_
      refine tk 9 ?_
      refine tk 10 ?_
      refine tk 11 ?_
      refine tk 12 ?_
      refine tk 13 ?_
      refine tk 14 ?_
      refine rl 15 fun K hK=>?_
      go_simp
      refine(keeps45 p wb yb bb lo rr oa no oc pa np pc ia ic S N k (p.W x) _ hlt H.out.1 (H.out.2.1.mono nr (HST.out _ T5.out.1.1).1 nr) (H.out.2.2.mono (HST.out _ T5.out.1.1).1 nr)).mono ?_
      rintro e w6 ⟨he,hb6⟩
      have T6:Hid ((Below V0.heap.size V0 w6/\VOwn V0.heap.size 3 1 w6 (.slice va m vc) m (oneF D))/\Box w6 yq 112 (vWy (p.Y k) sa sc la lc fa fc oo oc2 ma mc)):=⟨⟨T5.out.1.1.trans (hb6.mono T5.out.1.1.size),T5.out.1.2.mono nr hb6 nr⟩,T5.out.2.mono hb6 nr⟩
      clear hb6
      rw[HKB.out] at he
      subst he
      go_wp2_with fail
      refine hK.out _ _ ?_ (fun hHeld15=>?_)
      ·
       exact⟨T6.out.2.cell 1,(HST.out _ T6.out.1.1).2.1.cell 0,(HST.out _ T6.out.1.1).2.1.cell 1,(HST.out _ T6.out.1.1).2.1.cell 2,(HST.out _ T6.out.1.1).2.1.cell 3,(HST.out _ T6.out.1.1).2.1.cell 4,(HST.out _ T6.out.1.1).2.1.cell 5,(HST.out _ T6.out.1.1).2.1.cell 6,(HST.out _ T6.out.1.1).2.1.cell 7,(HST.out _ T6.out.1.1).2.2.cell 0,(HST.out _ T6.out.1.1).1.cell (p:=(ad wb x)) HSW.out.1 |>.trans HSW.out.2⟩
      clear hK K
      refine tk 16 ?_
      refine tk 17 ?_
      refine wpAnyH_done (by kernel_rfl) ?_ _
      have HD2:Hid (m+1=selN (fun i=>wantsS p S i x) (k+1)/\updI D m (k:Int)=selD (fun i=>wantsS p S i x) (k+1)):=⟨by rw[selN_yes (q:=(fun i=>wantsS p S i x)) HU.out,HD.out.1],by rw[selD_yes (q:=(fun i=>wantsS p S i x)) HU.out,HD.out.1,HD.out.2]⟩
      have hszr:V0.heap.size<=w6.heap.size:=T6.out.1.1.size
      have M3:Hid (Below V0.heap.size V0 w6/\VOwn V0.heap.size 3 1 w6 (.slice va m vc) m (oneF D)):=T6.out.1
      have HW:Hid (VOwn V0.heap.size 3 1 w6 (.slice va m vc) m (oneF (updI D m (k:Int)))):=M3.out.2.congr fun i hi j _=>by simp[oneF,updI,hi]
      have hbx:Box (w6.alloc (.cells #[.int .i64 (k:Int)] 3)) w6.heap.size 3 #[.int .i64 (k:Int)]:=Box.new _ _ _
      go_wp2_with(at_builtin;go_must (refine wpList_vapp _ rfl _ _ 22 rfl V0.heap.size 3 i0 _ 1 8 Tryz.underlying22 hi0 hz0 hs0 hb0 rfl (by decide) (.slice va m vc) m (oneF (updI D m (k:Int))) rfl (HW.out.alloc _) (fun _ _=>rfl) w6.heap.size 1 #[.int .i64 (k:Int)] rfl hbx (by simp[oneF,updI]) (by simp only[maxLen];omega) (by omega) (by simp;omega) (Halt.mk ?_)))
      intro v2 w2 o2 g2
      obtain⟨va2,vc2,rfl⟩:=o2.val
      have M2:Hid (Below V0.heap.size V0 w2/\VOwn V0.heap.size 3 1 w2 (.slice va2 (m+1) vc2) (m+1) (oneF (updI D m (k:Int)))):=⟨(M3.out.1.alloc hszr _).grown g2 (by simp;omega) (fun j hj=>(HW.out.lt hj).1),o2⟩
      clear o2 g2 HW hbx
      go_wp2_with fail
      go_roundw
      case rel=>exact⟨k+1,m+1,va2,vc2,_,by omega,by omega,by go_num,rfl,HD2,M2⟩
      case measure=>simp[intOf];omega
   |true=>
    have y2:=T3.out.2.cel 2
    have HV3:=HST.out w3 T3.out.1.1
    go_wp2_with fail
    clear y2
    refine(contains90 fa (p.Y k).nf fc (p.Y k).F (w.heap.size+1) (x:Int) w3 hnf HLF3.out.2 HV3.2.2.lt (HV3.2.2.cell 0)).mono ?_
    clear HV3
    rintro e w4 ⟨he,hb4⟩
    have T4:Hid ((Below V0.heap.size V0 w4/\VOwn V0.heap.size 3 1 w4 (.slice va m vc) m (oneF D))/\Box w4 yq 112 (vWy (p.Y k) sa sc la lc fa fc oo oc2 ma mc)):=⟨⟨T3.out.1.1.trans (hb4.mono T3.out.1.1.size),T3.out.1.2.mono nr hb4 nr⟩,T3.out.2.mono hb4 nr⟩
    have HL:Hid (VsAt 2 0 w4 la (p.Y k).nl (intF (p.Y k).L)):=HLF3.out.1.mono nr hb4 nr
    clear hb4 T3 HLF3
    obtain⟨uf,HFL⟩:∃u,Hid (anyB (fun j=>decide ((p.Y k).F j 0=(x:Int))) (p.Y k).nf=u):=⟨_,rfl⟩
    rw[HFL.out] at he
    subst he
    cases uf with
    |true=>
     have HU:Hid (wantsS p S k x=true):=by rw[Hid,wantsS,HH.out,HFL.out];rfl
     go_wp2_with fail
     have TV:Hid ((Below V0.heap.size V0 w4/\VOwn V0.heap.size 3 1 w4 (.slice va m vc) m (oneF D))/\Box w4 yq 112 (vWy (p.Y k) sa sc la lc fa fc oo oc2 ma mc)):=T4
     have BD:Hid (Below w4.heap.size w4 w4.drew):=(Below.refl _ _).drew
     have TD:Hid ((Below V0.heap.size V0 w4.drew/\VOwn V0.heap.size 3 1 w4.drew (.slice va m vc) m (oneF D))/\Box w4.drew yq 112 (vWy (p.Y k) sa sc la lc fa fc oo oc2 ma mc)):=⟨⟨TV.out.1.1.drew,TV.out.1.2.keep nr fun _ _=>rfl⟩,TV.out.2.drew⟩
     clear T4
     refine wp_region_held_drew (S:=(fun wx:World=>wx.cell? (ad yq 1)=some (.slice la (p.Y k).nl lc)/\wx.cell? (ad w.heap.size 0)=some (.int .i64 p.sec)/\wx.cell? (ad w.heap.size 1)=some (.slice (some (ad wb 0)) p.nw p.nw)/\wx.cell? (ad w.heap.size 2)=some (.slice (some (ad yb 0)) p.ny p.ny)/\wx.cell? (ad w.heap.size 3)=some (.slice (some (ad bb 0)) p.nb p.nb)/\wx.cell? (ad w.heap.size 4)=some (.int .i64 p.hold)/\wx.cell? (ad w.heap.size 5)=some (.slice oa no oc)/\wx.cell? (ad w.heap.size 6)=some (.slice pa np pc)/\wx.cell? (ad w.heap.size 7)=some (.slice ia p.ny ic)/\wx.cell? (ad ((w.heap.size+1)) 0)=some (.int .i64 (x:Int))/\wx.cell? (ad wb x)=some (.int .i64 (p.W x)))) (by kernel_rfl) ?_ (fun hHeld=>?_)
     ·
      exact⟨TV.out.2.cell 1,(HST.out _ TV.out.1.1).2.1.cell 0,(HST.out _ TV.out.1.1).2.1.cell 1,(HST.out _ TV.out.1.1).2.1.cell 2,(HST.out _ TV.out.1.1).2.1.cell 3,(HST.out _ TV.out.1.1).2.1.cell 4,(HST.out _ TV.out.1.1).2.1.cell 5,(HST.out _ TV.out.1.1).2.1.cell 6,(HST.out _ TV.out.1.1).2.1.cell 7,(HST.out _ TV.out.1.1).2.2.cell 0,(HST.out _ TV.out.1.1).1.cell (p:=(ad wb x)) HSW.out.1 |>.trans HSW.out.2⟩
     refine tk 0 ?_
     refine tk 1 ?_
     refine tf 2 ?_
     refine tf 3 ?_
     refine tf 4 ?_
     refine tf 5 ?_
     refine tf 6 ?_
     refine tf 7 ?_
     refine tf 8 ?_
     refine tf 9 ?_
     refine tf 10 ?_
     refine tf 11 ?_
     refine tf 12 ?_
     refine tf 13 ?_
     refine tf 14 ?_
     refine tf 15 ?_
     refine tf 16 ?_
     refine tk 17 ?_
     refine wpAnyH_done (by kernel_rfl) ?_ _
     clear BD
     generalize w4.drew=W9 at TD⊢
     have HD2:Hid (m+1=selN (fun i=>wantsS p S i x) (k+1)/\updI D m (k:Int)=selD (fun i=>wantsS p S i x) (k+1)):=⟨by rw[selN_yes (q:=(fun i=>wantsS p S i x)) HU.out,HD.out.1],by rw[selD_yes (q:=(fun i=>wantsS p S i x)) HU.out,HD.out.1,HD.out.2]⟩
     have hszr:V0.heap.size<=W9.heap.size:=TD.out.1.1.size
     have M3:Hid (Below V0.heap.size V0 W9/\VOwn V0.heap.size 3 1 W9 (.slice va m vc) m (oneF D)):=TD.out.1
     have HW:Hid (VOwn V0.heap.size 3 1 W9 (.slice va m vc) m (oneF (updI D m (k:Int)))):=M3.out.2.congr fun i hi j _=>by simp[oneF,updI,hi]
     have hbx:Box (W9.alloc (.cells #[.int .i64 (k:Int)] 3)) W9.heap.size 3 #[.int .i64 (k:Int)]:=Box.new _ _ _
     go_wp2_with(at_builtin;go_must (refine wpList_vapp _ rfl _ _ 22 rfl V0.heap.size 3 i0 _ 1 8 Tryz.underlying22 hi0 hz0 hs0 hb0 rfl (by decide) (.slice va m vc) m (oneF (updI D m (k:Int))) rfl (HW.out.alloc _) (fun _ _=>rfl) W9.heap.size 1 #[.int .i64 (k:Int)] rfl hbx (by simp[oneF,updI]) (by simp only[maxLen];omega) (by omega) (by simp;omega) (Halt.mk ?_)))
     intro v2 w2 o2 g2
     obtain⟨va2,vc2,rfl⟩:=o2.val
     have M2:Hid (Below V0.heap.size V0 w2/\VOwn V0.heap.size 3 1 w2 (.slice va2 (m+1) vc2) (m+1) (oneF (updI D m (k:Int)))):=⟨(M3.out.1.alloc hszr _).grown g2 (by simp;omega) (fun j hj=>(HW.out.lt hj).1),o2⟩
     clear o2 g2 HW hbx
     go_wp2_with fail
     go_roundw
     case rel=>exact⟨k+1,m+1,va2,vc2,_,by omega,by omega,by go_num,rfl,HD2,M2⟩
     case measure=>simp[intOf];omega
    |false=>
     have HBES:Hid ((heldS (S k)&&anyB (fun j=>decide ((p.Y k).F j 0=(x:Int))) (p.Y k).nf)=false):=by rw[Hid,HH.out,HFL.out];rfl
     go_wp2_with fail
     have TV:Hid ((Below V0.heap.size V0 w4/\VOwn V0.heap.size 3 1 w4 (.slice va m vc) m (oneF D))/\Box w4 yq 112 (vWy (p.Y k) sa sc la lc fa fc oo oc2 ma mc)):=T4
     have BD:Hid (Below w4.heap.size w4 w4.drew):=(Below.refl _ _).drew
     have TD:Hid ((Below V0.heap.size V0 w4.drew/\VOwn V0.heap.size 3 1 w4.drew (.slice va m vc) m (oneF D))/\Box w4.drew yq 112 (vWy (p.Y k) sa sc la lc fa fc oo oc2 ma mc)):=⟨⟨TV.out.1.1.drew,TV.out.1.2.keep nr fun _ _=>rfl⟩,TV.out.2.drew⟩
     clear T4
     obtain⟨ua,HA⟩:∃u,Hid (anyB (fun j=>decide ((p.Y k).L j 0=(x:Int))) (p.Y k).nl=u):=⟨_,rfl⟩
     obtain⟨uk,HKB⟩:∃u,Hid (keepsB p S k (p.W x)=u):=⟨_,rfl⟩
     have HUU:Hid (wantsS p S k x=(ua&&uk)):=by rw[Hid,wantsS,HBES.out,HA.out,HKB.out,Bool.false_or]
     cases ua with
     |false=>
      have HU:Hid (wantsS p S k x=false):=HUU.out
      refine wp_region_held_drew (S:=(fun wx:World=>wx.cell? (ad yq 1)=some (.slice la (p.Y k).nl lc)/\wx.cell? (ad w.heap.size 0)=some (.int .i64 p.sec)/\wx.cell? (ad w.heap.size 1)=some (.slice (some (ad wb 0)) p.nw p.nw)/\wx.cell? (ad w.heap.size 2)=some (.slice (some (ad yb 0)) p.ny p.ny)/\wx.cell? (ad w.heap.size 3)=some (.slice (some (ad bb 0)) p.nb p.nb)/\wx.cell? (ad w.heap.size 4)=some (.int .i64 p.hold)/\wx.cell? (ad w.heap.size 5)=some (.slice oa no oc)/\wx.cell? (ad w.heap.size 6)=some (.slice pa np pc)/\wx.cell? (ad w.heap.size 7)=some (.slice ia p.ny ic)/\wx.cell? (ad ((w.heap.size+1)) 0)=some (.int .i64 (x:Int))/\wx.cell? (ad wb x)=some (.int .i64 (p.W x)))) (by kernel_rfl) ?_ (fun hHeld=>?_)
      ·
       exact⟨TV.out.2.cell 1,(HST.out _ TV.out.1.1).2.1.cell 0,(HST.out _ TV.out.1.1).2.1.cell 1,(HST.out _ TV.out.1.1).2.1.cell 2,(HST.out _ TV.out.1.1).2.1.cell 3,(HST.out _ TV.out.1.1).2.1.cell 4,(HST.out _ TV.out.1.1).2.1.cell 5,(HST.out _ TV.out.1.1).2.1.cell 6,(HST.out _ TV.out.1.1).2.1.cell 7,(HST.out _ TV.out.1.1).2.2.cell 0,(HST.out _ TV.out.1.1).1.cell (p:=(ad wb x)) HSW.out.1 |>.trans HSW.out.2⟩
      refine tk 0 ?_
      refine tk 1 ?_
      refine tk 2 ?_
      refine tk 3 ?_
      refine tk 4 ?_
      refine rl 5 fun K hK=>?_
      go_simp
      refine(contains90 la (p.Y k).nl lc (p.Y k).L (w.heap.size+1) (x:Int) _ hnl (HL.out.mono nr BD.out nr) (HST.out _ TD.out.1.1).2.2.lt ((HST.out _ TD.out.1.1).2.2.cell 0)).mono ?_
      rintro e w5 ⟨he,hb5⟩
      have T5:Hid ((Below V0.heap.size V0 w5/\VOwn V0.heap.size 3 1 w5 (.slice va m vc) m (oneF D))/\Box w5 yq 112 (vWy (p.Y k) sa sc la lc fa fc oo oc2 ma mc)):=⟨⟨TD.out.1.1.trans (hb5.mono TD.out.1.1.size),TD.out.1.2.mono nr hb5 nr⟩,TD.out.2.mono hb5 nr⟩
      clear hb5
      rw[HA.out] at he
      subst he
      go_wp2_with fail
      refine hK.out _ _ ?_ (fun hHeld5=>?_)
      ·
       exact⟨T5.out.2.cell 1,(HST.out _ T5.out.1.1).2.1.cell 0,(HST.out _ T5.out.1.1).2.1.cell 1,(HST.out _ T5.out.1.1).2.1.cell 2,(HST.out _ T5.out.1.1).2.1.cell 3,(HST.out _ T5.out.1.1).2.1.cell 4,(HST.out _ T5.out.1.1).2.1.cell 5,(HST.out _ T5.out.1.1).2.1.cell 6,(HST.out _ T5.out.1.1).2.1.cell 7,(HST.out _ T5.out.1.1).2.2.cell 0,(HST.out _ T5.out.1.1).1.cell (p:=(ad wb x)) HSW.out.1 |>.trans HSW.out.2⟩
      clear hK K
      refine tk 6 ?_
      refine tf 7 ?_
      refine tf 8 ?_
      refine tf 9 ?_
      refine tf 10 ?_
      refine tf 11 ?_
      refine tf 12 ?_
      refine tf 13 ?_
      refine tf 14 ?_
      refine tf 15 ?_
      refine tk 16 ?_
      refine tk 17 ?_
      refine wpAnyH_done (by kernel_rfl) ?_ _
      have HD2:Hid (m=selN (fun i=>wantsS p S i x) (k+1)/\D=selD (fun i=>wantsS p S i x) (k+1)):=⟨HD.out.1.trans (selN_no (q:=(fun i=>wantsS p S i x)) HU.out).symm,HD.out.2.trans (selD_no (q:=(fun i=>wantsS p S i x)) HU.out).symm⟩
      have M3:=T5.out.1
      go_wp2_with fail
      go_roundw
      case rel=>exact⟨k+1,m,va,vc,D,by omega,by omega,by go_num,rfl,HD2,M3⟩
      case measure=>simp[intOf];omega
     |true=>
      cases uk with
      |false=>
       have HU:Hid (wantsS p S k x=false):=HUU.out
       refine wp_region_held_drew (S:=(fun wx:World=>wx.cell? (ad yq 1)=some (.slice la (p.Y k).nl lc)/\wx.cell? (ad w.heap.size 0)=some (.int .i64 p.sec)/\wx.cell? (ad w.heap.size 1)=some (.slice (some (ad wb 0)) p.nw p.nw)/\wx.cell? (ad w.heap.size 2)=some (.slice (some (ad yb 0)) p.ny p.ny)/\wx.cell? (ad w.heap.size 3)=some (.slice (some (ad bb 0)) p.nb p.nb)/\wx.cell? (ad w.heap.size 4)=some (.int .i64 p.hold)/\wx.cell? (ad w.heap.size 5)=some (.slice oa no oc)/\wx.cell? (ad w.heap.size 6)=some (.slice pa np pc)/\wx.cell? (ad w.heap.size 7)=some (.slice ia p.ny ic)/\wx.cell? (ad ((w.heap.size+1)) 0)=some (.int .i64 (x:Int))/\wx.cell? (ad wb x)=some (.int .i64 (p.W x)))) (by kernel_rfl) ?_ (fun hHeld=>?_)
       ·
        exact⟨TV.out.2.cell 1,(HST.out _ TV.out.1.1).2.1.cell 0,(HST.out _ TV.out.1.1).2.1.cell 1,(HST.out _ TV.out.1.1).2.1.cell 2,(HST.out _ TV.out.1.1).2.1.cell 3,(HST.out _ TV.out.1.1).2.1.cell 4,(HST.out _ TV.out.1.1).2.1.cell 5,(HST.out _ TV.out.1.1).2.1.cell 6,(HST.out _ TV.out.1.1).2.1.cell 7,(HST.out _ TV.out.1.1).2.2.cell 0,(HST.out _ TV.out.1.1).1.cell (p:=(ad wb x)) HSW.out.1 |>.trans HSW.out.2⟩
       refine tk 0 ?_
       refine tk 1 ?_
       refine tk 2 ?_
       refine tk 3 ?_
       refine tk 4 ?_
       refine rl 5 fun K hK=>?_
       go_simp
       refine(contains90 la (p.Y k).nl lc (p.Y k).L (w.heap.size+1) (x:Int) _ hnl (HL.out.mono nr BD.out nr) (HST.out _ TD.out.1.1).2.2.lt ((HST.out _ TD.out.1.1).2.2.cell 0)).mono ?_
       rintro e w5 ⟨he,hb5⟩
       have T5:Hid ((Below V0.heap.size V0 w5/\VOwn V0.heap.size 3 1 w5 (.slice va m vc) m (oneF D))/\Box w5 yq 112 (vWy (p.Y k) sa sc la lc fa fc oo oc2 ma mc)):=⟨⟨TD.out.1.1.trans (hb5.mono TD.out.1.1.size),TD.out.1.2.mono nr hb5 nr⟩,TD.out.2.mono hb5 nr⟩
       clear hb5
       rw[HA.out] at he
       subst he
       go_wp2_with fail
       refine hK.out _ _ ?_ (fun hHeld5=>?_)
       ·
        exact⟨T5.out.2.cell 1,(HST.out _ T5.out.1.1).2.1.cell 0,(HST.out _ T5.out.1.1).2.1.cell 1,(HST.out _ T5.out.1.1).2.1.cell 2,(HST.out _ T5.out.1.1).2.1.cell 3,(HST.out _ T5.out.1.1).2.1.cell 4,(HST.out _ T5.out.1.1).2.1.cell 5,(HST.out _ T5.out.1.1).2.1.cell 6,(HST.out _ T5.out.1.1).2.1.cell 7,(HST.out _ T5.out.1.1).2.2.cell 0,(HST.out _ T5.out.1.1).1.cell (p:=(ad wb x)) HSW.out.1 |>.trans HSW.out.2⟩
       clear hK K
       refine tk 6 ?_
       refine tk 7 ?_
       refine tk 8 ?_
       refine tk 9 ?_
       refine tk 10 ?_
       refine tk 11 ?_
       refine tk 12 ?_
       refine tk 13 ?_
       refine tk 14 ?_
       refine rl 15 fun K hK=>?_
       go_simp
       refine(keeps45 p wb yb bb lo rr oa no oc pa np pc ia ic S N k (p.W x) _ hlt H.out.1 (H.out.2.1.mono nr (HST.out _ T5.out.1.1).1 nr) (H.out.2.2.mono (HST.out _ T5.out.1.1).1 nr)).mono ?_
       rintro e w6 ⟨he,hb6⟩
       have T6:Hid ((Below V0.heap.size V0 w6/\VOwn V0.heap.size 3 1 w6 (.slice va m vc) m (oneF D))/\Box w6 yq 112 (vWy (p.Y k) sa sc la lc fa fc oo oc2 ma mc)):=⟨⟨T5.out.1.1.trans (hb6.mono T5.out.1.1.size),T5.out.1.2.mono nr hb6 nr⟩,T5.out.2.mono hb6 nr⟩
       clear hb6
       rw[HKB.out] at he
       subst he
       go_wp2_with fail
       refine hK.out _ _ ?_ (fun hHeld15=>?_)
       ·
        exact⟨T6.out.2.cell 1,(HST.out _ T6.out.1.1).2.1.cell 0,(HST.out _ T6.out.1.1).2.1.cell 1,(HST.out _ T6.out.1.1).2.1.cell 2,(HST.out _ T6.out.1.1).2.1.cell 3,(HST.out _ T6.out.1.1).2.1.cell 4,(HST.out _ T6.out.1.1).2.1.cell 5,(HST.out _ T6.out.1.1).2.1.cell 6,(HST.out _ T6.out.1.1).2.1.cell 7,(HST.out _ T6.out.1.1).2.2.cell 0,(HST.out _ T6.out.1.1).1.cell (p:=(ad wb x)) HSW.out.1 |>.trans HSW.out.2⟩
       clear hK K
       refine tk 16 ?_
       refine tk 17 ?_
       refine wpAnyH_done (by kernel_rfl) ?_ _
       have HD2:Hid (m=selN (fun i=>wantsS p S i x) (k+1)/\D=selD (fun i=>wantsS p S i x) (k+1)):=⟨HD.out.1.trans (selN_no (q:=(fun i=>wantsS p S i x)) HU.out).symm,HD.out.2.trans (selD_no (q:=(fun i=>wantsS p S i x)) HU.out).symm⟩
       have M3:=T6.out.1
       go_wp2_with fail
       go_roundw
       case rel=>exact⟨k+1,m,va,vc,D,by omega,by omega,by go_num,rfl,HD2,M3⟩
       case measure=>simp[intOf];omega
      |true=>
       have HU:Hid (wantsS p S k x=true):=HUU.out
       refine wp_region_held_drew (S:=(fun wx:World=>wx.cell? (ad yq 1)=some (.slice la (p.Y k).nl lc)/\wx.cell? (ad w.heap.size 0)=some (.int .i64 p.sec)/\wx.cell? (ad w.heap.size 1)=some (.slice (some (ad wb 0)) p.nw p.nw)/\wx.cell? (ad w.heap.size 2)=some (.slice (some (ad yb 0)) p.ny p.ny)/\wx.cell? (ad w.heap.size 3)=some (.slice (some (ad bb 0)) p.nb p.nb)/\wx.cell? (ad w.heap.size 4)=some (.int .i64 p.hold)/\wx.cell? (ad w.heap.size 5)=some (.slice oa no oc)/\wx.cell? (ad w.heap.size 6)=some (.slice pa np pc)/\wx.cell? (ad w.heap.size 7)=some (.slice ia p.ny ic)/\wx.cell? (ad ((w.heap.size+1)) 0)=some (.int .i64 (x:Int))/\wx.cell? (ad wb x)=some (.int .i64 (p.W x)))) (by kernel_rfl) ?_ (fun hHeld=>?_)
       ·
        exact⟨TV.out.2.cell 1,(HST.out _ TV.out.1.1).2.1.cell 0,(HST.out _ TV.out.1.1).2.1.cell 1,(HST.out _ TV.out.1.1).2.1.cell 2,(HST.out _ TV.out.1.1).2.1.cell 3,(HST.out _ TV.out.1.1).2.1.cell 4,(HST.out _ TV.out.1.1).2.1.cell 5,(HST.out _ TV.out.1.1).2.1.cell 6,(HST.out _ TV.out.1.1).2.1.cell 7,(HST.out _ TV.out.1.1).2.2.cell 0,(HST.out _ TV.out.1.1).1.cell (p:=(ad wb x)) HSW.out.1 |>.trans HSW.out.2⟩
       refine tk 0 ?_
       refine tk 1 ?_
       refine tk 2 ?_
       refine tk 3 ?_
       refine tk 4 ?_
       refine rl 5 fun K hK=>?_
       go_simp
       refine(contains90 la (p.Y k).nl lc (p.Y k).L (w.heap.size+1) (x:Int) _ hnl (HL.out.mono nr BD.out nr) (HST.out _ TD.out.1.1).2.2.lt ((HST.out _ TD.out.1.1).2.2.cell 0)).mono ?_
       rintro e w5 ⟨he,hb5⟩
       have T5:Hid ((Below V0.heap.size V0 w5/\VOwn V0.heap.size 3 1 w5 (.slice va m vc) m (oneF D))/\Box w5 yq 112 (vWy (p.Y k) sa sc la lc fa fc oo oc2 ma mc)):=⟨⟨TD.out.1.1.trans (hb5.mono TD.out.1.1.size),TD.out.1.2.mono nr hb5 nr⟩,TD.out.2.mono hb5 nr⟩
       clear hb5
       rw[HA.out] at he
       subst he
       go_wp2_with fail
       refine hK.out _ _ ?_ (fun hHeld5=>?_)
       ·
        exact⟨T5.out.2.cell 1,(HST.out _ T5.out.1.1).2.1.cell 0,(HST.out _ T5.out.1.1).2.1.cell 1,(HST.out _ T5.out.1.1).2.1.cell 2,(HST.out _ T5.out.1.1).2.1.cell 3,(HST.out _ T5.out.1.1).2.1.cell 4,(HST.out _ T5.out.1.1).2.1.cell 5,(HST.out _ T5.out.1.1).2.1.cell 6,(HST.out _ T5.out.1.1).2.1.cell 7,(HST.out _ T5.out.1.1).2.2.cell 0,(HST.out _ T5.out.1.1).1.cell (p:=(ad wb x)) HSW.out.1 |>.trans HSW.out.2⟩
       clear hK K
       refine tk 6 ?_
       refine tk 7 ?_
       refine tk 8 ?_
       refine tk 9 ?_
       refine tk 10 ?_
       refine tk 11 ?_
       refine tk 12 ?_
       refine tk 13 ?_
       refine tk 14 ?_
       refine rl 15 fun K hK=>?_
       go_simp
       refine(keeps45 p wb yb bb lo rr oa no oc pa np pc ia ic S N k (p.W x) _ hlt H.out.1 (H.out.2.1.mono nr (HST.out _ T5.out.1.1).1 nr) (H.out.2.2.mono (HST.out _ T5.out.1.1).1 nr)).mono ?_
       rintro e w6 ⟨he,hb6⟩
       have T6:Hid ((Below V0.heap.size V0 w6/\VOwn V0.heap.size 3 1 w6 (.slice va m vc) m (oneF D))/\Box w6 yq 112 (vWy (p.Y k) sa sc la lc fa fc oo oc2 ma mc)):=⟨⟨T5.out.1.1.trans (hb6.mono T5.out.1.1.size),T5.out.1.2.mono nr hb6 nr⟩,T5.out.2.mono hb6 nr⟩
       clear hb6
       rw[HKB.out] at he
       subst he
       go_wp2_with fail
       refine hK.out _ _ ?_ (fun hHeld15=>?_)
       ·
        exact⟨T6.out.2.cell 1,(HST.out _ T6.out.1.1).2.1.cell 0,(HST.out _ T6.out.1.1).2.1.cell 1,(HST.out _ T6.out.1.1).2.1.cell 2,(HST.out _ T6.out.1.1).2.1.cell 3,(HST.out _ T6.out.1.1).2.1.cell 4,(HST.out _ T6.out.1.1).2.1.cell 5,(HST.out _ T6.out.1.1).2.1.cell 6,(HST.out _ T6.out.1.1).2.1.cell 7,(HST.out _ T6.out.1.1).2.2.cell 0,(HST.out _ T6.out.1.1).1.cell (p:=(ad wb x)) HSW.out.1 |>.trans HSW.out.2⟩
       clear hK K
       refine tk 16 ?_
       refine tk 17 ?_
       refine wpAnyH_done (by kernel_rfl) ?_ _
       have HD2:Hid (m+1=selN (fun i=>wantsS p S i x) (k+1)/\updI D m (k:Int)=selD (fun i=>wantsS p S i x) (k+1)):=⟨by rw[selN_yes (q:=(fun i=>wantsS p S i x)) HU.out,HD.out.1],by rw[selD_yes (q:=(fun i=>wantsS p S i x)) HU.out,HD.out.1,HD.out.2]⟩
       have hszr:V0.heap.size<=w6.heap.size:=T6.out.1.1.size
       have M3:Hid (Below V0.heap.size V0 w6/\VOwn V0.heap.size 3 1 w6 (.slice va m vc) m (oneF D)):=T6.out.1
       have HW:Hid (VOwn V0.heap.size 3 1 w6 (.slice va m vc) m (oneF (updI D m (k:Int)))):=M3.out.2.congr fun i hi j _=>by simp[oneF,updI,hi]
       have hbx:Box (w6.alloc (.cells #[.int .i64 (k:Int)] 3)) w6.heap.size 3 #[.int .i64 (k:Int)]:=Box.new _ _ _
       go_wp2_with(at_builtin;go_must (refine wpList_vapp _ rfl _ _ 22 rfl V0.heap.size 3 i0 _ 1 8 Tryz.underlying22 hi0 hz0 hs0 hb0 rfl (by decide) (.slice va m vc) m (oneF (updI D m (k:Int))) rfl (HW.out.alloc _) (fun _ _=>rfl) w6.heap.size 1 #[.int .i64 (k:Int)] rfl hbx (by simp[oneF,updI]) (by simp only[maxLen];omega) (by omega) (by simp;omega) (Halt.mk ?_)))
       intro v2 w2 o2 g2
       obtain⟨va2,vc2,rfl⟩:=o2.val
       have M2:Hid (Below V0.heap.size V0 w2/\VOwn V0.heap.size 3 1 w2 (.slice va2 (m+1) vc2) (m+1) (oneF (updI D m (k:Int)))):=⟨(M3.out.1.alloc hszr _).grown g2 (by simp;omega) (fun j hj=>(HW.out.lt hj).1),o2⟩
       clear o2 g2 HW hbx
       go_wp2_with fail
       go_roundw
       case rel=>exact⟨k+1,m+1,va2,vc2,_,by omega,by omega,by go_num,rfl,HD2,M2⟩
       case measure=>simp[intOf];omega
  ·
   obtain rfl:k=p.ny:=by omega
   have HF:Hid (SelR w (fun i=>wantsS p S i x) p.ny (.returned (.slice va m vc)) wr):=by
    obtain⟨e1,e2⟩:=HD.out
    refine⟨va,vc,by rw[e1],?_,S0.out.1.trans (M.out.1.mono S0.out.1.size)⟩
    rw[<-e1,<-e2]
    exact M.out.2.keep S0.out.1.size fun _ _=>rfl
   go_wp2_with fail
   go_ret
   exact HF.out
end Go.Proofs.YtkeilejbelblcaaGreatDoor
