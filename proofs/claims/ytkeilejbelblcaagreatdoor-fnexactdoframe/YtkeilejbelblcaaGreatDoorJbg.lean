import Derived.Test.YtkeilejbelblcaaGreatDoorJbf
import Derived.Test.YtkeilejbelblcaaGreatDoorJba
import Derived.Test.YtkeilejbelblcaaGreatDoorJar
import Derived.Test.YtkeilejbelblcaaGreatDoorJag
import Derived.Test.YtkeilejbelblcaaGreatDoorJao
import Derived.Test.YtkeilejbelblcaaGreatDoorJay
namespace Go.Proofs.YtkeilejbelblcaaGreatDoor
open Go.RowKit Go.Lib
def agS (p:Pl) (S:Nat->WS) (x k:Nat):Bool:=decide (k≠x)&&(heldS (S k)&&(p.T x k||(meetF (p.Y x).S (p.Y x).ns (p.Y k).O (p.Y k).no||meetF (p.Y x).O (p.Y x).no (p.Y k).S (p.Y k).ns)))
set_option maxRecDepth 100000 in
set_option maxHeartbeats 16000000 in
theorem against96 (p:Pl) (wb yb bb:Nat) (lo rr:Nat->Nat) (oa:Option Addr) (no oc:Nat) (pa:Option Addr) (np pc:Nat) (ia:Option Addr) (ic:Nat) (S:Nat->WS) (N:Nat->Nat) (x:Nat) (w:World) (hx:x<p.ny) (hs:p.small) (hok:p.Ok) (hP:PlOwn 0 w p wb yb bb lo rr) (h:WlAt w ia p.ny N S):
  Calls Tryz.prog 149 #[.agg #[.int .i64 p.sec,.slice (some (ad wb 0)) p.nw p.nw,.slice (some (ad yb 0)) p.ny p.ny,.slice (some (ad bb 0)) p.nb p.nb,.int .i64 p.hold,.slice oa no oc,.slice pa np pc,.slice ia p.ny ic],.int .i64 (x:Int)] w fun e w'=>SelR w (fun k=>agS p S x k) p.ny e w':=by
 have H:Hid (p.small/\PlOwn 0 w p wb yb bb lo rr/\WlAt w ia p.ny N S):=⟨hs,hP,h⟩
 obtain⟨i0,hi0,hz0,hs0,hb0⟩:=info_parts infoInt
 have hny:=hs.2.1
 have hnb:p.nb=p.ny:=hok.nb
 have HPI:Hid (PlIn 0 w p (some (ad wb 0)) (some (ad yb 0)) (some (ad bb 0))):=hP.in (Nat.le_refl 0)
 obtain⟨bb2,bo2,hba,_,hbl,hcb⟩:=HPI.out.br (by omega)
 cases hba
 obtain⟨ra,rc,r0,hrow⟩:=hcb x (by omega)
 rw[Nat.zero_add] at r0
 rw[hok.row x (by omega)] at r0 hrow
 have HBR:Hid (bb<w.heap.size/\w.cell? (ad bb x)=some (.slice ra p.ny rc)/\VsAt 1 0 w ra p.ny (boolF (p.T x))):=⟨hbl,r0,hrow⟩
 obtain⟨yb2,yo2,hya,_,hyl,hcy⟩:=HPI.out.wy (by omega)
 cases hya
 obtain⟨sa0,sc0,la0,lc0,fa0,fc0,oo0,oc0,ma0,mc0,x0,x1,x2,x3,x4,hy⟩:=hcy x hx
 rw[Nat.zero_add] at x0 x1 x2 x3 x4
 have HO:Hid (VsAt 1 0 w sa0 (p.Y x).ns (oneF (p.Y x).S)/\VsAt 1 0 w oo0 (p.Y x).no (oneF (p.Y x).O)):=⟨hy.s,hy.o⟩
 have hsmx:=hs.2.2.1 x hx
 have hns0:(p.Y x).ns<=1048576:=by have :=hsmx.1;omega
 have hno0:(p.Y x).no<=1048576:=by have :=hsmx.2.2.2.1;omega
 clear hs hP h hcb r0 hrow hcy hy hsmx hok
 have hx0:(0:Int)<=(x:Int):=by omega
 have hxn:(x:Int)<(p.ny:Int):=by omega
 have hxb:(x:Int)<(p.nb:Int):=by omega
 have hnbs:p.nb<=1048576:=by omega
 have HNB:Hid (p.nb=p.ny):=hnb
 clear hnb
 have S0:Hid (Below w.heap.size w ((w.alloc (.cells (vDk p wb yb bb oa no oc pa np pc ia ic) 84)).alloc (.cells (vWy (p.Y x) sa0 sc0 la0 lc0 fa0 fc0 oo0 oc0 ma0 mc0) 112))/\Box ((w.alloc (.cells (vDk p wb yb bb oa no oc pa np pc ia ic) 84)).alloc (.cells (vWy (p.Y x) sa0 sc0 la0 lc0 fa0 fc0 oo0 oc0 ma0 mc0) 112)) w.heap.size 84 (vDk p wb yb bb oa no oc pa np pc ia ic)/\Box ((w.alloc (.cells (vDk p wb yb bb oa no oc pa np pc ia ic) 84)).alloc (.cells (vWy (p.Y x) sa0 sc0 la0 lc0 fa0 fc0 oo0 oc0 ma0 mc0) 112)) (w.heap.size+1) 112 (vWy (p.Y x) sa0 sc0 la0 lc0 fa0 fc0 oo0 oc0 ma0 mc0)):=⟨bel2 _ _ _,(Box.new _ _ _).alloc _,by have :=Box.new (w.alloc (.cells (vDk p wb yb bb oa no oc pa np pc ia ic) 84)) 112 (vWy (p.Y x) sa0 sc0 la0 lc0 fa0 fc0 oo0 oc0 ma0 mc0);simpa using this⟩
 go_enter Tryz.func149,Tryz.ntmps149
 go_wp2_with fail
 clear x0 x1 x2 x3 x4
 generalize ((w.alloc (.cells (vDk p wb yb bb oa no oc pa np pc ia ic) 84)).alloc (.cells (vWy (p.Y x) sa0 sc0 la0 lc0 fa0 fc0 oo0 oc0 ma0 mc0) 112))=V0 at S0⊢
 have HST:Hid (∀W,Below V0.heap.size V0 W->Below w.heap.size w W/\Box W w.heap.size 84 (vDk p wb yb bb oa no oc pa np pc ia ic)/\Box W (w.heap.size+1) 112 (vWy (p.Y x) sa0 sc0 la0 lc0 fa0 fc0 oo0 oc0 ma0 mc0)):=fun W hB=>⟨S0.out.1.trans (hB.mono S0.out.1.size),S0.out.2.1.mono hB nr,S0.out.2.2.mono hB nr⟩
 go_loopw [5,19] (fun u c wr=>∃(k m:Nat) (va:Option Addr) (vc:Nat) (D:Nat->Int),k<=p.ny/\m<=k/\c=.int .i64 (k:Int)/\u=.slice va m vc/\Hid (m=selN (fun k=>agS p S x k) k/\D=selD (fun k=>agS p S x k) k)/\Hid (Below V0.heap.size V0 wr/\VOwn V0.heap.size 3 1 wr (.slice va m vc) m (oneF D))) (fun _ c _=>p.ny-(intOf c).toNat)
 case atStart=>exact⟨0,0,none,0,fun _=>0,Nat.zero_le _,Nat.le_refl _,rfl,rfl,⟨rfl,rfl⟩,Below.refl _ _,VOwn.nil _ _ _ _ _⟩
 case round=>
  obtain⟨k,m,va,vc,D,hk,hm,rfl,rfl,HD,M⟩:=hrel
  by_cases hlt:k<p.ny
  ·
   have hk0:(0:Int)<=(k:Int):=by omega
   have hkn:(k:Int)<(p.ny:Int):=by omega
   have S1:=HST.out wr M.out.1
   obtain⟨yb2,yo2,hya,_,hyl,hcy⟩:=(HPI.out.mono nr S1.1 nr).wy (by omega)
   cases hya
   obtain⟨sa,sc,la,lc,fa,fc,oo,oc2,ma,mc,x0,x1,x2,x3,x4,hy⟩:=hcy k hlt
   rw[Nat.zero_add] at x0 x1 x2 x3 x4
   have hsm:=H.out.1.2.2.1 k hlt
   have hns:(p.Y k).ns<=1048576:=by have :=hsm.1;omega
   have hno:(p.Y k).no<=1048576:=by have :=hsm.2.2.2.1;omega
   have T1:Hid ((Below V0.heap.size V0 (wr.alloc (.cells (vWy (p.Y k) sa sc la lc fa fc oo oc2 ma mc) 112))/\VOwn V0.heap.size 3 1 (wr.alloc (.cells (vWy (p.Y k) sa sc la lc fa fc oo oc2 ma mc) 112)) (.slice va m vc) m (oneF D))/\Box (wr.alloc (.cells (vWy (p.Y k) sa sc la lc fa fc oo oc2 ma mc) 112)) wr.heap.size 112 (vWy (p.Y k) sa sc la lc fa fc oo oc2 ma mc)):=⟨⟨M.out.1.alloc M.out.1.size _,M.out.2.alloc _⟩,Box.new _ _ _⟩
   have HSO:Hid (VsAt 1 0 (wr.alloc (.cells (vWy (p.Y k) sa sc la lc fa fc oo oc2 ma mc) 112)) sa (p.Y k).ns (oneF (p.Y k).S)/\VsAt 1 0 (wr.alloc (.cells (vWy (p.Y k) sa sc la lc fa fc oo oc2 ma mc) 112)) oo (p.Y k).no (oneF (p.Y k).O)):=⟨hy.s.mono nr (bel1 _ _) nr,hy.o.mono nr (bel1 _ _) nr⟩
   clear hcy hy hsm
   by_cases hxk:k=x
   ·
    have HU:Hid (agS p S x k=false):=by simp[Hid,agS,hxk]
    have zz:((k:Int)==(x:Int))=true:=by simp[hxk]
    clear hxk S1
    have HD2:Hid (m=selN (fun k=>agS p S x k) (k+1)/\D=selD (fun k=>agS p S x k) (k+1)):=⟨HD.out.1.trans (selN_no (q:=(fun k=>agS p S x k)) HU.out).symm,HD.out.2.trans (selD_no (q:=(fun k=>agS p S x k)) HU.out).symm⟩
    have M3:=T1.out.1
    go_wp2_with fail
    go_roundw
    case rel=>exact⟨k+1,m,va,vc,D,by omega,by omega,by go_num,rfl,HD2,M3⟩
    case measure=>simp[intOf];omega
   have HXK:Hid (decide (k≠x)=true):=by simp[Hid,hxk]
   have zz:((k:Int)==(x:Int))=false:=by simp;omega
   clear hxk
   have d0:wr.cell? (ad w.heap.size 0)=some (.int .i64 p.sec):=S1.2.1.cell 0
   have d1:wr.cell? (ad w.heap.size 1)=some (.slice (some (ad wb 0)) p.nw p.nw):=S1.2.1.cell 1
   have d2:wr.cell? (ad w.heap.size 2)=some (.slice (some (ad yb 0)) p.ny p.ny):=S1.2.1.cell 2
   have d3:wr.cell? (ad w.heap.size 3)=some (.slice (some (ad bb 0)) p.nb p.nb):=S1.2.1.cell 3
   have d4:wr.cell? (ad w.heap.size 4)=some (.int .i64 p.hold):=S1.2.1.cell 4
   have d5:wr.cell? (ad w.heap.size 5)=some (.slice oa no oc):=S1.2.1.cell 5
   have d6:wr.cell? (ad w.heap.size 6)=some (.slice pa np pc):=S1.2.1.cell 6
   have d7:wr.cell? (ad w.heap.size 7)=some (.slice ia p.ny ic):=S1.2.1.cell 7
   have hdl:w.heap.size<wr.heap.size:=S1.2.1.lt
   clear S1
   go_wp2_with fail
   clear x0 x1 x2 x3 x4 hdl d0 d1 d2 d3 d4 d5 d6 d7 M zz
   generalize (wr.alloc (.cells (vWy (p.Y k) sa sc la lc fa fc oo oc2 ma mc) 112))=V1 at T1 HSO⊢
   generalize wr.heap.size=yq at T1⊢
   have HV1:=HST.out V1 T1.out.1.1
   refine(isHeld114 p wb yb bb oa no oc pa np pc ia ic S N k V1 hlt hny (H.out.2.2.mono HV1.1 nr)).mono ?_
   clear HV1
   rintro e w3 ⟨he,hb3⟩
   have T3:Hid ((Below V0.heap.size V0 w3/\VOwn V0.heap.size 3 1 w3 (.slice va m vc) m (oneF D))/\Box w3 yq 112 (vWy (p.Y k) sa sc la lc fa fc oo oc2 ma mc)):=⟨⟨T1.out.1.1.trans (hb3.mono T1.out.1.1.size),T1.out.1.2.mono nr hb3 nr⟩,T1.out.2.mono hb3 nr⟩
   have HSO3:Hid (VsAt 1 0 w3 sa (p.Y k).ns (oneF (p.Y k).S)/\VsAt 1 0 w3 oo (p.Y k).no (oneF (p.Y k).O)):=⟨HSO.out.1.mono nr hb3 nr,HSO.out.2.mono nr hb3 nr⟩
   clear hb3 T1 HSO
   obtain⟨uh,HH⟩:∃u,Hid (heldS (S k)=u):=⟨_,rfl⟩
   rw[HH.out] at he
   subst he
   cases uh with
   |false=>
    have HU:Hid (agS p S x k=false):=by rw[Hid,agS,HXK.out,HH.out];rfl
    have HD2:Hid (m=selN (fun k=>agS p S x k) (k+1)/\D=selD (fun k=>agS p S x k) (k+1)):=⟨HD.out.1.trans (selN_no (q:=(fun k=>agS p S x k)) HU.out).symm,HD.out.2.trans (selD_no (q:=(fun k=>agS p S x k)) HU.out).symm⟩
    have M3:=T3.out.1
    go_wp2_with fail
    go_roundw
    case rel=>exact⟨k+1,m,va,vc,D,by omega,by omega,by go_num,rfl,HD2,M3⟩
    case measure=>simp[intOf];omega
   |true=>
    have HV3:=HST.out w3 T3.out.1.1
    obtain⟨rb,ro,hra,_,hrl,hcr⟩:=HBR.out.2.2.mono nr HV3.1 nr (by omega)
    have e3:w3.cell? (ad bb x)=some (.slice (some (ad rb ro)) p.ny rc):=by rw[<-hra];exact(HV3.1.cell (p:=(ad bb x)) HBR.out.1).trans HBR.out.2.1
    have e4:w3.cell? (ad rb (ro+k))=some (.bool (p.T x k)):=by have :=hcr k hlt 0 (by omega);rwa [Nat.mul_one] at this
    clear hcr hra
    have HTT:Hid (agS p S x k=(p.T x k||(meetF (p.Y x).S (p.Y x).ns (p.Y k).O (p.Y k).no||meetF (p.Y x).O (p.Y x).no (p.Y k).S (p.Y k).ns))):=by rw[Hid,agS,HXK.out,HH.out];rfl
    have d3:w3.cell? (ad w.heap.size 3)=some (.slice (some (ad bb 0)) p.nb p.nb):=HV3.2.1.cell 3
    have g0:w3.cell? (ad ((w.heap.size+1)) 0)=some (.slice sa0 (p.Y x).ns sc0):=HV3.2.2.cell 0
    have y3:w3.cell? (ad yq 3)=some (.slice oo (p.Y k).no oc2):=T3.out.2.cell 3
    have HOO:=HO.out
    cases hT:p.T x k with
    |true=>
     have HU:Hid (agS p S x k=true):=by rw[Hid,HTT.out,hT];rfl
     rw[hT] at e4
     clear HV3 HOO
     have HD2:Hid (m+1=selN (fun k=>agS p S x k) (k+1)/\updI D m (k:Int)=selD (fun k=>agS p S x k) (k+1)):=⟨by rw[selN_yes (q:=(fun k=>agS p S x k)) HU.out,HD.out.1],by rw[selD_yes (q:=(fun k=>agS p S x k)) HU.out,HD.out.1,HD.out.2]⟩
     have hszr:V0.heap.size<=w3.heap.size:=T3.out.1.1.size
     have M3:Hid (Below V0.heap.size V0 w3/\VOwn V0.heap.size 3 1 w3 (.slice va m vc) m (oneF D)):=T3.out.1
     have HW:Hid (VOwn V0.heap.size 3 1 w3 (.slice va m vc) m (oneF (updI D m (k:Int)))):=M3.out.2.congr fun i hi j _=>by simp[oneF,updI,hi]
     have hbx:Box (w3.alloc (.cells #[.int .i64 (k:Int)] 3)) w3.heap.size 3 #[.int .i64 (k:Int)]:=Box.new _ _ _
     go_wp2_with(at_builtin;go_must (refine wpList_vapp _ rfl _ _ 22 rfl V0.heap.size 3 i0 _ 1 8 Tryz.underlying22 hi0 hz0 hs0 hb0 rfl (by decide) (.slice va m vc) m (oneF (updI D m (k:Int))) rfl (HW.out.alloc _) (fun _ _=>rfl) w3.heap.size 1 #[.int .i64 (k:Int)] rfl hbx (by simp[oneF,updI]) (by simp only[maxLen];omega) (by omega) (by simp;omega) (Halt.mk ?_)))
     intro v2 w2 o2 g2
     obtain⟨va2,vc2,rfl⟩:=o2.val
     have M2:Hid (Below V0.heap.size V0 w2/\VOwn V0.heap.size 3 1 w2 (.slice va2 (m+1) vc2) (m+1) (oneF (updI D m (k:Int)))):=⟨(M3.out.1.alloc hszr _).grown g2 (by simp;omega) (fun j hj=>(HW.out.lt hj).1),o2⟩
     clear o2 g2 HW hbx
     go_wp2_with fail
     go_roundw
     case rel=>exact⟨k+1,m+1,va2,vc2,_,by omega,by omega,by go_num,rfl,HD2,M2⟩
     case measure=>simp[intOf];omega
    |false=>
     rw[hT] at e4
     go_wp2_with fail
     clear e3 e4 d3 g0 y3
     refine(overlap116 sa0 (p.Y x).ns sc0 (p.Y x).S oo (p.Y k).no oc2 (p.Y k).O w3 hns0 hno (HOO.1.mono nr HV3.1 nr) HSO3.out.2).mono ?_
     clear HV3 HOO
     rintro e w4 ⟨he,hb4⟩
     have T4:Hid ((Below V0.heap.size V0 w4/\VOwn V0.heap.size 3 1 w4 (.slice va m vc) m (oneF D))/\Box w4 yq 112 (vWy (p.Y k) sa sc la lc fa fc oo oc2 ma mc)):=⟨⟨T3.out.1.1.trans (hb4.mono T3.out.1.1.size),T3.out.1.2.mono nr hb4 nr⟩,T3.out.2.mono hb4 nr⟩
     have HSO4:Hid (VsAt 1 0 w4 sa (p.Y k).ns (oneF (p.Y k).S)):=HSO3.out.1.mono nr hb4 nr
     clear hb4 T3 HSO3
     obtain⟨u1,HM1⟩:∃u,Hid (meetF (p.Y x).S (p.Y x).ns (p.Y k).O (p.Y k).no=u):=⟨_,rfl⟩
     rw[HM1.out] at he
     subst he
     cases u1 with
     |true=>
      have HU:Hid (agS p S x k=true):=by rw[Hid,HTT.out,HM1.out];simp
      have HD2:Hid (m+1=selN (fun k=>agS p S x k) (k+1)/\updI D m (k:Int)=selD (fun k=>agS p S x k) (k+1)):=⟨by rw[selN_yes (q:=(fun k=>agS p S x k)) HU.out,HD.out.1],by rw[selD_yes (q:=(fun k=>agS p S x k)) HU.out,HD.out.1,HD.out.2]⟩
      have hszr:V0.heap.size<=w4.heap.size:=T4.out.1.1.size
      have M3:Hid (Below V0.heap.size V0 w4/\VOwn V0.heap.size 3 1 w4 (.slice va m vc) m (oneF D)):=T4.out.1
      have HW:Hid (VOwn V0.heap.size 3 1 w4 (.slice va m vc) m (oneF (updI D m (k:Int)))):=M3.out.2.congr fun i hi j _=>by simp[oneF,updI,hi]
      have hbx:Box (w4.alloc (.cells #[.int .i64 (k:Int)] 3)) w4.heap.size 3 #[.int .i64 (k:Int)]:=Box.new _ _ _
      go_wp2_with(at_builtin;go_must (refine wpList_vapp _ rfl _ _ 22 rfl V0.heap.size 3 i0 _ 1 8 Tryz.underlying22 hi0 hz0 hs0 hb0 rfl (by decide) (.slice va m vc) m (oneF (updI D m (k:Int))) rfl (HW.out.alloc _) (fun _ _=>rfl) w4.heap.size 1 #[.int .i64 (k:Int)] rfl hbx (by simp[oneF,updI]) (by simp only[maxLen];omega) (by omega) (by simp;omega) (Halt.mk ?_)))
      intro v2 w2 o2 g2
      obtain⟨va2,vc2,rfl⟩:=o2.val
      have M2:Hid (Below V0.heap.size V0 w2/\VOwn V0.heap.size 3 1 w2 (.slice va2 (m+1) vc2) (m+1) (oneF (updI D m (k:Int)))):=⟨(M3.out.1.alloc hszr _).grown g2 (by simp;omega) (fun j hj=>(HW.out.lt hj).1),o2⟩
      clear o2 g2 HW hbx
      go_wp2_with fail
      go_roundw
      case rel=>exact⟨k+1,m+1,va2,vc2,_,by omega,by omega,by go_num,rfl,HD2,M2⟩
      case measure=>simp[intOf];omega
     |false=>
      have HV4:=HST.out w4 T4.out.1.1
      have g3:w4.cell? (ad ((w.heap.size+1)) 3)=some (.slice oo0 (p.Y x).no oc0):=HV4.2.2.cell 3
      have y0:w4.cell? (ad yq 0)=some (.slice sa (p.Y k).ns sc):=T4.out.2.cell 0
      go_wp2_with fail
      clear g3 y0
      refine(overlap116 oo0 (p.Y x).no oc0 (p.Y x).O sa (p.Y k).ns sc (p.Y k).S w4 hno0 hns (HO.out.2.mono nr HV4.1 nr) HSO4.out).mono ?_
      clear HV4
      rintro e w5 ⟨he,hb5⟩
      have T5:Hid ((Below V0.heap.size V0 w5/\VOwn V0.heap.size 3 1 w5 (.slice va m vc) m (oneF D))/\Box w5 yq 112 (vWy (p.Y k) sa sc la lc fa fc oo oc2 ma mc)):=⟨⟨T4.out.1.1.trans (hb5.mono T4.out.1.1.size),T4.out.1.2.mono nr hb5 nr⟩,T4.out.2.mono hb5 nr⟩
      clear hb5 T4 HSO4
      obtain⟨u2,HM2⟩:∃u,Hid (meetF (p.Y x).O (p.Y x).no (p.Y k).S (p.Y k).ns=u):=⟨_,rfl⟩
      rw[HM2.out] at he
      subst he
      cases u2 with
      |true=>
       have HU:Hid (agS p S x k=true):=by rw[Hid,HTT.out,HM2.out];simp
       have HD2:Hid (m+1=selN (fun k=>agS p S x k) (k+1)/\updI D m (k:Int)=selD (fun k=>agS p S x k) (k+1)):=⟨by rw[selN_yes (q:=(fun k=>agS p S x k)) HU.out,HD.out.1],by rw[selD_yes (q:=(fun k=>agS p S x k)) HU.out,HD.out.1,HD.out.2]⟩
       have hszr:V0.heap.size<=w5.heap.size:=T5.out.1.1.size
       have M3:Hid (Below V0.heap.size V0 w5/\VOwn V0.heap.size 3 1 w5 (.slice va m vc) m (oneF D)):=T5.out.1
       have HW:Hid (VOwn V0.heap.size 3 1 w5 (.slice va m vc) m (oneF (updI D m (k:Int)))):=M3.out.2.congr fun i hi j _=>by simp[oneF,updI,hi]
       have hbx:Box (w5.alloc (.cells #[.int .i64 (k:Int)] 3)) w5.heap.size 3 #[.int .i64 (k:Int)]:=Box.new _ _ _
       go_wp2_with(at_builtin;go_must (refine wpList_vapp _ rfl _ _ 22 rfl V0.heap.size 3 i0 _ 1 8 Tryz.underlying22 hi0 hz0 hs0 hb0 rfl (by decide) (.slice va m vc) m (oneF (updI D m (k:Int))) rfl (HW.out.alloc _) (fun _ _=>rfl) w5.heap.size 1 #[.int .i64 (k:Int)] rfl hbx (by simp[oneF,updI]) (by simp only[maxLen];omega) (by omega) (by simp;omega) (Halt.mk ?_)))
       intro v2 w2 o2 g2
       obtain⟨va2,vc2,rfl⟩:=o2.val
       have M2:Hid (Below V0.heap.size V0 w2/\VOwn V0.heap.size 3 1 w2 (.slice va2 (m+1) vc2) (m+1) (oneF (updI D m (k:Int)))):=⟨(M3.out.1.alloc hszr _).grown g2 (by simp;omega) (fun j hj=>(HW.out.lt hj).1),o2⟩
       clear o2 g2 HW hbx
       go_wp2_with fail
       go_roundw
       case rel=>exact⟨k+1,m+1,va2,vc2,_,by omega,by omega,by go_num,rfl,HD2,M2⟩
       case measure=>simp[intOf];omega
      |false=>
       have HU:Hid (agS p S x k=false):=by rw[Hid,HTT.out,hT,HM1.out,HM2.out];rfl
       have HD2:Hid (m=selN (fun k=>agS p S x k) (k+1)/\D=selD (fun k=>agS p S x k) (k+1)):=⟨HD.out.1.trans (selN_no (q:=(fun k=>agS p S x k)) HU.out).symm,HD.out.2.trans (selD_no (q:=(fun k=>agS p S x k)) HU.out).symm⟩
       have M3:=T5.out.1
       go_wp2_with fail
       go_roundw
       case rel=>exact⟨k+1,m,va,vc,D,by omega,by omega,by go_num,rfl,HD2,M3⟩
       case measure=>simp[intOf];omega
  ·
   obtain rfl:k=p.ny:=by omega
   have HF:Hid (SelR w (fun k=>agS p S x k) p.ny (.returned (.slice va m vc)) wr):=by
    obtain⟨e1,e2⟩:=HD.out
    refine⟨va,vc,by rw[e1],?_,S0.out.1.trans (M.out.1.mono S0.out.1.size)⟩
    rw[<-e1,<-e2]
    exact M.out.2.keep S0.out.1.size fun _ _=>rfl
   go_wp2_with fail
   go_ret
   exact HF.out
def fxB (p:Pl) (O:Nat->Bool) (S:Nat->WS) (x:Nat):Bool:=decide (0<selN (fun i=>wantsS p S i x) p.ny)||O (p.W x).toNat
def scQ (p:Pl) (O:Nat->Bool) (x s:Nat):Bool:=O s&&(anyB (fun j=>decide ((p.Y x).S j=(s:Int))) (p.Y x).ns||anyB (fun j=>decide ((p.Y x).O j=(s:Int))) (p.Y x).no)
def swQ (p:Pl) (O:Nat->Bool) (P:Nat->Nat->Int) (S:Nat->WS) (x k:Nat):Bool:=anyB (fun j=>decide (cat (p.Y x).nl (p.Y x).L (p.Y x).F j 0=(k:Int))&&decide (P k 0≠cat (p.Y x).nl (p.Y x).L (p.Y x).F j 1)) ((p.Y x).nl+(p.Y x).nf)&&fxB p O S k
def StyR (w:World) (p:Pl) (O:Nat->Bool) (P:Nat->Nat->Int) (S:Nat->WS) (x:Nat) (e:Ending) (w':World):Prop:=
 ∃a1 c1 a2 c2 a3 c3,e=.returned (.agg #[.slice a1 (selN (fun k=>agS p S x k) p.ny) c1,.slice a2 (selN (scQ p O x) p.sec.toNat) c2,.slice a3 (selN (swQ p O P S x) p.nw) c3])∧
  VOwn w.heap.size 3 1 w' (.slice a1 (selN (fun k=>agS p S x k) p.ny) c1) (selN (fun k=>agS p S x k) p.ny) (oneF (selD (fun k=>agS p S x k) p.ny))∧
  VOwn w.heap.size 3 1 w' (.slice a2 (selN (scQ p O x) p.sec.toNat) c2) (selN (scQ p O x) p.sec.toNat) (oneF (selD (scQ p O x) p.sec.toNat))∧
  VOwn w.heap.size 3 1 w' (.slice a3 (selN (swQ p O P S x) p.nw) c3) (selN (swQ p O P S x) p.nw) (oneF (selD (swQ p O P S x) p.nw))∧
  (∀g,(Value.slice a1 (selN (fun k=>agS p S x k) p.ny) c1).ownBlock=some g->(Value.slice a2 (selN (scQ p O x) p.sec.toNat) c2).ownBlock≠some g/\(Value.slice a3 (selN (swQ p O P S x) p.nw) c3).ownBlock≠some g)∧
  (∀g,(Value.slice a2 (selN (scQ p O x) p.sec.toNat) c2).ownBlock=some g->(Value.slice a3 (selN (swQ p O P S x) p.nw) c3).ownBlock≠some g)/\Below w.heap.size w w'
theorem sort_len {q r:Nat->Bool}{v:Nat->Int}{n s:Nat}(hnd:∀i j,i<n->j<n->q i=true->q j=true->v i=v j->i=j)
  (hm:∀x:Int,(∃j,j<n/\q j=true/\v j=x)↔∃i:Nat,i<s/\r i=true/\(i:Int)=x):
  selN q n=selN r s/\(toL (selN q n) (selE q v n)).mergeSort (fun x y=>decide (x<=y))=toL (selN q n) (selD r s):=by
 have h:=sort_sel hnd hm
 have hl:selN q n=selN r s:=by
  have h2:=congrArg List.length h
  rwa [List.length_mergeSort,toL_length,toL_length] at h2
 exact⟨hl,by rw[h,hl]⟩
theorem list_one {S:Nat->Int}{n:Nat}{m:Int}(h:listF S n m=true) {i j:Nat}(hi:i<n) (hj:j<n) (e:S i=S j):i=j:=by
 have key:∀a b,a<n->b<a->S b≠S a:=fun a b ha hb=>by
  simp only[listF,Bool.and_eq_true] at h
  have h2:=allB_iff.1 h.1 a ha
  simp only[elF,Bool.and_eq_true] at h2
  simpa using allB_iff.1 h2.2 b hb
 rcases Nat.lt_trichotomy i j with c|c|c
 ·
  exact absurd e (key j i hj c)
 ·
  exact c
 ·
  exact absurd e.symm (key i j hi c)
theorem lies_one {L:Nat->Nat->Int}{n m:Nat}(h:liesF L n m=true) {i j:Nat}(hi:i<n) (hj:j<n) (e:L i 0=L j 0):i=j:=by
 have key:∀a b,a<n->b<a->L b 0≠L a 0:=fun a b ha hb=>by
  simp only[liesF,Bool.and_eq_true] at h
  have h2:=allB_iff.1 h.1 a ha
  simp only[tuF,Bool.and_eq_true] at h2
  simpa using allB_iff.1 h2.2 b hb
 rcases Nat.lt_trichotomy i j with c|c|c
 ·
  exact absurd e (key j i hj c)
 ·
  exact c
 ·
  exact absurd e.symm (key i j hi c)
theorem way_parts {p:Pl}{y:Wy}(h:wayF p y=true):listF y.S y.ns p.sec=true/\listF y.O y.no p.sec=true/\liesF y.L y.nl p.nw=true/\liesF y.F y.nf p.nw=true/\(∀i j,i<y.nl->j<y.nf->y.L i 0≠y.F j 0)/\∀i j,i<y.no->j<y.ns->y.O i≠y.S j:=by
 simp only[wayF,Bool.and_eq_true,Bool.not_eq_true'] at h
 obtain⟨⟨⟨⟨⟨⟨⟨_,h1⟩,h2⟩,_⟩,h4⟩,h5⟩,h6⟩,h7⟩:=h
 refine⟨h1,h2,h4,h5,fun i j hi hj e=>?_,fun i j hi hj e=>?_⟩
 ·
  have h8:=allB_iff.1 h6 i hi
  simp only[onF,Bool.and_eq_true] at h8
  have h9:=allB_iff.1 h8.1 j hj
  simp[e] at h9
 ·
  have h8:meetF y.O y.no y.S y.ns=true:=anyB_yes hi (anyB_yes hj (by simp[e]))
  rw[h7] at h8
  cases h8
theorem sec_sort {p:Pl}{O:Nat->Bool}{x no np:Nat}(h:wayF p (p.Y x)=true) (hin:(p.Y x).In no np) (hno:(no:Int)=p.sec):
  selN (occC (p.Y x) O) ((p.Y x).ns+(p.Y x).no)=selN (scQ p O x) p.sec.toNat/\(toL (selN (occC (p.Y x) O) ((p.Y x).ns+(p.Y x).no)) (selE (occC (p.Y x) O) (secC (p.Y x)) ((p.Y x).ns+(p.Y x).no))).mergeSort (fun x y=>decide (x<=y))=toL (selN (occC (p.Y x) O) ((p.Y x).ns+(p.Y x).no)) (selD (scQ p O x) p.sec.toNat):=by
 obtain⟨hS,hOv,_,_,_,hSO⟩:=way_parts h
 have hlo:∀j,j<(p.Y x).ns->secC (p.Y x) j=(p.Y x).S j:=fun j hj=>by simp[secC,cat,hj]
 have hhi:∀j,¬j<(p.Y x).ns->secC (p.Y x) j=(p.Y x).O (j-(p.Y x).ns):=fun j hj=>by simp[secC,cat,hj]
 have hnn:no=p.sec.toNat:=by omega
 refine sort_len (fun i j hi hj _ _ e=>?_) (fun z=>⟨?_,?_⟩)
 ·
  by_cases ci:i<(p.Y x).ns
  ·
   by_cases cj:j<(p.Y x).ns
   ·
    rw[hlo i ci,hlo j cj] at e
    exact list_one hS ci cj e
   ·
    rw[hlo i ci,hhi j cj] at e
    exact absurd e.symm (hSO _ _ (by omega) ci)
  ·
   by_cases cj:j<(p.Y x).ns
   ·
    rw[hhi i ci,hlo j cj] at e
    exact absurd e (hSO _ _ (by omega) cj)
   ·
    rw[hhi i ci,hhi j cj] at e
    have :=list_one hOv (by omega) (by omega) e
    omega
 ·
  rintro⟨j,hj,hq,hz⟩
  by_cases cj:j<(p.Y x).ns
  ·
   obtain⟨o,ho,hlt⟩:=hin.s j cj
   refine⟨o,by omega,?_,by rw[<-hz,hlo j cj,ho]⟩
   rw[occC,hlo j cj,ho] at hq
   simp only[scQ,Bool.and_eq_true,Bool.or_eq_true]
   exact⟨by simpa using hq,.inl (anyB_yes cj (by simp[ho]))⟩
  ·
   obtain⟨o,ho,hlt⟩:=hin.o (j-(p.Y x).ns) (by omega)
   refine⟨o,by omega,?_,by rw[<-hz,hhi j cj,ho]⟩
   rw[occC,hhi j cj,ho] at hq
   simp only[scQ,Bool.and_eq_true,Bool.or_eq_true]
   exact⟨by simpa using hq,.inr (anyB_yes (k:=j-(p.Y x).ns) (by omega) (by simp[ho]))⟩
 ·
  rintro⟨i,hi,hr,hz⟩
  simp only[scQ,Bool.and_eq_true,Bool.or_eq_true] at hr
  rcases hr.2 with h1|h1
  ·
   obtain⟨j,hj,hd⟩:=anyB_iff.1 h1
   have hd:(p.Y x).S j=(i:Int):=by simpa using hd
   exact⟨j,by omega,by rw[occC,hlo j hj,hd];simpa using hr.1,by rw[hlo j hj,hd,hz]⟩
  ·
   obtain⟨j,hj,hd⟩:=anyB_iff.1 h1
   have hd:(p.Y x).O j=(i:Int):=by simpa using hd
   have hge:¬((p.Y x).ns+j<(p.Y x).ns):=by omega
   have hsb:(p.Y x).ns+j-(p.Y x).ns=j:=by omega
   exact⟨(p.Y x).ns+j,by omega,by rw[occC,hhi _ hge,hsb,hd];simpa using hr.1,by rw[hhi _ hge,hsb,hd,hz]⟩
def swC (p:Pl) (O:Nat->Bool) (P:Nat->Nat->Int) (S:Nat->WS) (x j:Nat):Bool:=decide (P (cat (p.Y x).nl (p.Y x).L (p.Y x).F j 0).toNat 0≠cat (p.Y x).nl (p.Y x).L (p.Y x).F j 1)&&fxB p O S (cat (p.Y x).nl (p.Y x).L (p.Y x).F j 0).toNat
theorem cat_in {y:Wy}{no np:Nat}(hin:y.In no np) {j:Nat}(hj:j<y.nl+y.nf):∃o:Nat,cat y.nl y.L y.F j 0=(o:Int)/\o<np:=by
 by_cases c:j<y.nl
 ·
  obtain⟨o,h1,h2⟩:=hin.l j c
  exact⟨o,by simp[cat,c,h1],h2⟩
 ·
  obtain⟨o,h1,h2⟩:=hin.f (j-y.nl) (by omega)
  exact⟨o,by simp[cat,c,h1],h2⟩
theorem sw_sort {p:Pl}{O:Nat->Bool}{P:Nat->Nat->Int}{S:Nat->WS}{x no np:Nat}(h:wayF p (p.Y x)=true) (hin:(p.Y x).In no np) (hnp:np=p.nw):
  selN (swC p O P S x) ((p.Y x).nl+(p.Y x).nf)=selN (swQ p O P S x) p.nw/\(toL (selN (swC p O P S x) ((p.Y x).nl+(p.Y x).nf)) (selE (swC p O P S x) (fun j=>cat (p.Y x).nl (p.Y x).L (p.Y x).F j 0) ((p.Y x).nl+(p.Y x).nf))).mergeSort (fun x y=>decide (x<=y))=toL (selN (swC p O P S x) ((p.Y x).nl+(p.Y x).nf)) (selD (swQ p O P S x) p.nw):=by
 obtain⟨_,_,hL,hF,hLF,_⟩:=way_parts h
 have hlo:∀j,j<(p.Y x).nl->cat (p.Y x).nl (p.Y x).L (p.Y x).F j 0=(p.Y x).L j 0:=fun j hj=>by simp[cat,hj]
 have hhi:∀j,¬j<(p.Y x).nl->cat (p.Y x).nl (p.Y x).L (p.Y x).F j 0=(p.Y x).F (j-(p.Y x).nl) 0:=fun j hj=>by simp[cat,hj]
 refine sort_len (fun i j hi hj _ _ e=>?_) (fun z=>⟨?_,?_⟩)
 ·
  by_cases ci:i<(p.Y x).nl
  ·
   by_cases cj:j<(p.Y x).nl
   ·
    rw[hlo i ci,hlo j cj] at e
    exact lies_one hL ci cj e
   ·
    rw[hlo i ci,hhi j cj] at e
    exact absurd e (hLF _ _ ci (by omega))
  ·
   by_cases cj:j<(p.Y x).nl
   ·
    rw[hhi i ci,hlo j cj] at e
    exact absurd e.symm (hLF _ _ cj (by omega))
   ·
    rw[hhi i ci,hhi j cj] at e
    have :=lies_one hF (by omega) (by omega) e
    omega
 ·
  rintro⟨j,hj,hq,hz⟩
  obtain⟨o,ho,hlt⟩:=cat_in hin hj
  refine⟨o,by omega,?_,by rw[<-hz,ho]⟩
  rw[swC,ho] at hq
  simp only[Bool.and_eq_true,Int.toNat_natCast] at hq
  simp only[swQ,Bool.and_eq_true]
  exact⟨anyB_yes hj (by rw[ho];simpa using hq.1),hq.2⟩
 ·
  rintro⟨i,hi,hr,hz⟩
  simp only[swQ,Bool.and_eq_true] at hr
  obtain⟨j,hj,hd⟩:=anyB_iff.1 hr.1
  simp only[Bool.and_eq_true] at hd
  have hd1:cat (p.Y x).nl (p.Y x).L (p.Y x).F j 0=(i:Int):=by simpa using hd.1
  refine⟨j,hj,?_,by rw[<-hz];exact hd1⟩
  rw[swC,hd1]
  simp only[Bool.and_eq_true,Int.toNat_natCast]
  exact⟨hd.2,hr.2⟩
theorem plan_sw {p:Pl}(h:(planF p).1=0):∀k,k<p.nw->inB (p.W k) 0 (p.sec-1)=true:=by
 intro k hk
 by_cases e:headF p=true
 ·
  rw[planF,if_pos e,plan2] at h
  cases e2:firstB (fun i=>!inB (p.W i) 0 (p.sec-1)) p.nw with
  |some i=>rw[e2] at h;simp at h
  |none=>
   have :=firstB_all e2 k hk
   simpa using this
 ·
  rw[planF,if_neg e] at h
  simp at h
theorem sel_mem (q:Nat->Bool):∀n i,i<selN q n->∃j:Nat,j<n/\q j=true/\selD q n i=(j:Int)
 |0,i,h=>absurd h (Nat.not_lt_zero _)
 |n+1,i,h=>by
  cases c:q n with
  |false=>
   rw[selN_no c] at h
   obtain⟨j,h1,h2,h3⟩:=sel_mem q n i h
   exact⟨j,by omega,h2,by rw[selD_no c];exact h3⟩
  |true=>
   rw[selN_yes c] at h
   rw[selD_yes c]
   by_cases d:i<selN q n
   ·
    obtain⟨j,h1,h2,h3⟩:=sel_mem q n i d
    exact⟨j,by omega,h2,by rw[updI,if_pos d];exact h3⟩
   ·
    exact⟨n,by omega,c,by rw[updI,if_neg d]⟩
theorem sel_onto (q:Nat->Bool):∀n j,j<n->q j=true->∃i,i<selN q n/\selD q n i=(j:Int)
 |0,j,h,_=>absurd h (Nat.not_lt_zero _)
 |n+1,j,h,hq=>by
  by_cases e:j=n
  ·
   subst e
   exact⟨selN q j,by rw[selN_yes hq];omega,by rw[selD_yes hq,updI,if_neg (Nat.lt_irrefl _)]⟩
  ·
   obtain⟨i,h1,h2⟩:=sel_onto q n j (by omega) hq
   cases c:q n with
   |false=>exact⟨i,by rw[selN_no c];exact h1,by rw[selD_no c];exact h2⟩
   |true=>exact⟨i,by rw[selN_yes c];omega,by rw[selD_yes c,updI,if_pos h1];exact h2⟩
def fxO (q wn:Nat->Bool) (n:Nat):Option Nat:=if anyB (fun k=>q k&&wn k) n=true then some 4 else if 0<selN q n then some 5 else none
def wnS (p:Pl) (S:Nat->WS) (k:Nat):Bool:=decide (0<selN (fun i=>wantsS p S i k) p.ny)
def whyO (p:Pl) (O:Nat->Bool) (P:Nat->Nat->Int) (S:Nat->WS) (x:Nat):Option Nat:=
 if heldS (S x)=true then some 1 else if 0<selN (fun k=>agS p S x k) p.ny then some 2 else if 0<selN (scQ p O x) p.sec.toNat then some 3 else fxO (swQ p O P S x) (wnS p S) p.nw
set_option maxRecDepth 100000 in
set_option maxHeartbeats 8000000 in
theorem whyFixed92 (p:Pl) (wb yb bb:Nat) (lo rr:Nat->Nat) (ob oo no oc pb po np pc:Nat) (ia:Option Addr) (ic:Nat) (O:Nat->Bool) (S:Nat->WS) (N:Nat->Nat) (q:Nat->Bool) (da:Option Addr) (dc:Nat) (A:Nat->Addr) (w:World) (hq:∀k,k<p.nw->q k=true->fxB p O S k=true) (hD:VsAt 1 0 w da (selN q p.nw) (oneF (selD q p.nw))) (hs:p.small) (hP:PlOwn 0 w p wb yb bb lo rr) (h:WlAt w ia p.ny N S) (hO:VsAt 1 0 w (some (ad ob oo)) no (boolF O)) (hno:no<=1048576) (hsw:∀k,k<p.nw->∃o:Nat,p.W k=(o:Int)/\o<no) (hS:Sn w 6 A):
  Calls Tryz.prog 143 #[.agg #[.int .i64 p.sec,.slice (some (ad wb 0)) p.nw p.nw,.slice (some (ad yb 0)) p.ny p.ny,.slice (some (ad bb 0)) p.nb p.nb,.int .i64 p.hold,.slice (some (ad ob oo)) no oc,.slice (some (ad pb po)) np pc,.slice ia p.ny ic],.slice da (selN q p.nw) dc] w fun e w'=>e=.returned (erV A (fxO q (wnS p S) p.nw))/\Below w.heap.size w w':=by
 have H:Hid (p.small/\PlOwn 0 w p wb yb bb lo rr/\WlAt w ia p.ny N S/\VsAt 1 0 w (some (ad ob oo)) no (boolF O)/\Sn w 6 A):=⟨hs,hP,h,hO,hS⟩
 have HQ:Hid ((∀k,k<p.nw->q k=true->fxB p O S k=true)/\∀k,k<p.nw->∃o:Nat,p.W k=(o:Int)/\o<no):=⟨hq,hsw⟩
 obtain⟨n,HN⟩:∃n,Hid (selN q p.nw=n):=⟨_,rfl⟩
 have HDD:Hid (VsAt 1 0 w da n (oneF (selD q p.nw))):=by rw[<-HN.out];exact hD
 have hn:n<=1048576:=by have :=selN_le q p.nw;have :=hs.1;have :=HN.out;omega
 rw[HN.out]
 clear hq hD hs hP h hO hsw hS
 have S0:Hid (Below w.heap.size w (w.alloc (.cells (vDk p wb yb bb (some (ad ob oo)) no oc (some (ad pb po)) np pc ia ic) 84))/\Box (w.alloc (.cells (vDk p wb yb bb (some (ad ob oo)) no oc (some (ad pb po)) np pc ia ic) 84)) w.heap.size 84 (vDk p wb yb bb (some (ad ob oo)) no oc (some (ad pb po)) np pc ia ic)):=⟨bel1 _ _,Box.new _ _ _⟩
 obtain⟨R,HR⟩:∃R,Hid (erV A (fxO q (wnS p S) p.nw)=R):=⟨_,rfl⟩
 rw[HR.out]
 go_enter Tryz.func143,Tryz.ntmps143
 go_wp2_with fail
 generalize (w.alloc (.cells (vDk p wb yb bb (some (ad ob oo)) no oc (some (ad pb po)) np pc ia ic) 84))=V0 at S0⊢
 go_loopw [5,10] (fun u c wr=>∃(k:Nat) (v:Value),k<=n/\c=.int .i64 k/\u=v/\Hid (v=erV A (if k=0 then none else some 5))/\Hid (∀m j:Nat,m<k->selD q p.nw m=(j:Int)->wnS p S j=false)/\Hid (Below w.heap.size w wr/\Box wr w.heap.size 84 (vDk p wb yb bb (some (ad ob oo)) no oc (some (ad pb po)) np pc ia ic))) (fun _ c _=>n-(intOf c).toNat)
 case atStart=>exact⟨0,_,Nat.zero_le _,rfl,rfl,rfl,fun m j hj=>absurd hj (Nat.not_lt_zero _),S0⟩
 case round=>
  clear S0
  obtain⟨k,v,hk,rfl,rfl,HUV,HK,T⟩:=hrel
  by_cases hlt:k<n
  ·
   have hk0:(0:Int)<=(k:Int):=by omega
   have hkn:(k:Int)<(n:Int):=by omega
   obtain⟨j,hj,hqj,hDj⟩:=sel_mem q p.nw k (by rw[HN.out];exact hlt)
   obtain⟨o,hWo,hon⟩:=HQ.out.2 j hj
   have HJ:Hid (q j=true/\selD q p.nw k=(j:Int)):=⟨hqj,hDj⟩
   have HO:Hid (p.W j=(o:Int)/\o<no):=⟨hWo,hon⟩
   clear hWo hon
   obtain⟨db,dof,rfl,_,hdl,hcd⟩:=HDD.out (by omega)
   have z0:wr.cell? (ad db (dof+k))=some (.int .i64 (j:Int)):=by
    have :=hcd k hlt 0 (by omega)
    rw[Nat.mul_one,Nat.add_zero,oneF,hDj] at this
    exact cell_keep T.out.1 hdl this
   clear hqj hDj hcd
   have d0:wr.cell? (ad w.heap.size 0)=some (.int .i64 p.sec):=T.out.2.cell 0
   have d1:wr.cell? (ad w.heap.size 1)=some (.slice (some (ad wb 0)) p.nw p.nw):=T.out.2.cell 1
   have d2:wr.cell? (ad w.heap.size 2)=some (.slice (some (ad yb 0)) p.ny p.ny):=T.out.2.cell 2
   have d3:wr.cell? (ad w.heap.size 3)=some (.slice (some (ad bb 0)) p.nb p.nb):=T.out.2.cell 3
   have d4:wr.cell? (ad w.heap.size 4)=some (.int .i64 p.hold):=T.out.2.cell 4
   have d5:wr.cell? (ad w.heap.size 5)=some (.slice (some (ad ob oo)) no oc):=T.out.2.cell 5
   have d6:wr.cell? (ad w.heap.size 6)=some (.slice (some (ad pb po)) np pc):=T.out.2.cell 6
   have d7:wr.cell? (ad w.heap.size 7)=some (.slice ia p.ny ic):=T.out.2.cell 7
   go_wp2_with fail
   clear d0 d1 d2 d3 d4 d5 d6 d7 z0
   have HSr:=H.out.2.2.2.2.mono T.out.1 nr
   refine(fixed100 p wb yb bb lo rr ob oo no oc (some (ad pb po)) np pc ia ic O S N j o 251 251 (.pointer (some (A 4))) (.pointer (some (A 5))) wr hj HO.out.1 HO.out.2 hno H.out.1 (H.out.2.1.mono nr T.out.1 nr) (H.out.2.2.2.1.mono nr T.out.1 nr) (H.out.2.2.1.mono T.out.1 nr) (HSr.1 4 (by omega)) (HSr.1 5 (by omega)) (by have :=HSr.2.2.2;omega) (by have :=HSr.2.2.2;omega)).mono ?_
   clear HSr
   rintro e w3 ⟨he,hb3⟩
   have T3:Hid (Below w.heap.size w w3/\Box w3 w.heap.size 84 (vDk p wb yb bb (some (ad ob oo)) no oc (some (ad pb po)) np pc ia ic)):=⟨T.out.1.trans (hb3.mono T.out.1.size),T.out.2.mono hb3 nr⟩
   clear hb3
   obtain⟨u,HU⟩:∃u,Hid (wnS p S j=u):=⟨_,rfl⟩
   have HSr:=H.out.2.2.2.2.mono T3.out.1 nr
   have z4:w3.cell? (ad 4 0)=some (.iface 251 (.pointer (some (A 4)))):=HSr.1 4 (by omega)
   cases u with
   |true=>
    rw[fxV_a _ HU.out] at he
    subst he
    go_wp2_with fail
    refine(is_same (A 4) w3).mono ?_
    rintro e w4 ⟨rfl,hw⟩
    have hw:=hw.symm
    subst hw
    have HT:Hid (R=.iface 251 (.pointer (some (A 4)))):=by
     have h1:anyB (fun k=>q k&&wnS p S k) p.nw=true:=anyB_yes hj (by simp[HJ.out.1,HU.out])
     exact HR.out.symm.trans (by rw[fxO,if_pos h1];rfl)
    clear HSr z4
    go_wp2_with fail
    go_ret
    exact⟨by rw[HT.out];rfl,T3.out.1⟩
   |false=>
    have h1:O o=true:=by
     have h2:=HQ.out.1 j hj HJ.out.1
     have h3:decide (0<selN (fun i=>wantsS p S i j) p.ny)=false:=HU.out
     rw[fxB,h3,HO.out.1] at h2
     simpa using h2
    rw[h1,fxV_b HU.out] at he
    clear h1
    subst he
    go_wp2_with fail
    obtain⟨c4,t4,e4⟩:=HSr.2.2.1 4 (by omega)
    obtain⟨c5,t5,e5⟩:=HSr.2.2.1 5 (by omega)
    refine(is_other (A 5) (A 4) c5 c4 t5 t4 w3 (fun e=>absurd (HSr.2.1 5 4 (by omega) (by omega) e) (by decide)) e5 e4).mono ?_
    rintro e w4 ⟨rfl,hw⟩
    have hw:=hw.symm
    subst hw
    have HK2:Hid (∀m j:Nat,m<k+1->selD q p.nw m=(j:Int)->wnS p S j=false):=fun m j2 hm he=>by
     by_cases c:m=k
     ·
      subst c
      have h1:=HJ.out.2.symm.trans he
      have h2:j=j2:=by omega
      rw[<-h2]
      exact HU.out
     ·
      exact HK.out m j2 (by omega) he
    clear HSr z4 e4 e5
    go_wp2_with fail
    go_roundw
    case rel=>exact⟨k+1,_,by omega,by go_num,rfl,by rw[if_neg (by omega)];rfl,HK2,T3⟩
    case measure=>simp[intOf];omega
  ·
   have hkn:k=n:=by omega
   subst hkn
   have HT:Hid (u5=R):=by
    refine HUV.out.trans (HR.out.symm.trans ?_).symm
    have h1:anyB (fun k=>q k&&wnS p S k) p.nw=false:=anyB_no fun j hj=>by
     cases c:q j with
     |false=>rfl
     |true=>
      obtain⟨i,h2,h3⟩:=sel_onto q p.nw j hj c
      rw[HK.out i j (by rw[<-HN.out];exact h2) h3]
      rfl
    rw[fxO,if_neg (by rw[h1];decide),HN.out]
    by_cases c:k=0
    ·
     rw[if_pos c,if_neg (by omega)]
    ·
     rw[if_neg c,if_pos (by omega)]
   have hge:¬((k:Int)<(k:Int)):=by omega
   go_wp2_with fail
   go_ret
   exact⟨by rw[<-HT.out];rfl,T.out.1⟩
end Go.Proofs.YtkeilejbelblcaaGreatDoor
