import Derived.Test.YtkeilejbelblcaaGreatDoorR4
import Derived.Test.YtkeilejbelblcaaGreatDoorJba
import Derived.Test.YtkeilejbelblcaaGreatDoorJar
import Derived.Test.YtkeilejbelblcaaGreatDoorJbd
import Derived.Test.YtkeilejbelblcaaGreatDoorJao
namespace Go.Proofs.YtkeilejbelblcaaGreatDoor
open Go.RowKit Go.Lib
def fxV (q:Nat->Bool) (n:Nat) (occ:Bool) (v4 v5:Value):Value:=match decide (0<selN q n),occ with
 |true,_=>v4
 |false,true=>v5
 |false,false=>.nilIface
theorem fxV_a {q:Nat->Bool}{n:Nat}(occ:Bool) {v4 v5:Value}(h:decide (0<selN q n)=true):fxV q n occ v4 v5=v4:=by unfold fxV;rw[h]
theorem fxV_b {q:Nat->Bool}{n:Nat}{v4 v5:Value}(h:decide (0<selN q n)=false):fxV q n true v4 v5=v5:=by unfold fxV;rw[h]
theorem fxV_c {q:Nat->Bool}{n:Nat}{v4 v5:Value}(h:decide (0<selN q n)=false):fxV q n false v4 v5=.nilIface:=by unfold fxV;rw[h]
def FxR (w:World) (q:Nat->Bool) (n:Nat) (occ:Bool) (v4 v5:Value) (e:Ending) (w':World):Prop:=e=.returned (fxV q n occ v4 v5)/\Below w.heap.size w w'
set_option maxRecDepth 100000 in
set_option maxHeartbeats 8000000 in
theorem fixed100 (p:Pl) (wb yb bb:Nat) (lo rr:Nat->Nat) (ob oo:Nat) (no oc:Nat) (pa:Option Addr) (np pc:Nat) (ia:Option Addr) (ic:Nat) (O:Nat->Bool) (S:Nat->WS) (N:Nat->Nat) (x o:Nat) (t4 t5:TypeId) (v4 v5:Value) (w:World) (hx:x<p.nw) (hW:p.W x=(o:Int)) (ho:o<no) (hno:no<=1048576) (hs:p.small) (hP:PlOwn 0 w p wb yb bb lo rr) (hO:VsAt 1 0 w (some (ad ob oo)) no (boolF O)) (h:WlAt w ia p.ny N S) (h4:w.cell? (ad 4 0)=some (.iface t4 v4)) (h5:w.cell? (ad 5 0)=some (.iface t5 v5)) (l4:4<w.heap.size) (l5:5<w.heap.size):
  Calls Tryz.prog 118 #[.agg #[.int .i64 p.sec,.slice (some (ad wb 0)) p.nw p.nw,.slice (some (ad yb 0)) p.ny p.ny,.slice (some (ad bb 0)) p.nb p.nb,.int .i64 p.hold,.slice (some (ad ob oo)) no oc,.slice pa np pc,.slice ia p.ny ic],.int .i64 (x:Int)] w fun e w'=>FxR w (fun i=>wantsS p S i x) p.ny (O o) (.iface t4 v4) (.iface t5 v5) e w':=by
 have H:Hid (p.small/\PlOwn 0 w p wb yb bb lo rr/\WlAt w ia p.ny N S):=⟨hs,hP,h⟩
 have HG:Hid (w.cell? (ad 4 0)=some (.iface t4 v4)/\w.cell? (ad 5 0)=some (.iface t5 v5)/\4<w.heap.size/\5<w.heap.size):=⟨h4,h5,l4,l5⟩
 have hny:=hs.2.1
 have hnw:p.nw<=1048576:=hs.1
 obtain⟨sb2,so2,hsa,_,hsl,hcs⟩:=(hP.in (Nat.le_refl 0)).sw (by omega)
 cases hsa
 have HSW:Hid (wb<w.heap.size/\w.cell? (ad wb x)=some (.int .i64 (o:Int))):=⟨hsl,by have :=hcs x hx 0 (by omega);rw[Nat.mul_one,Nat.zero_add] at this;rw[<-hW];exact this⟩
 obtain⟨ob2,oo2,hoa,_,hol,hco⟩:=hO (by omega)
 cases hoa
 have HOC:Hid (ob<w.heap.size/\w.cell? (ad ob (oo+o))=some (.bool (O o))):=⟨hol,by have :=hco o ho 0 (by omega);rwa [Nat.mul_one] at this⟩
 clear hs hP h hcs hco hO h4 h5 l4 l5 hW
 have hx0:(0:Int)<=(x:Int):=by omega
 have hxn:(x:Int)<(p.nw:Int):=by omega
 have ho0:(0:Int)<=(o:Int):=by omega
 have hon:(o:Int)<(no:Int):=by omega
 have S0:Hid (Below w.heap.size w (w.alloc (.cells (vDk p wb yb bb (some (ad ob oo)) no oc pa np pc ia ic) 84))/\Box (w.alloc (.cells (vDk p wb yb bb (some (ad ob oo)) no oc pa np pc ia ic) 84)) w.heap.size 84 (vDk p wb yb bb (some (ad ob oo)) no oc pa np pc ia ic)):=⟨bel1 _ _,Box.new _ _ _⟩
 go_enter Tryz.func118,Tryz.ntmps118
 go_wp2_with fail
 generalize (w.alloc (.cells (vDk p wb yb bb (some (ad ob oo)) no oc pa np pc ia ic) 84))=V0 at S0⊢
 refine(wanting53 p wb yb bb lo rr (some (ad ob oo)) no oc pa np pc ia ic S N x V0 hx H.out.1 (H.out.2.1.mono nr S0.out.1 nr) (H.out.2.2.mono S0.out.1 nr)).mono ?_
 rintro e w1 ⟨va,vc,rfl,_,hb1⟩
 have T:Hid (Below w.heap.size w w1/\Box w1 w.heap.size 84 (vDk p wb yb bb (some (ad ob oo)) no oc pa np pc ia ic)):=⟨S0.out.1.trans (hb1.mono S0.out.1.size),S0.out.2.mono hb1 nr⟩
 clear hb1 S0
 obtain⟨m,HM⟩:∃m,Hid (selN (fun i=>wantsS p S i x) p.ny=m):=⟨_,rfl⟩
 rw[HM.out]
 by_cases hm:0<m
 ·
  have HE:Hid (FxR w (fun i=>wantsS p S i x) p.ny (O o) (.iface t4 v4) (.iface t5 v5) (.returned (.iface t4 v4)) w1):=⟨by rw[fxV_a _ (by rw[HM.out];simpa using hm)],T.out.1⟩
  have g4:w1.cell? (ad 4 0)=some (.iface t4 v4):=cell_keep T.out.1 HG.out.2.2.1 HG.out.1
  have hm':(0:Int)<(m:Int):=by omega
  go_wp2_with fail
  go_ret
  exact HE.out
 ·
  have HNZ:Hid (decide (0<selN (fun i=>wantsS p S i x) p.ny)=false):=by rw[Hid,HM.out];simp;omega
  have hm':¬((0:Int)<(m:Int)):=by omega
  have d1:w1.cell? (ad w.heap.size 1)=some (.slice (some (ad wb 0)) p.nw p.nw):=T.out.2.cell 1
  have d5:w1.cell? (ad w.heap.size 5)=some (.slice (some (ad ob oo)) no oc):=T.out.2.cell 5
  have s0:w1.cell? (ad wb x)=some (.int .i64 (o:Int)):=cell_keep T.out.1 HSW.out.1 HSW.out.2
  have o0:w1.cell? (ad ob (oo+o))=some (.bool (O o)):=cell_keep T.out.1 HOC.out.1 HOC.out.2
  go_wp2_with fail
  cases hO:O o with
  |true=>
   rw[hO] at o0
   refine wp_region_held_drew (S:=(fun wx:World=>wx.cell? (ad w.heap.size 1)=some (.slice (some (ad wb 0)) p.nw p.nw)/\wx.cell? (ad w.heap.size 5)=some (.slice (some (ad ob oo)) no oc)/\wx.cell? (ad wb x)=some (.int .i64 (o:Int))/\wx.cell? (ad ob (oo+o))=some (.bool true))) (by kernel_rfl) ?_ (fun hHeld=>?_)
   ·
    exact⟨d1,d5,s0,o0⟩
   refine tk 0 ?_
   refine tk 1 ?_
   refine tk 2 ?_
   refine tk 3 ?_
   refine tk 4 ?_
   refine tk 5 ?_
   refine tk 6 ?_
   refine tk 7 ?_
   refine tk 8 ?_
   refine tk 9 ?_
   refine tk 10 ?_
   refine wpAnyH_done (by kernel_rfl) ?_ _
   have HE:Hid (FxR w (fun i=>wantsS p S i x) p.ny (O o) (.iface t4 v4) (.iface t5 v5) (.returned (.iface t5 v5)) w1.drew):=⟨by rw[hO,fxV_b HNZ.out],T.out.1.drew⟩
   have g5:w1.drew.cell? (ad 5 0)=some (.iface t5 v5):=cell_keep T.out.1.drew HG.out.2.2.2 HG.out.2.1
   clear d1 d5 s0 o0
   go_wp2_with fail
   go_ret
   exact HE.out
  |false=>
   rw[hO] at o0
   refine wp_region_held_drew (S:=(fun wx:World=>wx.cell? (ad w.heap.size 1)=some (.slice (some (ad wb 0)) p.nw p.nw)/\wx.cell? (ad w.heap.size 5)=some (.slice (some (ad ob oo)) no oc)/\wx.cell? (ad wb x)=some (.int .i64 (o:Int))/\wx.cell? (ad ob (oo+o))=some (.bool false))) (by kernel_rfl) ?_ (fun hHeld=>?_)
   ·
    exact⟨d1,d5,s0,o0⟩
   refine tk 0 ?_
   refine tk 1 ?_
   refine tk 2 ?_
   refine tk 3 ?_
   refine tk 4 ?_
   refine tk 5 ?_
   refine tk 6 ?_
   refine tk 7 ?_
   refine tk 8 ?_
   refine tk 9 ?_
   refine tk 10 ?_
   refine wpAnyH_done (by kernel_rfl) ?_ _
   have HE:Hid (FxR w (fun i=>wantsS p S i x) p.ny (O o) (.iface t4 v4) (.iface t5 v5) (.returned .nilIface) w1.drew):=⟨by rw[hO,fxV_c HNZ.out],T.out.1.drew⟩
   have g5:w1.drew.cell? (ad 5 0)=some (.iface t5 v5):=cell_keep T.out.1.drew HG.out.2.2.2 HG.out.2.1
   clear d1 d5 s0 o0
   go_wp2_with fail
   go_ret
   exact HE.out
def occC (y:Wy) (O:Nat->Bool) (j:Nat):Bool:=O (secC y j).toNat
def selE (q:Nat->Bool) (v:Nat->Int):Nat->Nat->Int
 |0=>fun _=>0
 |n+1=>if q n then updI (selE q v n) (selN q n) (v n) else selE q v n
theorem selE_yes {q:Nat->Bool}{v:Nat->Int}{n:Nat}(h:q n=true):selE q v (n+1)=updI (selE q v n) (selN q n) (v n):=by simp[selE,h]
theorem selE_no {q:Nat->Bool}{v:Nat->Int}{n:Nat}(h:q n=false):selE q v (n+1)=selE q v n:=by simp[selE,h]
def CrL (w:World) (y:Wy) (O:Nat->Bool) (e:Ending) (w':World):Prop:=
 ∃va vc,e=.returned (.slice va (selN (occC y O) (y.ns+y.no)) vc)/\VOwn w.heap.size 3 1 w' (.slice va (selN (occC y O) (y.ns+y.no)) vc) (selN (occC y O) (y.ns+y.no)) (oneF (selE (occC y O) (secC y) (y.ns+y.no)))/\Below w.heap.size w w'
set_option maxRecDepth 100000 in
set_option maxHeartbeats 8000000 in
theorem crowd98 (y:Wy) (b1 b2 b3 b4 b5:Nat) (oa:Option Addr) (no oc:Nat) (O:Nat->Bool) (pa:Option Addr) (np pc:Nat) (P:Nat->Nat->Int) (w:World) (h:VwIn w y b1 b2 b3 b4 b5 oa no O pa np P):
  Calls Tryz.prog 99 #[.agg #[.slice (some (ad b1 0)) y.ns y.ns,.slice (some (ad b2 0)) y.nl y.nl,.slice (some (ad b3 0)) y.nf y.nf,.slice (some (ad b4 0)) y.no y.no,.slice (some (ad b5 0)) y.nm y.nm,.slice oa no oc,.slice pa np pc]] w fun e w'=>CrL w y O e w':=by
 have H:Hid (VwIn w y b1 b2 b3 b4 b5 oa no O pa np P):=h
 obtain⟨i0,hi0,hz0,hs0,hb0⟩:=info_parts infoInt
 have hns:y.ns<=1048576:=by have :=h.sm.1;omega
 have hno:y.no<=1048576:=by have :=h.sm.2.2.2.1;omega
 clear h
 have S0:Hid (Below w.heap.size w ((w.alloc (.cells (vVw y b1 b2 b3 b4 b5 oa no oc pa np pc) 114)).alloc (.cells #[.slice (some (ad b1 0)) y.ns y.ns,.slice (some (ad b4 0)) y.no y.no] 22))/\Box ((w.alloc (.cells (vVw y b1 b2 b3 b4 b5 oa no oc pa np pc) 114)).alloc (.cells #[.slice (some (ad b1 0)) y.ns y.ns,.slice (some (ad b4 0)) y.no y.no] 22)) w.heap.size 114 (vVw y b1 b2 b3 b4 b5 oa no oc pa np pc)/\Box ((w.alloc (.cells (vVw y b1 b2 b3 b4 b5 oa no oc pa np pc) 114)).alloc (.cells #[.slice (some (ad b1 0)) y.ns y.ns,.slice (some (ad b4 0)) y.no y.no] 22)) (w.heap.size+1) 22 #[.slice (some (ad b1 0)) y.ns y.ns,.slice (some (ad b4 0)) y.no y.no]):=⟨bel2 _ _ _,(Box.new _ _ _).alloc _,by have :=Box.new (w.alloc (.cells (vVw y b1 b2 b3 b4 b5 oa no oc pa np pc) 114)) 22 #[.slice (some (ad b1 0)) y.ns y.ns,.slice (some (ad b4 0)) y.no y.no];simpa using this⟩
 go_enter Tryz.func99,Tryz.ntmps99
 go_wp2_with fail
 generalize (w.alloc (.cells (vVw y b1 b2 b3 b4 b5 oa no oc pa np pc) 114)).alloc (.cells #[.slice (some (ad b1 0)) y.ns y.ns,.slice (some (ad b4 0)) y.no y.no] 22)=W at S0⊢
 refine(concat128 (w.heap.size+1) b1 0 y.ns y.ns b4 0 y.no y.no (fun i _=>y.S i) (fun i _=>y.O i) W hns hno S0.out.2.2 (H.out.wy.s.mono nr S0.out.1 nr) (H.out.wy.o.mono nr S0.out.1 nr)).mono ?_
 rintro e w1 ⟨v,rfl,hv,hb1⟩
 obtain⟨ca,cc,rfl⟩:=hv.val
 have hv2:VOwn W.heap.size 3 1 w1 (.slice ca (y.ns+y.no) cc) (y.ns+y.no) (oneF (secC y)):=hv.congr fun i _ j hj=>by
  obtain rfl:j=0:=by omega
  rfl
 have S1:Hid (Below w.heap.size w w1/\Box w1 w.heap.size 114 (vVw y b1 b2 b3 b4 b5 oa no oc pa np pc)/\VsAt 1 0 w1 ca (y.ns+y.no) (oneF (secC y))):=⟨S0.out.1.trans (hb1.mono S0.out.1.size),S0.out.2.1.mono hb1 nr,hv2.vs.le (Nat.zero_le _)⟩
 clear S0 hv hv2 hb1
 go_wp2_with fail
 go_loopw [3,15] (fun u i wr=>∃(q m:Nat) (va:Option Addr) (vc:Nat) (D:Nat->Int),q<=y.ns+y.no/\m<=q/\i=.int .i64 (q:Int)/\u=.slice va m vc/\Hid (m=selN (occC y O) q/\D=selE (occC y O) (secC y) q)/\Hid (Below w1.heap.size w1 wr/\VOwn w1.heap.size 3 1 wr (.slice va m vc) m (oneF D))) (fun _ i _=>(y.ns+y.no)-(intOf i).toNat)
 case atStart=>exact⟨0,0,none,0,fun _=>0,Nat.zero_le _,Nat.le_refl _,rfl,rfl,⟨rfl,rfl⟩,Below.refl _ _,VOwn.nil _ _ _ _ _⟩
 case round=>
  obtain⟨q,m,va,vc,D,hq,hm,rfl,rfl,HD,M⟩:=hrel
  by_cases hlt:q<y.ns+y.no
  ·
   obtain⟨o,ho,hon⟩:∃o:Nat,secC y q=(o:Int)/\o<no:=by
    by_cases c:q<y.ns
    ·
     obtain⟨o,h1,h2⟩:=H.out.inn.s q c
     exact⟨o,by simp[secC,cat,c,h1],h2⟩
    ·
     obtain⟨o,h1,h2⟩:=H.out.inn.o (q-y.ns) (by omega)
     exact⟨o,by simp[secC,cat,c,h1],h2⟩
   have hno2:=H.out.lno
   obtain⟨cb,co,rfl,_,hcb,hcc⟩:=S1.out.2.2.mono nr M.out.1 nr (by omega)
   have hQ:=(H.out.oc.mono nr S1.out.1 nr).mono nr M.out.1 nr
   obtain⟨ob,oo,rfl,_,hob,hoc⟩:=hQ (by omega)
   have c0:wr.cell? (ad cb (co+q))=some (.int .i64 (o:Int)):=by have :=hcc q hlt 0 (by omega);rw[Nat.mul_one,Nat.add_zero,oneF,ho] at this;exact this
   have c1:wr.cell? (ad ob (oo+o))=some (.bool (O o)):=by have :=hoc o hon 0 (by omega);simpa using this
   have x5:=(S1.out.2.1.mono M.out.1 nr).cel 5
   clear hcc hoc hQ
   have hq0:(0:Int)<=(q:Int):=by omega
   have hql:(q:Int)<((y.ns+y.no:Nat):Int):=by omega
   have ho0:(0:Int)<=(o:Int):=by omega
   have hon':(o:Int)<(no:Int):=by omega
   have hszr:w1.heap.size<=wr.heap.size:=M.out.1.size
   have HS:Hid (∀g,O o=g->occC y O q=g):=fun g e=>by
    have :(secC y q).toNat=o:=by omega
    rw[occC,this,e]
   have HSV:Hid (secC y q=(o:Int)):=ho
   cases hO:O o with
   |false=>
    rw[hO] at c1
    have HD2:Hid (m=selN (occC y O) (q+1)/\D=selE (occC y O) (secC y) (q+1)):=⟨HD.out.1.trans (selN_no (HS.out _ hO)).symm,HD.out.2.trans (selE_no (HS.out _ hO)).symm⟩
    go_wp2_with fail
    go_roundw
    case rel=>exact⟨q+1,m,va,vc,D,by omega,by omega,by go_num,rfl,HD2,M⟩
    case measure=>simp[intOf];omega
   |true=>
    rw[hO] at c1
    have HD2:Hid (m+1=selN (occC y O) (q+1)/\updI D m (o:Int)=selE (occC y O) (secC y) (q+1)):=⟨by rw[selN_yes (HS.out _ hO),HD.out.1],by rw[selE_yes (HS.out _ hO),HSV.out,HD.out.1,HD.out.2]⟩
    have HW:Hid (VOwn w1.heap.size 3 1 wr (.slice va m vc) m (oneF (updI D m (o:Int)))):=M.out.2.congr fun i hi j _=>by simp[updI,hi]
    have hbx:Box (wr.alloc (.cells #[.int .i64 (o:Int)] 3)) wr.heap.size 3 #[.int .i64 (o:Int)]:=Box.new _ _ _
    go_wp2_with(at_builtin;go_must (refine wpList_vapp _ rfl _ _ 22 rfl w1.heap.size 3 i0 _ 1 8 Tryz.underlying22 hi0 hz0 hs0 hb0 rfl (by decide) (.slice va m vc) m (oneF (updI D m (o:Int))) rfl (HW.out.alloc _) (fun _ _=>rfl) wr.heap.size 1 #[.int .i64 (o:Int)] rfl hbx (by simp[updI]) (by simp only[maxLen];omega) (by omega) (by simp;omega) (Halt.mk ?_)))
    intro v2 w2 o2 g2
    obtain⟨va2,vc2,rfl⟩:=o2.val
    have M2:Hid (Below w1.heap.size w1 w2/\VOwn w1.heap.size 3 1 w2 (.slice va2 (m+1) vc2) (m+1) (oneF (updI D m (o:Int)))):=⟨(M.out.1.alloc hszr _).grown g2 (by simp;omega) (fun j hj=>(HW.out.lt hj).1),o2⟩
    clear o2 g2 HW hbx
    go_wp2_with fail
    go_roundw
    case rel=>exact⟨q+1,m+1,va2,vc2,_,by omega,by omega,by go_num,rfl,HD2,M2⟩
    case measure=>simp[intOf];omega
  ·
   obtain rfl:q=y.ns+y.no:=by omega
   have HF:Hid (CrL w y O (.returned (.slice va m vc)) wr):=by
    obtain⟨e1,e2⟩:=HD.out
    refine⟨va,vc,by rw[e1],?_,S1.out.1.trans (M.out.1.mono S1.out.1.size)⟩
    rw[<-e1,<-e2]
    exact M.out.2.keep S1.out.1.size fun _ _=>rfl
   go_wp2_with fail
   go_ret
   exact HF.out
def toL (m:Nat) (D:Nat->Int):List Int:=(List.range m).map D
theorem toL_length (m:Nat) (D:Nat->Int):(toL m D).length=m:=by simp[toL]
theorem toL_selE (q:Nat->Bool) (v:Nat->Int):∀n,toL (selN q n) (selE q v n)=((List.range n).filter q).map v
 |0=>rfl
 |n+1=>by
  have ih:=toL_selE q v n
  rw[List.range_succ,List.filter_append,List.map_append,<-ih]
  cases h:q n with
  |false=>simp[selN_no h,selE_no h,h]
  |true=>
   rw[selN_yes h,selE_yes h,toL,List.range_succ,List.map_append]
   congr 1
   ·
    exact List.map_congr_left fun a ha=>by simp[updI,List.mem_range.1 ha]
   ·
    simp[updI,h]
theorem selD_E (q:Nat->Bool):∀n,selD q n=selE q (fun i:Nat=>(i:Int)) n
 |0=>rfl
 |n+1=>by
  cases h:q n with
  |false=>rw[selD_no h,selE_no h,selD_E q n]
  |true=>rw[selD_yes h,selE_yes h,selD_E q n]
theorem pair_sel (r:Nat->Bool) (s:Nat):(((List.range s).filter r).map fun i:Nat=>(i:Int)).Pairwise (· < ·):=by
 rw[List.pairwise_map]
 exact(List.pairwise_lt_range.filter _).imp fun h=>by omega
theorem sort_sel {q r:Nat->Bool}{v:Nat->Int}{n s:Nat}(hnd:∀i j,i<n->j<n->q i=true->q j=true->v i=v j->i=j)
  (hm:∀x:Int,(∃j,j<n/\q j=true/\v j=x)↔∃i:Nat,i<s/\r i=true/\(i:Int)=x):
  (toL (selN q n) (selE q v n)).mergeSort (fun x y=>decide (x<=y))=toL (selN r s) (selD r s):=by
 rw[toL_selE,selD_E,toL_selE]
 have h2:=pair_sel r s
 have nd1:(((List.range n).filter q).map v).Nodup:=by
  rw[List.Nodup,List.pairwise_map]
  refine List.Pairwise.imp_of_mem ?_ (List.pairwise_lt_range.filter q)
  intro a b ha hb hlt e
  simp only[List.mem_filter,List.mem_range] at ha hb
  have :=hnd a b ha.1 hb.1 ha.2 hb.2 e
  omega
 have nd2:(((List.range s).filter r).map fun i:Nat=>(i:Int)).Nodup:=h2.imp fun h e=>by omega
 have hp:(((List.range n).filter q).map v).Perm (((List.range s).filter r).map fun i:Nat=>(i:Int)):=by
  rw[List.perm_ext_iff_of_nodup nd1 nd2]
  intro x
  simp only[List.mem_map,List.mem_filter,List.mem_range]
  constructor
  ·
   rintro⟨j,⟨hj,hq⟩,hx⟩
   obtain⟨i,h1,h2,h3⟩:=(hm x).1 ⟨j,hj,hq,hx⟩
   exact⟨i,⟨h1,h2⟩,h3⟩
  ·
   rintro⟨j,⟨hj,hq⟩,hx⟩
   obtain⟨i,h1,h2,h3⟩:=(hm x).2 ⟨j,hj,hq,hx⟩
   exact⟨i,⟨h1,h2⟩,h3⟩
 refine List.Perm.eq_of_pairwise (le:=fun x y:Int=>decide (x<=y)=true) ?_ (List.pairwise_mergeSort (fun a b c h1 h2=>?_) (fun a b=>?_) _) (h2.imp fun h=>?_) ((List.mergeSort_perm _ _).trans hp)
 ·
  intro a b _ _ h1 h2
  simp only[decide_eq_true_eq] at h1 h2
  omega
 ·
  simp only[decide_eq_true_eq] at h1 h2⊢
  omega
 ·
  simp only[Bool.or_eq_true,decide_eq_true_eq]
  omega
 ·
  simp only[decide_eq_true_eq]
  omega
end Go.Proofs.YtkeilejbelblcaaGreatDoor
namespace Go.Proofs.YtkeilejbelblcaaGreatDoor
open Go.RowKit
theorem idx_any (S:Nat->Int) (n:Nat) (x:Int):decide (0<=placeZ (idxF S n x))=anyB (fun j=>decide (S j=x)) n:=by
 unfold idxF
 cases h:firstB (fun j=>decide (S j=x)) n with
 |none=>
  rw[anyB_no (firstB_all h)]
  rfl
 |some j=>
  obtain⟨h1,h2⟩:=firstB_spec h
  rw[anyB_yes h1 h2]
  simp[placeZ]
theorem anyB_congr {f g:Nat->Bool}{n:Nat}(h:∀i,i<n->f i=g i):anyB f n=anyB g n:=by
 unfold anyB
 rw[allB_congr fun i hi=>by rw[h i hi]]
set_option maxHeartbeats 400000 in
theorem contains132 (a:Option Addr) (n cap:Nat) (S:Nat->Int) (x:Int) (w:World) (hn:n<=1048576) (h:VsAt 1 0 w a n (oneF S)):
  Calls Tryz.prog 158 #[.slice a n cap,.int .i64 x] w fun e w'=>e=.returned (.bool (anyB (fun j=>decide (S j=x)) n))/\w'=w:=by
 go_enter Tryz.func158,Tryz.ntmps158
 go_wp2_with fail
 refine(index83 a n cap S x w hn h).mono ?_
 rintro e w1 ⟨rfl,hw⟩
 have hw:=hw.symm
 subst hw
 have HX:Hid (decide (0<=placeZ (idxF S n x))=anyB (fun j=>decide (S j=x)) n):=idx_any S n x
 generalize placeZ (idxF S n x)=r at HX⊢
 go_wp2_with fail
 go_ret
 exact⟨by rw[<-HX.out];rfl,rfl⟩
set_option maxHeartbeats 400000 in
theorem ov131 (a:Option Addr) (n cap:Nat) (B:Nat->Int) (bq:Nat) (x:Int) (w:World) (hn:n<=1048576) (h:VsAt 1 0 w a n (oneF B)) (hx:w.cell? (ad bq 0)=some (.slice a n cap)):
  Calls Tryz.prog 157 #[.int .i64 x,.pointer (some (ad bq 0))] w fun e w'=>e=.returned (.bool (anyB (fun j=>decide (B j=x)) n))/\w'=w:=by
 go_enter Tryz.func157,Tryz.ntmps157
 go_wp2_with fail
 refine(contains132 a n cap B x w hn h).mono ?_
 rintro e w1 ⟨rfl,hw⟩
 have hw:=hw.symm
 subst hw
 go_wp2_with fail
 go_ret
 exact⟨rfl,rfl⟩
def IoR (w:World) (A:Nat->Int) (m:Nat) (B:Nat->Int) (n:Nat) (e:Ending) (w':World):Prop:=
 ∃r:Int,e=.returned (.int .i64 r)/\decide (0<=r)=meetF A m B n/\w'=w
set_option maxRecDepth 100000 in
set_option maxHeartbeats 4000000 in
theorem index149 (a:Option Addr) (m ca:Nat) (A:Nat->Int) (b:Option Addr) (n cb:Nat) (B:Nat->Int) (bq:Nat) (w:World) (hm:m<=1048576) (hn:n<=1048576) (hA:VsAt 1 0 w a m (oneF A)) (hB:VsAt 1 0 w b n (oneF B)) (hx:w.cell? (ad bq 0)=some (.slice b n cb)):
  Calls Tryz.prog 151 #[.slice a m ca,.func (.func 157) #[] #[.pointer (some (ad bq 0))]] w fun e w'=>IoR w A m B n e w':=by
 have H:Hid (VsAt 1 0 w a m (oneF A)/\VsAt 1 0 w b n (oneF B)/\w.cell? (ad bq 0)=some (.slice b n cb)):=⟨hA,hB,hx⟩
 clear hA hB hx
 have HMS:Hid (∀i,anyB (fun j=>decide (A i=B j)) n=anyB (fun j=>decide (B j=A i)) n):=fun i=>anyB_congr fun j _=>by simp[eq_comm]
 go_enter Tryz.func151,Tryz.ntmps151
 go_wp2_with fail
 go_loop [8] (fun i=>∃k:Nat,k<=m/\i=.int .i64 k/\Hid (∀j,j<k->anyB (fun t=>decide (B t=A j)) n=false)) (fun i=>m-(intOf i).toNat)
 case atStart=>exact⟨0,Nat.zero_le _,rfl,fun i hi=>absurd hi (Nat.not_lt_zero _)⟩
 case round=>
  obtain⟨k,hk,rfl,HK⟩:=hrel
  by_cases hlt:k<m
  ·
   obtain⟨ab,off,rfl,_,hb,hc⟩:=H.out.1 (by omega)
   have c0:w.cell? (ad ab (off+k))=some (.int .i64 (A k)):=by have :=hc k hlt 0 (by omega);rwa [Nat.mul_one] at this
   have hk0:(0:Int)<=(k:Int):=by omega
   have hkn:(k:Int)<(m:Int):=by omega
   clear hc
   go_wp2_with fail
   refine(ov131 b n cb B bq (A k) w hn H.out.2.1 H.out.2.2).mono ?_
   rintro e w2 ⟨he,hw⟩
   have hw:=hw.symm
   subst hw
   obtain⟨u,HU⟩:∃u,Hid (anyB (fun t=>decide (B t=A k)) n=u):=⟨_,rfl⟩
   rw[HU.out] at he
   subst he
   cases u with
   |true=>
    have HF:Hid (meetF A m B n=true):=anyB_yes hlt (by rw[HMS.out,HU.out])
    go_wp2_with fail
    go_ret
    exact⟨_,rfl,by rw[HF.out];simp,rfl⟩
   |false=>
    have HK2:Hid (∀j,j<k+1->anyB (fun t=>decide (B t=A j)) n=false):=fun j hj=>by
     by_cases c:j=k
     ·
      subst c
      exact HU.out
     ·
      exact HK.out j (by omega)
    go_wp2_with fail
    go_round
    case rel=>exact⟨k+1,by omega,by go_num,HK2⟩
    case measure=>simp[intOf];omega
  ·
   have HF:Hid (meetF A m B n=false):=anyB_no fun j hj=>by rw[HMS.out];exact HK.out j (by omega)
   have hge:¬((k:Int)<(m:Int)):=by omega
   go_wp2_with fail
   go_ret
   exact⟨_,rfl,by rw[HF.out];rfl,rfl⟩
set_option maxHeartbeats 400000 in
theorem contains130 (a:Option Addr) (m ca:Nat) (A:Nat->Int) (b:Option Addr) (n cb:Nat) (B:Nat->Int) (bq:Nat) (w:World) (hm:m<=1048576) (hn:n<=1048576) (hA:VsAt 1 0 w a m (oneF A)) (hB:VsAt 1 0 w b n (oneF B)) (hx:w.cell? (ad bq 0)=some (.slice b n cb)):
  Calls Tryz.prog 144 #[.slice a m ca,.func (.func 157) #[] #[.pointer (some (ad bq 0))]] w fun e w'=>e=.returned (.bool (meetF A m B n))/\w'=w:=by
 go_enter Tryz.func144,Tryz.ntmps144
 go_wp2_with fail
 refine(index149 a m ca A b n cb B bq w hm hn hA hB hx).mono ?_
 rintro e w1 ⟨r,rfl,hr,hw⟩
 have hw:=hw.symm
 subst hw
 have HR:Hid (decide (0<=r)=meetF A m B n):=hr
 clear hr
 go_wp2_with fail
 go_ret
 exact⟨by rw[<-HR.out];rfl,rfl⟩
set_option maxHeartbeats 400000 in
theorem overlap116 (a:Option Addr) (m ca:Nat) (A:Nat->Int) (b:Option Addr) (n cb:Nat) (B:Nat->Int) (w:World) (hm:m<=1048576) (hn:n<=1048576) (hA:VsAt 1 0 w a m (oneF A)) (hB:VsAt 1 0 w b n (oneF B)):
  Calls Tryz.prog 154 #[.slice a m ca,.slice b n cb] w fun e w'=>e=.returned (.bool (meetF A m B n))/\Below w.heap.size w w':=by
 have S0:Hid (Below w.heap.size w (w.alloc (.cells #[.slice b n cb] 22))/\Box (w.alloc (.cells #[.slice b n cb] 22)) w.heap.size 22 #[.slice b n cb]):=⟨bel1 _ _,Box.new _ _ _⟩
 have H:Hid (VsAt 1 0 w a m (oneF A)/\VsAt 1 0 w b n (oneF B)):=⟨hA,hB⟩
 clear hA hB
 go_enter Tryz.func154,Tryz.ntmps154
 go_wp2_with fail
 generalize w.alloc (.cells #[.slice b n cb] 22)=V0 at S0⊢
 refine(contains130 a m ca A b n cb B w.heap.size V0 hm hn (H.out.1.mono nr S0.out.1 nr) (H.out.2.mono nr S0.out.1 nr) (S0.out.2.cell 0)).mono ?_
 rintro e w1 ⟨rfl,hw⟩
 have hw:=hw.symm
 subst hw
 go_wp2_with fail
 go_ret
 exact⟨rfl,S0.out.1⟩
end Go.Proofs.YtkeilejbelblcaaGreatDoor
